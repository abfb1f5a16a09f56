import PyProof.Rows.All
import Wide.All
import OpenK.AllK
import Wide.FinOn
import Lean
import PyProof.EqAt
import PyProof.EqKinds
import PyProof.TupleCall
import PyProof.NeKinds
import PyProof.ExcAttrAll.ValueError
import KE.RegKTryMore
import KE.RegKIsAll
import PyProof.NsDelKeeps
import PySem.Challenge.RW_twofold_k08_refused
set_option Elab.async false
set_option linter.all false
set_option maxRecDepth 100000
/-! THE HAND LAYER, for ints, bools, texts, own classes, LISTS and tuples (index, slices, in, append, pop ..), calls, loops. Paste it whole ahead of your own text; what your proof does not reach may be deleted. -/
namespace L2
open PySem PySem.Spec PyProof.Rows

/-- a key: an int or a str -/
abbrev Key := Sum Int Str
def keyIs : Key → Value → Bool
  | .inl k, v => Value.isInt k v
  | .inr x, v => Value.isStrOf x v
def keyH (w : World) : Key → Int
  | .inl k => hashInt k
  | .inr x => hashStr w x
theorem keyIs_shape : ∀ {k : Key} {v : Value}, keyIs k v = true → (∃ i t, k = Sum.inl i ∧ v = Value.int i t) ∨ (∃ x t, k = Sum.inr x ∧ v = Value.str x t)
  | .inl i, v, h => by
    obtain ⟨t, e⟩ := Value.isInt_shape (k := i) (v := v) h
    exact .inl ⟨i, t, rfl, e⟩
  | .inr x, v, h => by
    obtain ⟨t, e⟩ := Value.isStrOf_shape (x := x) (v := v) h
    exact .inr ⟨x, t, rfl, e⟩
theorem keyIs_int (i : Int) (t : Tok) : keyIs (.inl i) (.int i t) = true := by simp [keyIs, Value.isInt]
theorem key_ll (a b : Int) : decide ((Sum.inl a : Key) = Sum.inl b) = (a == b) := by
  by_cases e : a = b
  · subst e; simp
  · have h : ¬ (Sum.inl a : Key) = Sum.inl b := fun q => e (Sum.inl.inj q)
    rw [decide_eq_false h]
    exact (beq_eq_false_iff_ne.mpr e).symm
theorem key_rr (a b : Str) : decide ((Sum.inr a : Key) = Sum.inr b) = decide (a = b) := by
  by_cases e : a = b
  · subst e; simp
  · have h : ¬ (Sum.inr a : Key) = Sum.inr b := fun q => e (Sum.inr.inj q)
    rw [decide_eq_false h, decide_eq_false e]
theorem key_lr (a : Int) (b : Str) : decide ((Sum.inl a : Key) = Sum.inr b) = false := decide_eq_false (fun q => nomatch q)
theorem key_rl (a : Str) (b : Int) : decide ((Sum.inr a : Key) = Sum.inl b) = false := decide_eq_false (fun q => nomatch q)

def mixKind (prog : Program) (w : World) : PySem.KeyKind prog w Key where
  is := keyIs
  hash := keyH w
  inj := fun v a b ha hb => by
    rcases keyIs_shape ha with ⟨i, t, rfl, rfl⟩ | ⟨x, t, rfl, rfl⟩
    · rcases keyIs_shape hb with ⟨j, u, rfl, e⟩ | ⟨y, u, rfl, e⟩
      · injection e with e1 _; rw [e1]
      · exact nomatch e
    · rcases keyIs_shape hb with ⟨j, u, rfl, e⟩ | ⟨y, u, rfl, e⟩
      · exact nomatch e
      · injection e with e1 _; rw [e1]
  byValue := fun k v h => by
    rcases keyIs_shape h with ⟨i, t, rfl, rfl⟩ | ⟨x, t, rfl, rfl⟩ <;> rfl
  pyHash := fun hv h => by
    rcases keyIs_shape hv with ⟨i, t, rfl, rfl⟩ | ⟨x, t, rfl, rfl⟩
    · exact wpAny_pyHash_int h
    · exact wpAny_pyHash_str h
  eqBool := fun hu hv h => by
    rcases keyIs_shape hu with ⟨i, t, rfl, rfl⟩ | ⟨x, t, rfl, rfl⟩
    · rcases keyIs_shape hv with ⟨j, u, rfl, rfl⟩ | ⟨y, u, rfl, rfl⟩
      · rw [key_ll] at h; exact wpAny_eqBool_int h
      · rw [key_lr] at h; exact SeqAt.EqAt.int_str i t y u _ _ _ _ h
    · rcases keyIs_shape hv with ⟨j, u, rfl, rfl⟩ | ⟨y, u, rfl, rfl⟩
      · rw [key_rl] at h; exact SeqAt.EqAt.str_int x t j u _ _ _ _ h
      · rw [key_rr] at h; exact wpAny_eqBool_str h
  «strs» := fun k x t v h => by
    rcases keyIs_shape h with ⟨i, u, rfl, e⟩ | ⟨y, u, rfl, e⟩
    · exact nomatch e
    · injection e with e1 _
      subst e1
      cases v <;> rfl

theorem mixKind_int (prog : Program) (w : World) (i : Int) (t : Tok) : (mixKind prog w).is (.inl i) (.int i t) = true := keyIs_int i t
end L2

namespace L2
open PySem PySem.Spec PyProof.Rows

/-- a value, without the heap -/
inductive V where
  | non | bl (b : Bool) | int (i : Int) | str (x : Str) | byt (b : Array UInt8) | flt (b : UInt64) | ref (a : Addr) | ty (n : String)
  deriving DecidableEq

def RelV : V → Value → Prop
  | .non, u => u = Value.none
  | .bl b, u => u = Value.bool b
  | .int i, u => ∃ t, u = Value.int i t
  | .str x, u => ∃ t, u = Value.str x t
  | .byt b, u => ∃ t, u = Value.bytes b t
  | .flt b, u => ∃ t, u = Value.float b t
  | .ref a, u => u = Value.ref a
  | .ty n, u => u = Value.type n

abbrev Vals : List V → List Value → Prop := Paired RelV
theorem Vals.length {xs : List V} {us : List Value} (r : Vals xs us) : xs.length = us.length := Paired.length r
theorem Vals.get : ∀ {xs : List V} {us : List Value} {i : Nat} {x : V}, Vals xs us → xs[i]? = some x → ∃ u, us[i]? = some u ∧ RelV x u
  | _, _, _, _, .nil, e => by simp at e
  | _, _, 0, _, .cons r _, e => by simp at e; subst e; exact ⟨_, rfl, r⟩
  | _, _, i + 1, x, .cons _ t, e => by
    obtain ⟨u, h1, h2⟩ := Vals.get (i := i) (x := x) t (by simpa using e)
    exact ⟨u, by simpa using h1, h2⟩
theorem Vals.set {x : V} {u : Value} (r : RelV x u) : ∀ {xs : List V} {us : List Value} (i : Nat), Vals xs us → Vals (xs.set i x) (us.set i u)
  | _, _, _, .nil => .nil
  | _, _, 0, .cons _ t => .cons r t
  | _, _, i + 1, .cons q t => .cons q (Vals.set r i t)
theorem Vals.append : ∀ {xs ys : List V} {us ws : List Value}, Vals xs us → Vals ys ws → Vals (xs ++ ys) (us ++ ws)
  | _, _, _, _, .nil, s => s
  | _, _, _, _, .cons r t, s => .cons r (Vals.append t s)
theorem Vals.take : ∀ {xs : List V} {us : List Value} (n : Nat), Vals xs us → Vals (xs.take n) (us.take n)
  | _, _, 0, _ => .nil
  | _, _, _ + 1, .nil => .nil
  | _, _, n + 1, .cons r t => .cons r (Vals.take n t)
theorem Vals.drop : ∀ {xs : List V} {us : List Value} (n : Nat), Vals xs us → Vals (xs.drop n) (us.drop n)
  | _, _, 0, r => r
  | _, _, _ + 1, .nil => .nil
  | _, _, n + 1, .cons _ t => Vals.drop n t
def RelO : Option V → Option Value → Prop
  | some v, some u => RelV v u
  | none, none => True
  | _, _ => False
def KV {κ : Type} : List (κ × V) → List (κ × Value) → Prop := Paired fun (p : κ × V) (q : κ × Value) => p.1 = q.1 ∧ RelV p.2 q.2

/-- a key of a dict (00_mix): an int or a text -/
def kV : Key → V
  | .inl i => .int i
  | .inr x => .str x

/-- what stands at a tracked address -/
inductive HO where
  /-- a list -/
  | lst (xs : List V)
  /-- a tuple (never changes) -/
  | tup (xs : List V)
  /-- a dict whose keys are ints and texts; one whose keys are tuples of ints and texts (the empty one is both) -/
  | dK (kvs : List (Key × V)) | dT (kvs : List (List Key × V))
  /-- a set of ints: its members, its size -/
  | set (S : Int → Bool) (n : Nat)
  /-- an instance of the class at C, its dict at dx, its attributes -/
  | ins (C dx : Addr) (fs : List (Str × V))
  /-- the dict of the instance at x -/
  | own (x : Addr)
  /-- the dict of an exception -/
  | xd (fs : List (Str × V))
  /-- a bound method, f of x -/
  | met (f x : Addr)
  /-- a range object lo, lo + 1, .. below hi -/
  | rng (lo hi : Int)
  /-- a thing that is known to the object (the script; a dict while a loop walks it): read, never written while it is so -/
  | frz (o : Obj) (u : HO)
  /-- a code object's table -/
  | tbl (ps : Array Value)
  /-- any other thing, by what is true of its one object (a def of one's own: SetO a S n := HO.ext fun h => ..) -/
  | ext (φ : Heap → Prop)

abbrev Hp := Addr → Option HO
def upd (H : Hp) (a : Addr) (o : HO) : Hp := fun b => if b = a then some o else H b
theorem upd_same {H : Hp} {a : Addr} {o : HO} : upd H a o a = some o := by unfold upd; rw [if_pos rfl]
theorem upd_ne {H : Hp} {a b : Addr} {o : HO} (h : b ≠ a) : upd H a o b = H b := by unfold upd; rw [if_neg h]
/-- two objects of different content stand apart -/
theorem ne_of {H : Hp} {a b : Addr} {o u : HO} (h : H a = some o) (h' : H b = some u) (d : o ≠ u) : a ≠ b := by
  intro e; subst e; rw [h] at h'; exact d (Option.some.inj h')
theorem ne_of_none {H : Hp} {a b : Addr} {o : HO} (h : H a = some o) (h' : H b = none) : a ≠ b := by
  intro e; subst e; rw [h] at h'; cases h'

section
variable (P : Program) (w : World)
def ObjOk (H : Hp) (h : Heap) (a : Addr) : HO → Prop
  | .lst xs => xs.length ≤ sizeLine ∧ ∃ (its : List Value) (n : Nat), Vals xs its ∧ h.get? a = some { cls := .type "list", data := .seq its.toArray n }
  | .tup xs => xs.length ≤ sizeLine ∧ ∃ its : List Value, Vals xs its ∧ IsTup h a its.toArray
  | .dK kvs => kvs.length ≤ sizeLine ∧ (a == sysModules) = false ∧ ∃ vs, KV kvs vs ∧ h.DictOf (mixKind P w) a vs
  | .dT kvs => kvs.length ≤ sizeLine ∧ (a == sysModules) = false ∧ ∃ xs : List (List Key × Addr × Value),
      Paired (fun (p : List Key × V) (q : List Key × Addr × Value) => p.1 = q.1 ∧ H q.2.1 = some (.tup (p.1.map kV)) ∧ RelV p.2 q.2.2) kvs xs ∧
      ∃ o es ep, h.get? a = some o ∧ o.ExactDict ∧ o.data = .dict es ep ∧ es.toList = xs.map (entryOfKey (tupleKind (mixKind P w))) ∧ (xs.map (·.1)).Nodup
  | .set S n => h.SetOf (intKind P w) a S n
  | .ins C dx fs => H dx = some (.own a) ∧ fs.length ≤ 1000 ∧ dx ≠ a ∧ h.get? a = some (PySem.W.instObj C dx) ∧
      ∃ mA, h.Ns1 dx mA ∧ (∀ f, RelO (fs.lookup f) (mA f)) ∧ PySem.Within mA (fs.map (·.1))
  | .own _ => ∃ o, h.get? a = some o
  | .xd fs => ∃ mA, h.Ns1 a mA ∧ ∀ f, RelO (fs.lookup f) (mA f)
  | .rng lo hi => ∃ t u v, h.get? a = some { cls := .type "range", data := .fields #[.int lo t, .int hi u, .int 1 v] }
  | .frz o u => h.get? a = some o ∧ ObjOk H h a u
  | .tbl ps => h.get? a = some { cls := .none, data := .fields ps }
  | .met f x => h.get? a = some (PySem.W.methodObj (.ref f) (.ref x))
  | .ext φ => φ h ∧ (∃ o, h.get? a = some o) ∧ ∀ h1 h2 : Heap, φ h1 → (∀ o, h1.get? a = some o → h2.get? a = some o) → φ h2
/-- the abstract heap is held -/
def HOk (H : Hp) (h : Heap) : Prop := ∀ a o, H a = some o → ObjOk P w H h a o
end

section
variable {P : Program} {w : World} {H H' : Hp} {h h' : Heap} {a : Addr} {o : HO}
theorem ObjOk.lt (x : ObjOk P w H h a o) : a < h.objs.size := by
  cases o with
  | lst xs => obtain ⟨_, _, _, _, e⟩ := x; exact Heap.lt_size e
  | tup xs => obtain ⟨_, _, _, p⟩ := x; exact p.lt
  | dK kvs => obtain ⟨_, _, _, _, o, _, _, e, _⟩ := x; exact Heap.lt_size e
  | dT kvs => obtain ⟨_, _, _, _, o, _, _, e, _⟩ := x; exact Heap.lt_size e
  | set S n => obtain ⟨o, _, _, _, e, _⟩ := x; exact Heap.lt_size e
  | ins C dx fs => obtain ⟨_, _, _, e, _⟩ := x; exact Heap.lt_size e
  | own y => obtain ⟨_, e⟩ := x; exact Heap.lt_size e
  | xd fs => obtain ⟨_, ⟨_, _, _, e, _⟩, _⟩ := x; exact Heap.lt_size e
  | rng lo hi => obtain ⟨_, _, _, e⟩ := x; exact Heap.lt_size e
  | frz ob u => obtain ⟨e, _⟩ := x; exact Heap.lt_size e
  | tbl ps => exact Heap.lt_size (show h.get? a = some _ from x)
  | met f y => exact Heap.lt_size (show h.get? a = some _ from x)
  | ext φ => obtain ⟨_, ⟨_, e⟩, _⟩ := x; exact Heap.lt_size e
theorem Paired.mapP {α β : Type} {F G : α → β → Prop} : ∀ {l₁ : List α} {l₂ : List β}, Paired F l₁ l₂ → (∀ a b, F a b → G a b) → Paired G l₁ l₂
  | _, _, .nil, _ => .nil
  | _, _, .cons r t, f => .cons (f _ _ r) (Paired.mapP t f)
/-- what an object's description leans on: its own object, its own dict, the tuples -/
theorem ObjOk.stay (x : ObjOk P w H h a o) (k : ∀ b u, (b = a ∨ H b = some (.own a)) → h.get? b = some u → h'.get? b = some u)
    (ho : ∀ b, H b = some (.own a) → H' b = some (.own a)) (ht : ∀ b xs, H b = some (.tup xs) → H' b = some (.tup xs)) : ObjOk P w H' h' a o := by
  induction o with
  | lst xs => obtain ⟨z, its, n, r, e⟩ := x; exact ⟨z, its, n, r, k _ _ (.inl rfl) e⟩
  | tup xs => obtain ⟨z, its, r, ob, e, c⟩ := x; exact ⟨z, its, r, ob, k _ _ (.inl rfl) e, c⟩
  | dK kvs => obtain ⟨z, y, vs, r, ob, es, ep, e, c⟩ := x; exact ⟨z, y, vs, r, ob, es, ep, k _ _ (.inl rfl) e, c⟩
  | dT kvs =>
    obtain ⟨z, y, xs, r, ob, es, ep, e, c⟩ := x
    exact ⟨z, y, xs, Paired.mapP r fun p q z => ⟨z.1, ht _ _ z.2.1, z.2.2⟩, ob, es, ep, k _ _ (.inl rfl) e, c⟩
  | set S n => obtain ⟨ob, es, ep, t, e, c⟩ := x; exact ⟨ob, es, ep, t, k _ _ (.inl rfl) e, c⟩
  | ins C dx fs =>
    obtain ⟨d, z, ne, e, mA, ⟨od, es, ep, e2, c⟩, r⟩ := x
    exact ⟨ho _ d, z, ne, k _ _ (.inl rfl) e, mA, ⟨od, es, ep, k _ _ (.inr d) e2, c⟩, r⟩
  | own y => obtain ⟨ob, e⟩ := x; exact ⟨ob, k _ _ (.inl rfl) e⟩
  | xd fs => obtain ⟨mA, ⟨od, es, ep, e, c⟩, r⟩ := x; exact ⟨mA, ⟨od, es, ep, k _ _ (.inl rfl) e, c⟩, r⟩
  | rng lo hi => obtain ⟨t, u, v, e⟩ := x; exact ⟨t, u, v, k _ _ (.inl rfl) e⟩
  | frz ob u ih => obtain ⟨e, q⟩ := x; exact ⟨k _ _ (.inl rfl) e, ih q⟩
  | tbl ps =>
    have e : h.get? a = some { cls := .none, data := .fields ps } := x
    show h'.get? a = some { cls := .none, data := .fields ps }
    exact k a _ (.inl rfl) e
  | met f y =>
    have e : h.get? a = some (PySem.W.methodObj (.ref f) (.ref y)) := x
    show h'.get? a = some (PySem.W.methodObj (.ref f) (.ref y))
    exact k a _ (.inl rfl) e
  | ext φ => obtain ⟨p, ⟨o, e⟩, st⟩ := x; exact ⟨st _ _ p fun o q => k _ _ (.inl rfl) q, ⟨o, k _ _ (.inl rfl) e⟩, st⟩
theorem HOk.lt (x : HOk P w H h) (e : H a = some o) : a < h.objs.size := (x a o e).lt
theorem HOk.fresh (x : HOk P w H h) (e : h.objs.size ≤ a) : H a = none := by
  cases q : H a with
  | none => rfl
  | some u => exact absurd (Nat.lt_of_lt_of_le (x.lt q) e) (Nat.lt_irrefl _)
/-- every object of the heap is kept -/
theorem HOk.kept (x : HOk P w H h) (k : ∀ b u, h.get? b = some u → h'.get? b = some u) : HOk P w H h' := fun a o e =>
  (x a o e).stay (fun b u _ q => k b u q) (fun _ q => q) fun _ _ q => q
/-- a new object is laid and tracked -/
theorem HOk.laid (x : HOk P w H h) (k : ∀ b u, h.get? b = some u → h'.get? b = some u) (hp : h.objs.size ≤ a) (new : ObjOk P w (upd H a o) h' a o) : HOk P w (upd H a o) h' := fun b u e => by
  have hn := x.fresh hp
  by_cases hb : b = a
  · subst hb; rw [upd_same] at e; cases e; exact new
  · rw [upd_ne hb] at e
    exact (x b u e).stay (fun c v _ q => k c v q) (fun c q => by rw [upd_ne (ne_of_none q hn)]; exact q) fun c xs q => by rw [upd_ne (ne_of_none q hn)]; exact q
end

/-- what may be read as u: it is u, or a known u -/
def Rd (H : Hp) (a : Addr) (u : HO) : Prop := H a = some u ∨ ∃ o, H a = some (.frz o u)
theorem Rd.of {H : Hp} {a : Addr} {u : HO} (h : H a = some u) : Rd H a u := .inl h
theorem Rd.ok {P : Program} {w : World} {H : Hp} {h : Heap} {a : Addr} {u : HO} (r : Rd H a u) (x : HOk P w H h) : ObjOk P w H h a u := by
  rcases r with r | ⟨o, r⟩
  · exact x a u r
  · obtain ⟨_, q⟩ := x a _ r
    exact q
/-- what may be written -/
def Mut : Option HO → Prop
  | some (.lst _) => True
  | some (.dK _) => True
  | some (.dT _) => True
  | some (.set _ _) => True
  | some (.ins _ _ _) => True
  | some (.ext _) => True
  | _ => False
section
variable {P : Program} {w : World} {H : Hp} {h h' : Heap} {x e : Addr} {o' : HO}
/-- the object at e is changed: x itself, or the dict of the instance x -/
theorem HOk.write (ok : HOk P w H h) (mu : Mut (H x)) (he : e = x ∨ H e = some (.own x)) (k : ∀ b u, b ≠ e → h.get? b = some u → h'.get? b = some u) (heo : ∃ u, h'.get? e = some u)
    (new : ObjOk P w (upd H x o') h' x o') : HOk P w (upd H x o') h' := fun b u q => by
  have nown : ∀ c y, H c = some (.own y) → c ≠ x := fun c y r z => by subst z; rw [r] at mu; exact mu
  have ntup : ∀ c xs, H c = some (.tup xs) → c ≠ x := fun c xs r z => by subst z; rw [r] at mu; exact mu
  by_cases hb : b = x
  · subst hb; rw [upd_same] at q; cases q; exact new
  · rw [upd_ne hb] at q
    by_cases hbe : b = e
    · have q' : H b = some (.own x) := by
        rcases he with z | z
        · exact absurd (hbe.trans z) hb
        · rw [hbe]; exact z
      rw [q] at q'; cases q'
      obtain ⟨v, hv⟩ := heo
      exact ⟨v, by rw [hbe]; exact hv⟩
    · refine (ok b u q).stay (fun c v hc r => k c v ?_ r) (fun c r => by rw [upd_ne (nown c b r)]; exact r) fun c xs r => by rw [upd_ne (ntup c xs r)]; exact r
      rcases hc with rfl | hc
      · exact hbe
      · rintro rfl
        rcases he with z | z
        · exact nown c b hc z
        · rw [hc] at z; cases z; exact hb rfl
end

/-! ### kept unless tracked; of the frames at fs (the callers') the slots may change (an exception that passes writes there); of the records at ex (iterators) nothing is said -/
structure Un (fs ex : List Addr) (H H' : Hp) (h h' : Heap) : Prop where
  keep : ∀ b o, h.get? b = some o → H b = none → b ∉ fs → b ∉ ex → h'.get? b = some o
  slot : ∀ b o, h.get? b = some o → H b = none → b ∈ fs → b ∉ ex → ∃ sl, h'.get? b = some { o with slots := sl }
  free : ∀ b o, h.get? b = some o → H b = none → b ∉ ex → H' b = none
  there : ∀ b o, h.get? b = some o → b ∉ ex → ∃ o', h'.get? b = some o'
  tups : ∀ b xs, H b = some (.tup xs) → H' b = some (.tup xs)
  frzs : ∀ b o u, H b = some (.frz o u) → H' b = some (.frz o u)
  tbls : ∀ b ps, H b = some (.tbl ps) → ∃ more, H' b = some (.tbl (ps ++ more))
section
variable {fs fs' ex ex' : List Addr} {H H1 H2 : Hp} {h h1 h2 h' : Heap} {a x e : Addr} {o : HO}
theorem Un.any (u : Un fs ex H H1 h h1) {b : Addr} {ob : Obj} (q : h.get? b = some ob) (n : H b = none) (hx : b ∉ ex) : ∃ sl, h1.get? b = some { ob with slots := sl } := by
  by_cases hb : b ∈ fs
  · exact u.slot b ob q n hb hx
  · exact ⟨ob.slots, u.keep b ob q n hb hx⟩
theorem Un.trans (a : Un fs ex H H1 h h1) (b : Un fs ex H1 H2 h1 h2) : Un fs ex H H2 h h2 where
  keep := fun c ob q n hc hx => b.keep c ob (a.keep c ob q n hc hx) (a.free c ob q n hx) hc hx
  slot := fun c ob q n hc hx => by
    obtain ⟨sl, e1⟩ := a.slot c ob q n hc hx
    obtain ⟨sl', e2⟩ := b.slot c _ e1 (a.free c ob q n hx) hc hx
    exact ⟨sl', e2⟩
  free := fun c ob q n hx => by
    obtain ⟨o', e1⟩ := a.there c ob q hx
    exact b.free c o' e1 (a.free c ob q n hx) hx
  there := fun c ob q hx => by
    obtain ⟨o', e1⟩ := a.there c ob q hx
    exact b.there c o' e1 hx
  tups := fun c xs q => b.tups c xs (a.tups c xs q)
  frzs := fun c ob xs q => b.frzs c ob xs (a.frzs c ob xs q)
  tbls := fun c ps q => by
    obtain ⟨m1, e1⟩ := a.tbls c ps q
    obtain ⟨m2, e2⟩ := b.tbls c _ e1
    exact ⟨m1 ++ m2, by rw [e2, Array.append_assoc]⟩
theorem Un.kept (k : ∀ b u, h.get? b = some u → h'.get? b = some u) : Un fs ex H H h h' :=
  ⟨fun b ob q _ _ _ => k b ob q, fun b ob q _ _ _ => ⟨ob.slots, k b ob q⟩, fun _ _ _ n _ => n, fun b ob q _ => ⟨ob, k b ob q⟩, fun _ _ q => q, fun _ _ _ q => q, fun _ ps q => ⟨#[], by rw [q]; simp⟩⟩
theorem Un.refl : Un fs ex H H h h := Un.kept fun _ _ q => q
theorem Un.laid (k : ∀ b u, h.get? b = some u → h'.get? b = some u) (hp : h.objs.size ≤ a) (hn : H a = none) : Un fs ex H (upd H a o) h h' where
  keep := fun b u q _ _ _ => k b u q
  slot := fun b u q _ _ _ => ⟨u.slots, k b u q⟩
  free := fun b u q n _ => by rw [upd_ne (Nat.ne_of_lt (Nat.lt_of_lt_of_le (Heap.lt_size q) hp))]; exact n
  there := fun b u q _ => ⟨u, k b u q⟩
  tups := fun b xs q => by rw [upd_ne (ne_of_none q hn)]; exact q
  frzs := fun b u xs q => by rw [upd_ne (ne_of_none q hn)]; exact q
  tbls := fun b ps q => ⟨#[], by rw [upd_ne (ne_of_none q hn), q]; simp⟩
theorem Un.write (mu : Mut (H x)) (he : e = x ∨ H e = some (.own x)) (k : ∀ b u, b ≠ e → h.get? b = some u → h'.get? b = some u) (heo : ∃ u, h'.get? e = some u) : Un fs ex H (upd H x o) h h' := by
  have hx : ∀ b, H b = none → b ≠ x := fun b n z => by subst z; rw [n] at mu; exact mu
  have hb : ∀ b, H b = none → b ≠ e := fun b n z => by
    subst z
    rcases he with r | r
    · exact hx b n r
    · rw [n] at r; cases r
  have hm : ∀ b u, H b = some u → ¬ Mut (some u) → b ≠ x := fun b u q nm z => by subst z; rw [q] at mu; exact nm mu
  refine ⟨fun b u q n _ _ => k b u (hb b n) q, fun b u q n _ _ => ⟨u.slots, k b u (hb b n) q⟩, fun b u q n _ => by rw [upd_ne (hx b n)]; exact n, fun b u q _ => ?_,
    fun b xs q => by rw [upd_ne (hm b _ q fun z => z)]; exact q, fun b u xs q => by rw [upd_ne (hm b _ q fun z => z)]; exact q, fun b ps q => ⟨#[], by rw [upd_ne (hm b _ q fun z => z), q]; simp⟩⟩
  by_cases hbe : b = e
  · subst hbe; exact heo
  · exact ⟨u, k b u hbe q⟩
theorem Un.mono (u : Un fs ex H H1 h h1) (hs : ∀ b ∈ fs, b ∈ fs') (hx : ∀ b ∈ ex, b ∈ ex') : Un fs' ex' H H1 h h1 :=
  ⟨fun b ob q n hb he => u.keep b ob q n (fun z => hb (hs b z)) fun z => he (hx b z), fun _ _ q n _ he => u.any q n fun z => he (hx _ z), fun b ob q n he => u.free b ob q n fun z => he (hx b z), fun b ob q he => u.there b ob q fun z => he (hx b z), u.tups, u.frzs, u.tbls⟩
end

/-! ### the heap without what is tracked -/
def trk (h : Heap) (H : Hp) : List Addr := (List.range h.objs.size).filter fun a => (H a).isSome
def hidT (h : Heap) (H : Hp) : Heap := PySem.W.hideAll h (trk h H)
theorem hidT_size (h : Heap) (H : Hp) : (hidT h H).objs.size = h.objs.size := PySem.W.hideAll_size _ _
theorem hidT_get {h : Heap} {H : Hp} {b : Addr} {o : Obj} (e : h.get? b = some o) (n : H b = none) : (hidT h H).get? b = some o :=
  PySem.W.hideAll_get _ e fun hm => by
    have q : (H b).isSome = true := (List.mem_filter.mp hm).2
    rw [n] at q; simp at q
theorem of_hidT {h : Heap} {H : Hp} {b : Addr} {o : Obj} (e : (hidT h H).get? b = some o) : h.get? b = some o ∧ H b = none := by
  have e' : h.get? b = some o := PySem.W.of_hideAll (trk h H) e
  refine ⟨e', ?_⟩
  cases q : H b with
  | none => rfl
  | some x =>
    have hm : b ∈ trk h H := List.mem_filter.mpr ⟨List.mem_range.mpr (Heap.lt_size e'), by simp [q]⟩
    have z : (hidT h H).get? b = none := PySem.W.hideAll_none (trk h H) hm
    rw [z] at e; cases e

/-! ### OpenK's ledger, filled with every new object but one -/
def allNews (g h : Heap) (L : Addr) : List (Addr × Obj) := (List.range h.objs.size).filterMap fun a => if a = L ∨ (g.get? a).isSome = true then none else (h.get? a).map fun o => (a, o)
def rest (g h : Heap) (L d : Addr) : List (Addr × Obj) := (allNews g h L).filter fun p => decide (p.1 ≠ d)
end L2

namespace L2
open PySem PySem.Spec PyProof.Rows

/-- the module's facts, over the base: the heap at the law's entry without what is tracked there -/
structure Mod (K : PySem.W.Frag) (mg : Str → Option Value) (base : Heap) : Prop where
  kin : K.In base
  glob : base.Ns mainGlobals mg
  blt : ∃ mb, base.Ns builtinsNs mb ∧ ∀ x : Str, x ≠ "__name__" → mb x = bootBuiltins x
  nolimit : base.NoLimit

/-- the context: a def's body (or a comprehension's block) running. base: fixed through the whole law; s₀, H₀: the entry; outer: the frames whose slots others may change (a def's callers); stack: all frames that run;
   ex: iterators that were made ahead of the entry and are walked here (a comprehension's); fn: the names whose cells were made at the entry (a def: all; a comprehension's block: its own); calm: not within an except suite; pn: pins that every state bears; xe: what is wanted of an exception that leaves the code -/
structure Cx where
  prog : Program
  w : World
  K : PySem.W.Frag
  mg : Str → Option Value
  base : Heap
  A : Around
  N : List Str
  s₀ : Shared
  H₀ : Hp
  env : Env
  outer : List Env
  stack : List Env
  ex : List Addr
  fn : Str → Bool
  calm : Bool
  pn : List (Addr × Obj)
  xe : Value → Shared → Prop
/-- the callers' frames -/
def frs (l : List Env) : List Addr := l.filterMap (·.frame)
abbrev Cx.fs (X : Cx) : List Addr := frs X.outer

def Vis (sc : Scope) (x : Str) : Prop := sc.names.lookup x = some .local ∨ sc.names.lookup x = some .cell ∨ sc.names.lookup x = some .free
def Loc (sc : Scope) (x : Str) : Prop := sc.names.lookup x = some .local ∨ sc.names.lookup x = some .cell
def Look (env : Env) (h : Heap) (m : Str → Option Value) (x : Str) (u : Value) : Prop :=
  (env.kindOf x = some .local ∧ m x = some u) ∨ ((env.kindOf x = some .cell ∨ env.kindOf x = some .free) ∧ ∃ c, env.cells.lookup x = some c ∧ h.IsCell c (some u))

structure Cx.Ok (X : Cx) : Prop where
  mod : Mod X.K X.mg X.base
  kind : X.env.scope.kind = .function
  glob : X.env.globals = mainGlobals
  blt : X.env.builtins = builtinsNs
  above : X.s₀.heap.objs.size ≤ X.env.locals
  inj : ∀ x y c, X.env.cells.lookup x = some c → X.env.cells.lookup y = some c → x = y
  has : ∀ x, (X.env.kindOf x = some .cell ∨ X.env.kindOf x = some .free) → ∃ c, X.env.cells.lookup x = some c
  cab : ∀ x c, X.fn x = true → X.env.cells.lookup x = some c → X.s₀.heap.objs.size ≤ c
  hd : X.calm = true → X.A.handled = none
  frames : X.A.frames = some X.stack
  stk : X.stack = X.outer ∨ (X.stack = X.env :: X.outer ∧ X.env.frame = some X.env.locals)
  exf : ∀ b ∈ X.ex, b ≠ X.env.locals ∧ ∀ x c, X.env.cells.lookup x = some c → c ≠ b
  bs : ∀ b o, X.base.get? b = some o → X.s₀.heap.get? b = some o ∧ X.H₀ b = none
  bsz : X.base.objs.size ≤ X.s₀.heap.objs.size
  noex : ∀ b o, X.base.get? b = some o → b ∉ X.ex
  exfs : ∀ b ∈ X.ex, b ∉ X.fs
  funs : X.s₀.heap.FunFrames X.base X.outer
  frf : ∀ b ∈ X.fs, X.H₀ b = none

structure Inv (X : Cx) (pins : List (Addr × Obj)) (σ : List (Option V)) (H : Hp) (s : Shared) : Prop where
  ok : X.Ok
  os : s.os = X.s₀.os
  bare : AllBare s.gens
  base : Un X.fs X.ex X.H₀ H X.s₀.heap s.heap
  loc : ∃ m, s.heap.Ns X.env.locals m ∧ ∀ (i : Nat) (x : Str) (v : V), X.N[i]? = some x → σ[i]? = some (some v) → Vis X.env.scope x → ∃ u, RelV v u ∧ Look X.env s.heap m x u
  cell : ∀ x c, X.env.cells.lookup x = some c → ∃ v, s.heap.IsCell c v
  free : H X.env.locals = none
  freeC : ∀ x c, X.env.cells.lookup x = some c → H c = none
  pin : ∀ p ∈ X.pn ++ pins, s.heap.get? p.1 = some p.2 ∧ H p.1 = none ∧ p.1 ≠ X.env.locals ∧ p.1 ∉ X.fs ∧ ∀ v, p.2.data ≠ .cell v
  hok : HOk X.prog X.w H s.heap
  len : σ.length = X.N.length

section
variable {X : Cx} {pins : List (Addr × Obj)} {σ : List (Option V)} {H H' : Hp} {s : Shared} {h' : Heap}

theorem Cx.Ok.nofr (ok : X.Ok) {b : Addr} {o : Obj} (e : X.base.get? b = some o) : b ∉ X.fs := fun hb => by
  have := (ok.funs.mem hb).1
  rw [e] at this; cases this
theorem Inv.bs (I : Inv X pins σ H s) : ∀ b o, X.base.get? b = some o → s.heap.get? b = some o ∧ H b = none := fun b o e =>
  ⟨I.base.keep b o (I.ok.bs b o e).1 (I.ok.bs b o e).2 (I.ok.nofr e) (I.ok.noex b o e), I.base.free b o (I.ok.bs b o e).1 (I.ok.bs b o e).2 (I.ok.noex b o e)⟩
theorem Inv.bk (I : Inv X pins σ H s) : ∀ b o, X.base.get? b = some o → s.heap.get? b = some o := fun b o e => (I.bs b o e).1
theorem Inv.mod (I : Inv X pins σ H s) : Mod X.K X.mg X.base := I.ok.mod
theorem Inv.kIn (I : Inv X pins σ H s) : X.K.In s.heap := I.ok.mod.kin.keeps I.bk
theorem Inv.nolimit (I : Inv X pins σ H s) : s.heap.NoLimit := I.ok.mod.nolimit.keeps I.bk
theorem Inv.lt (I : Inv X pins σ H s) : X.env.locals < s.heap.objs.size := let ⟨_, hn, _⟩ := I.loc; hn.lt
theorem Inv.sz (I : Inv X pins σ H s) : X.s₀.heap.objs.size ≤ s.heap.objs.size := Nat.le_trans I.ok.above (Nat.le_of_lt I.lt)
theorem Inv.nofs (I : Inv X pins σ H s) {a : Addr} (h : s.heap.objs.size ≤ a) : a ∉ X.fs := fun hb => by
  obtain ⟨_, o, ho, _⟩ := I.ok.funs.mem hb
  exact absurd (Nat.lt_of_lt_of_le (Heap.lt_size ho) (Nat.le_trans I.sz h)) (Nat.lt_irrefl _)
theorem Inv.cne (I : Inv X pins σ H s) : ∀ x c, X.env.cells.lookup x = some c → c ≠ X.env.locals := fun x c e z => by
  obtain ⟨v, o, ho, hd⟩ := I.cell x c e
  obtain ⟨m, ⟨o', es, ep, ho', hd', _⟩, _⟩ := I.loc
  rw [z, ho'] at ho; cases ho; rw [hd'] at hd; cases hd
theorem Inv.funs (I : Inv X pins σ H s) : s.heap.FunFrames X.base X.outer := by
  have all : ∀ (l : List Env), (∀ b ∈ frs l, b ∈ X.fs) → X.s₀.heap.FunFrames X.base l → s.heap.FunFrames X.base l := by
    intro l
    induction l with
    | nil => intro _ _; trivial
    | cons env r ih =>
      intro hs hl
      obtain ⟨hk, ⟨L, o, hf, hn, ho, hd⟩, hr⟩ := hl
      have hL : L ∈ X.fs := hs L (by unfold frs; rw [List.filterMap_cons, hf]; exact List.mem_cons_self)
      obtain ⟨sl, e⟩ := I.base.slot L o ho (I.ok.frf L hL) hL fun z => I.ok.exfs L z hL
      exact ⟨hk, ⟨L, _, hf, hn, e, hd⟩, ih (fun b hb => hs b (by unfold frs; rw [List.filterMap_cons, hf]; exact List.mem_cons_of_mem _ hb)) hr⟩
  exact all X.outer (fun _ hb => hb) I.ok.funs

/-- the frames that run, for a call -/
theorem Inv.stack (I : Inv X pins σ H s) : s.heap.FunFrames X.base X.stack := by
  rcases I.ok.stk with e | ⟨e, hf⟩
  · rw [e]; exact I.funs
  · rw [e]
    obtain ⟨m, hn, _⟩ := I.loc
    refine .cons (by rw [I.ok.kind]; decide) hf hn ?_ I.funs
    exact Heap.get?_none_of_le (Nat.le_trans I.ok.bsz I.ok.above)
theorem Inv.stkSub (I : Inv X pins σ H s) : ∀ b ∈ frs X.stack, b ∈ X.env.locals :: X.fs := fun b hb => by
  rcases I.ok.stk with e | ⟨e, hf⟩
  · rw [e] at hb; exact List.mem_cons_of_mem _ hb
  · rw [e] at hb
    unfold frs at hb
    rw [List.filterMap_cons, hf] at hb
    exact hb
theorem Inv.stkFree (I : Inv X pins σ H s) : ∀ b ∈ frs X.stack, H b = none := fun b hb => by
  rcases List.mem_cons.mp (I.stkSub b hb) with e | hb
  · rw [e]; exact I.free
  · obtain ⟨_, o, ho, _⟩ := I.ok.funs.mem hb
    exact I.base.free b o ho (I.ok.frf b hb) fun z => I.ok.exfs b z hb

/-- THE STEP: the untracked objects but the frame and the records at ch are kept (the callers' frames up to slots), the frame's map is kept, the new abstract heap is held -/
theorem Inv.step {g' : Array GenState} {t' : Nat} {d' : Drawn} {ch : List Addr} (I : Inv X pins σ H s)
    (hch : ∀ b ∈ ch, (b ∈ X.ex ∨ X.s₀.heap.objs.size ≤ b) ∧ b ≠ X.env.locals ∧ (∀ x c, X.env.cells.lookup x = some c → c ≠ b) ∧ ∀ p ∈ X.pn ++ pins, p.1 ≠ b)
    (keep : ∀ b o, b ≠ X.env.locals → b ∉ X.fs → b ∉ ch → s.heap.get? b = some o → H b = none → h'.get? b = some o)
    (slot : ∀ b o, b ≠ X.env.locals → b ∈ X.fs → b ∉ ch → s.heap.get? b = some o → H b = none → ∃ sl, h'.get? b = some { o with slots := sl }) (free : ∀ b o, b ∉ ch → s.heap.get? b = some o → H b = none → H' b = none)
    (there : ∀ b o, b ∉ ch → s.heap.get? b = some o → ∃ o', h'.get? b = some o')
    (tups : ∀ b xs, H b = some (.tup xs) → H' b = some (.tup xs)) (frzs : ∀ b o u, H b = some (.frz o u) → H' b = some (.frz o u)) (tbls : ∀ b ps, H b = some (.tbl ps) → ∃ more, H' b = some (.tbl (ps ++ more)))
    (ns : ∀ m, s.heap.Ns X.env.locals m → h'.Ns X.env.locals m) (hok : HOk X.prog X.w H' h') (hg : AllBare g') :
    Inv X pins σ H' { s with heap := h', gens := g', drawn := d', toks := t' } := by
  have neL : ∀ b o, X.s₀.heap.get? b = some o → b ≠ X.env.locals := fun b o e => Nat.ne_of_lt (Nat.lt_of_lt_of_le (Heap.lt_size e) I.ok.above)
  have neC : ∀ b o, X.s₀.heap.get? b = some o → b ∉ X.ex → b ∉ ch := fun b o e hx hb => by
    rcases (hch b hb).1 with z | z
    · exact hx z
    · exact absurd (Nat.lt_of_lt_of_le (Heap.lt_size e) z) (Nat.lt_irrefl _)
  have cellK : ∀ x c, X.env.cells.lookup x = some c → ∀ v, s.heap.IsCell c v → h'.IsCell c v := fun x c e v ⟨o, ho, hd⟩ => by
    have nch : c ∉ ch := fun z => (hch c z).2.2.1 x c e rfl
    by_cases hc : c ∈ X.fs
    · obtain ⟨sl, q⟩ := slot c o (I.cne x c e) hc nch ho (I.freeC x c e)
      exact ⟨_, q, hd⟩
    · exact ⟨o, keep c o (I.cne x c e) hc nch ho (I.freeC x c e), hd⟩
  refine ⟨I.ok, I.os, hg, ⟨fun b o e n hb hx => ?_, fun b o e n hb hx => ?_, fun b o e n hx => ?_, fun b o e hx => ?_, fun b xs e => tups b xs (I.base.tups b xs e), fun b o xs e => frzs b o xs (I.base.frzs b o xs e), fun b ps e => ?_⟩, ?_, fun x c e => ?_, ?_, fun x c e => ?_, fun p hp => ?_, hok, I.len⟩
  · exact keep b o (neL b o e) hb (neC b o e hx) (I.base.keep b o e n hb hx) (I.base.free b o e n hx)
  · obtain ⟨sl, e1⟩ := I.base.slot b o e n hb hx
    obtain ⟨sl', e2⟩ := slot b _ (neL b o e) hb (neC b o e hx) e1 (I.base.free b o e n hx)
    exact ⟨sl', e2⟩
  · obtain ⟨o', e1⟩ := I.base.there b o e hx
    exact free b o' (neC b o e hx) e1 (I.base.free b o e n hx)
  · obtain ⟨o', e1⟩ := I.base.there b o e hx
    exact there b o' (neC b o e hx) e1
  · obtain ⟨m1, e1⟩ := I.base.tbls b ps e
    obtain ⟨m2, e2⟩ := tbls b _ e1
    exact ⟨m1 ++ m2, by rw [e2, Array.append_assoc]⟩
  · obtain ⟨m, hn, hl⟩ := I.loc
    refine ⟨m, ns m hn, fun i x v e1 e2 e3 => ?_⟩
    obtain ⟨u, r, l⟩ := hl i x v e1 e2 e3
    refine ⟨u, r, ?_⟩
    rcases l with l | ⟨k, c, e, z⟩
    · exact .inl l
    · exact .inr ⟨k, c, e, cellK x c e _ z⟩
  · obtain ⟨v, z⟩ := I.cell x c e
    exact ⟨v, cellK x c e v z⟩
  · obtain ⟨m, ⟨o, _, _, ho, _⟩, _⟩ := I.loc
    exact free _ o (fun z => (hch _ z).2.1 rfl) ho I.free
  · obtain ⟨v, o, ho, hd⟩ := I.cell x c e
    exact free c o (fun z => (hch c z).2.2.1 x c e rfl) ho (I.freeC x c e)
  · obtain ⟨e, n, ne, nf, d⟩ := I.pin p hp
    have nch : p.1 ∉ ch := fun z => (hch p.1 z).2.2.2 p hp rfl
    exact ⟨keep p.1 p.2 ne nf nch e n, free p.1 p.2 nch e n, ne, nf, d⟩
/-- .. where the frame's own object is kept too -/
theorem Inv.un {t' : Nat} (I : Inv X pins σ H s) (u : Un X.fs [] H H' s.heap h') (hok : HOk X.prog X.w H' h') : Inv X pins σ H' { s with heap := h', toks := t' } := by
  obtain ⟨m, ⟨o, es, ep, ho, r⟩, _⟩ := id I.loc
  obtain ⟨sl, hL⟩ := u.any ho I.free (by simp)
  exact I.step (g' := s.gens) (d' := s.drawn) (ch := []) (fun _ z => nomatch z) (fun b o _ hb _ e n => u.keep b o e n hb (by simp)) (fun b o _ hb _ e n => u.slot b o e n hb (by simp)) (fun b o _ e n => u.free b o e n (by simp)) (fun b o _ e => u.there b o e (by simp)) u.tups u.frzs u.tbls (fun m' hm => by
    obtain ⟨o', es', ep', ho', r'⟩ := hm
    rw [ho] at ho'; cases ho'
    exact ⟨_, es', ep', hL, r'⟩) hok I.bare
/-- behind a call (or a comprehension's block): the slots of this frame may have changed too, the records at ch may have turned -/
theorem Inv.call {g' : Array GenState} {t' : Nat} {d' : Drawn} {ch : List Addr} (I : Inv X pins σ H s) (u : Un (frs X.stack) ch H H' s.heap h') (hok : HOk X.prog X.w H' h') (hg : AllBare g')
    (hch : ∀ b ∈ ch, (b ∈ X.ex ∨ X.s₀.heap.objs.size ≤ b) ∧ b ≠ X.env.locals ∧ (∀ x c, X.env.cells.lookup x = some c → c ≠ b) ∧ ∀ p ∈ X.pn ++ pins, p.1 ≠ b) :
    Inv X pins σ H' { s with heap := h', gens := g', drawn := d', toks := t' } := by
  obtain ⟨m, ⟨o, es, ep, ho, r⟩, _⟩ := id I.loc
  obtain ⟨sl, hL⟩ := u.any ho I.free fun z => (hch _ z).2.1 rfl
  exact I.step (ch := ch) hch (fun b o hL hb hc e n => u.keep b o e n (fun z => (List.mem_cons.mp (I.stkSub b z)).elim hL hb) hc) (fun b o _ _ hc e n => u.any e n hc) (fun b o hc e n => u.free b o e n hc) (fun b o hc e => u.there b o e hc) u.tups u.frzs u.tbls (fun m' hm => by
    obtain ⟨o', es', ep', ho', r'⟩ := hm
    rw [ho] at ho'; cases ho'
    exact ⟨_, es', ep', hL, r'⟩) hok hg
/-- an untracked record of ours (an iterator) has turned -/
theorem Inv.turned {t' : Nat} {it : Addr} (I : Inv X pins σ H s) (k : ∀ b o, b ≠ it → s.heap.get? b = some o → h'.get? b = some o) (hn : H it = none) (hL : it ≠ X.env.locals)
    (h1 : it ∈ X.ex ∨ X.s₀.heap.objs.size ≤ it) (h2 : ∀ x c, X.env.cells.lookup x = some c → c ≠ it) (h3 : ∀ p ∈ X.pn ++ pins, p.1 ≠ it) : Inv X pins σ H { s with heap := h', toks := t' } := by
  have nit : ∀ b u, H b = some u → b ≠ it := fun b u e z => by rw [z, hn] at e; cases e
  refine I.step (g' := s.gens) (d' := s.drawn) (ch := [it]) (fun b hb => ?_) (fun b o _ _ hc e _ => k b o (fun z => hc (by simp [z])) e) (fun b o _ _ hc e _ => ⟨o.slots, k b o (fun z => hc (by simp [z])) e⟩) (fun _ _ _ _ n => n)
    (fun b o hc e => ⟨o, k b o (fun z => hc (by simp [z])) e⟩) (fun _ _ e => e) (fun _ _ _ e => e) (fun b ps e => ⟨#[], by rw [e]; simp⟩) (fun m hm => ?_) (fun b u e => ?_) I.bare
  · have e : b = it := by simpa using hb
    subst e
    exact ⟨h1, hL, h2, h3⟩
  · obtain ⟨o, es, ep, ho, r⟩ := hm
    exact ⟨o, es, ep, k _ o (Ne.symm hL) ho, r⟩
  · refine (I.hok b u e).stay (fun c v hc q => k c v ?_ q) (fun _ q => q) fun _ _ q => q
    rcases hc with z | z
    · rw [z]; exact nit b u e
    · exact nit c _ z
theorem Inv.tok (I : Inv X pins σ H s) (t : Nat) : Inv X pins σ H { s with toks := t } := I.un (h' := s.heap) (t' := t) Un.refl I.hok
/-- all objects kept -/
theorem Inv.kept {t' : Nat} (I : Inv X pins σ H s) (k : ∀ b u, s.heap.get? b = some u → h'.get? b = some u) : Inv X pins σ H { s with heap := h', toks := t' } := I.un (Un.kept k) (I.hok.kept k)
/-- a new object laid and tracked -/
theorem Inv.laid {a : Addr} {o : HO} {t' : Nat} (I : Inv X pins σ H s) (k : ∀ b u, s.heap.get? b = some u → h'.get? b = some u) (hp : s.heap.objs.size ≤ a) (new : ObjOk X.prog X.w (upd H a o) h' a o) :
    Inv X pins σ (upd H a o) { s with heap := h', toks := t' } := I.un (Un.laid k hp (I.hok.fresh hp)) (I.hok.laid k hp new)
/-- an object written -/
theorem Inv.write {x e : Addr} {o : HO} {t' : Nat} (I : Inv X pins σ H s) (mu : Mut (H x)) (he : e = x ∨ H e = some (.own x)) (k : ∀ b u, b ≠ e → s.heap.get? b = some u → h'.get? b = some u) (heo : ∃ u, h'.get? e = some u)
    (new : ObjOk X.prog X.w (upd H x o) h' x o) : Inv X pins σ (upd H x o) { s with heap := h', toks := t' } := I.un (Un.write mu he k heo) (I.hok.write mu he k heo new)
theorem Inv.pins_of {pins' : List (Addr × Obj)} (I : Inv X pins σ H s) (h : ∀ p ∈ pins', s.heap.get? p.1 = some p.2 ∧ H p.1 = none ∧ p.1 ≠ X.env.locals ∧ p.1 ∉ X.fs ∧ ∀ v, p.2.data ≠ .cell v) : Inv X pins' σ H s :=
  ⟨I.ok, I.os, I.bare, I.base, I.loc, I.cell, I.free, I.freeC, fun p hp => (List.mem_append.mp hp).elim (fun z => I.pin p (List.mem_append_left _ z)) (h p), I.hok, I.len⟩

theorem nodup_ix {N : List Str} (hN : N.Nodup) {i j : Nat} {x : Str} (a : N[i]? = some x) (b : N[j]? = some x) : i = j := by
  obtain ⟨h1, e1⟩ := List.getElem?_eq_some_iff.mp a
  obtain ⟨h2, e2⟩ := List.getElem?_eq_some_iff.mp b
  exact (List.getElem_inj hN).mp (e1.trans e2.symm)

/-- a name is stored; what changed -/
theorem store_ok2 {M : Model} {A : Around} {E : Value → Shared → Prop} {i : Nat} {x : Str} {v : V} {u : Value} {Q : Unit → Shared → Prop} (I : Inv X pins σ H s) (hN : X.N.Nodup) (hi : X.N[i]? = some x) (hx : Loc X.env.scope x) (r : RelV v u)
    (h : ∀ s', Inv X pins (σ.set i (some v)) H s' → (∃ a, Heap.SameBut a s.heap s'.heap ∧ (a = X.env.locals ∨ X.env.cells.lookup x = some a)) → Q () s') (hf : X.fn x = true ∨ X.env.scope.names.lookup x = some .local := by first | exact .inl rfl | exact .inr rfl | assumption) : wpAny M A (storeName X.env x u) Q E s := by
  obtain ⟨m, hn, hl⟩ := id I.loc
  have hcls : (X.env.scope.kind == .class || (X.env.scope.kind == .module && X.env.locals != X.env.globals)) = false := by rw [I.ok.kind]; rfl
  have hiσ : i < σ.length := by rw [I.len]; exact (List.getElem?_eq_some_iff.mp hi).1
  have cne := I.cne
  have tracked : ∀ {a : Addr} {h' : Heap}, (∃ o, s.heap.get? a = some o ∧ H a = none) → Heap.SameBut a s.heap h' → HOk X.prog X.w H h' := fun {a h'} ha hs b ob e => by
    obtain ⟨_, _, hfree⟩ := ha
    refine (I.hok b ob e).stay (fun c w' hc q => (hs.2 c ?_).trans q) (fun _ q => q) fun _ _ q => q
    rintro rfl
    rcases hc with rfl | hc
    · rw [hfree] at e; cases e
    · rw [hfree] at hc; cases hc
  rcases hx with hk | hk
  · refine wpAny_storeName_local hk hn (fun h' hn' hs => ?_) hcls
    obtain ⟨oL, _, _, hoL, _⟩ := id hn
    refine h _ ⟨I.ok, I.os, I.bare, ⟨fun b o e n hb hx => ?_, fun b o e n hb hx => ?_, I.base.free, fun b o e hx => ?_, I.base.tups, I.base.frzs, I.base.tbls⟩, ⟨_, hn', fun j y v' e1 e2 e3 => ?_⟩, fun y c e => ?_, I.free, I.freeC, fun p hp => ?_, tracked ⟨oL, hoL, I.free⟩ hs, by simpa using I.len⟩ ⟨_, hs, .inl rfl⟩
    · exact (hs.2 b (Nat.ne_of_lt (Nat.lt_of_lt_of_le (Heap.lt_size e) I.ok.above))).trans (I.base.keep b o e n hb hx)
    · obtain ⟨sl, e1⟩ := I.base.slot b o e n hb hx
      exact ⟨sl, (hs.2 b (Nat.ne_of_lt (Nat.lt_of_lt_of_le (Heap.lt_size e) I.ok.above))).trans e1⟩
    · obtain ⟨o', e1⟩ := I.base.there b o e hx
      exact ⟨o', (hs.2 b (Nat.ne_of_lt (Nat.lt_of_lt_of_le (Heap.lt_size e) I.ok.above))).trans e1⟩
    · by_cases hj : j = i
      · subst hj
        rw [hi] at e1; cases e1
        rw [List.getElem?_set_self hiσ] at e2
        cases e2
        exact ⟨u, r, .inl ⟨hk, by simp⟩⟩
      · rw [List.getElem?_set_ne (Ne.symm hj)] at e2
        obtain ⟨u', r', q⟩ := hl j y v' e1 e2 e3
        refine ⟨u', r', ?_⟩
        rcases q with ⟨k, e⟩ | ⟨k, c, e, z⟩
        · refine .inl ⟨k, ?_⟩
          have : y ≠ x := fun e => hj (nodup_ix hN e1 (e ▸ hi))
          simp [this, e]
        · exact .inr ⟨k, c, e, z.sameBut hs (cne y c e)⟩
    · obtain ⟨w', z⟩ := I.cell y c e
      exact ⟨w', z.sameBut hs (cne y c e)⟩
    · obtain ⟨e, n, ne, nf, d⟩ := I.pin p hp
      exact ⟨(hs.2 p.1 ne).trans e, n, ne, nf, d⟩
  · have hfn : X.fn x = true := by
      rcases hf with z | z
      · exact z
      · rw [z] at hk; cases hk
    obtain ⟨c, hc⟩ := I.ok.has x (.inl hk)
    obtain ⟨w', z⟩ := I.cell x c hc
    refine wpAny_storeName_cell I.ok.kind hk hc z (fun h' hc' hs => ?_)
    obtain ⟨oc, hoc, hocd⟩ := id z
    refine h { s with heap := h' } ⟨I.ok, I.os, I.bare, ⟨fun b o e n hb hx => ?_, fun b o e n hb hx => ?_, I.base.free, fun b o e hx => ?_, I.base.tups, I.base.frzs, I.base.tbls⟩, ⟨m, hn.sameBut hs (Ne.symm (cne x c hc)), fun j y v' e1 e2 e3 => ?_⟩, fun y c' e => ?_, I.free, I.freeC, fun p hp => ?_, tracked ⟨oc, hoc, I.freeC x c hc⟩ hs, by simpa using I.len⟩ ⟨c, hs, .inr hc⟩
    · exact (hs.2 b (Nat.ne_of_lt (Nat.lt_of_lt_of_le (Heap.lt_size e) (I.ok.cab x c hfn hc)))).trans (I.base.keep b o e n hb hx)
    · obtain ⟨sl, e1⟩ := I.base.slot b o e n hb hx
      exact ⟨sl, (hs.2 b (Nat.ne_of_lt (Nat.lt_of_lt_of_le (Heap.lt_size e) (I.ok.cab x c hfn hc)))).trans e1⟩
    · obtain ⟨o', e1⟩ := I.base.there b o e hx
      exact ⟨o', (hs.2 b (Nat.ne_of_lt (Nat.lt_of_lt_of_le (Heap.lt_size e) (I.ok.cab x c hfn hc)))).trans e1⟩
    · by_cases hj : j = i
      · subst hj
        rw [hi] at e1; cases e1
        rw [List.getElem?_set_self hiσ] at e2
        cases e2
        exact ⟨u, r, .inr ⟨.inl hk, c, hc, hc'⟩⟩
      · rw [List.getElem?_set_ne (Ne.symm hj)] at e2
        obtain ⟨u', r', q⟩ := hl j y v' e1 e2 e3
        refine ⟨u', r', ?_⟩
        rcases q with q | ⟨k, c', e, z'⟩
        · exact .inl q
        · refine .inr ⟨k, c', e, z'.sameBut hs ?_⟩
          rintro rfl
          exact hj (nodup_ix hN e1 (I.ok.inj _ _ _ e hc ▸ hi))
    · by_cases hcc : c' = c
      · subst hcc; exact ⟨_, hc'⟩
      · obtain ⟨w2, z2⟩ := I.cell y c' e
        exact ⟨w2, z2.sameBut hs hcc⟩
    · obtain ⟨e, n, ne, nf, d⟩ := I.pin p hp
      refine ⟨(hs.2 p.1 ?_).trans e, n, ne, nf, d⟩
      intro q
      rw [q, hoc] at e
      have q' : oc = p.2 := Option.some.inj e
      exact d w' (by rw [← q']; exact hocd)
theorem store_ok {M : Model} {A : Around} {E : Value → Shared → Prop} {i : Nat} {x : Str} {v : V} {u : Value} {Q : Unit → Shared → Prop} (I : Inv X pins σ H s) (hN : X.N.Nodup) (hi : X.N[i]? = some x) (hx : Loc X.env.scope x) (r : RelV v u)
    (h : ∀ s', Inv X pins (σ.set i (some v)) H s' → Q () s') (hf : X.fn x = true ∨ X.env.scope.names.lookup x = some .local := by first | exact .inl rfl | exact .inr rfl | assumption) : wpAny M A (storeName X.env x u) Q E s :=
  store_ok2 I hN hi hx r (fun s' I' _ => h s' I') hf
/-- behind a call or a block, the state as it is -/
theorem Inv.call' {s' : Shared} {ch : List Addr} (I : Inv X pins σ H s) (ho : s'.os = s.os) (u : Un (frs X.stack) ch H H' s.heap s'.heap) (hok : HOk X.prog X.w H' s'.heap) (hg : AllBare s'.gens)
    (hch : ∀ b ∈ ch, (b ∈ X.ex ∨ X.s₀.heap.objs.size ≤ b) ∧ b ≠ X.env.locals ∧ (∀ x c, X.env.cells.lookup x = some c → c ≠ b) ∧ ∀ p ∈ X.pn ++ pins, p.1 ≠ b) : Inv X pins σ H' s' := by
  obtain ⟨h', g', d', t', o'⟩ := s'
  have e : o' = s.os := ho
  subst e
  exact I.call (g' := g') (t' := t') (d' := d') u hok hg hch
end

/-! ### the judgements -/
/-- an exception: its class, its own dict's address (where it has one), the abstract heap behind it -/
abbrev XK := Value → Option Addr → Hp → Prop
abbrev St := List (Option V)
abbrev VK := V → Hp → Prop
/-- an expression's reading; a test's; an argument list's -/
abbrev TE := St → Hp → VK → Prop
abbrev TT := St → Hp → (Bool → Hp → Prop) → Prop
abbrev TA := St → Hp → (List V → Hp → Prop) → Prop
/-- what is wanted behind a statement -/
structure Ends where
  nx : St → Hp → Prop
  rt : VK
  bk : St → Hp → Prop := fun _ _ => False
  ct : St → Hp → Prop := fun _ _ => False
abbrev TS := Ends → St → Hp → Prop

def EP (X : Cx) (pins : List (Addr × Obj)) (σ : St) (Q : VK) (u : Value) (s' : Shared) : Prop := ∃ v H', Inv X pins σ H' s' ∧ RelV v u ∧ Q v H'
def TP (X : Cx) (pins : List (Addr × Obj)) (σ : St) (Q : Bool → Hp → Prop) (b : Bool) (s' : Shared) : Prop := ∃ H', Inv X pins σ H' s' ∧ Q b H'
def AP (X : Cx) (pins : List (Addr × Obj)) (σ : St) (Q : List V → Hp → Prop) (us : List Value) (s' : Shared) : Prop := ∃ vs H', Inv X pins σ H' s' ∧ Vals vs us ∧ Q vs H'
def SP (X : Cx) (pins : List (Addr × Obj)) (D : Ends) (f : Flow) (s' : Shared) : Prop :=
  match f with
  | .next => ∃ σ' H', Inv X pins σ' H' s' ∧ D.nx σ' H'
  | .brk => ∃ σ' H', Inv X pins σ' H' s' ∧ D.bk σ' H'
  | .cont => ∃ σ' H', Inv X pins σ' H' s' ∧ D.ct σ' H'
  | .ret u => ∃ v σ' H', Inv X pins σ' H' s' ∧ RelV v u ∧ D.rt v H'

def PE (X : Cx) (e : Expr) (t : TE) : Prop :=
  ∀ (pins : List (Addr × Obj)) (s : Shared) (σ : St) (H : Hp) (Q : VK), Inv X pins σ H s → t σ H Q → wpAny (model X.prog X.w) X.A (eval e X.env) (EP X pins σ Q) X.xe s
def PT (X : Cx) (e : Expr) (t : TT) : Prop :=
  ∀ (pins : List (Addr × Obj)) (s : Shared) (σ : St) (H : Hp) (Q : Bool → Hp → Prop), Inv X pins σ H s → t σ H Q → wpAny (model X.prog X.w) X.A (isTrue e X.env (eval e X.env)) (TP X pins σ Q) X.xe s
/-- a test whatever its 'whole' is (and, or) -/
def PW (X : Cx) (e : Expr) (t : TT) : Prop :=
  ∀ (whole : Sem Value) (pins : List (Addr × Obj)) (s : Shared) (σ : St) (H : Hp) (Q : Bool → Hp → Prop), Inv X pins σ H s → t σ H Q → wpAny (model X.prog X.w) X.A (isTrue e X.env whole) (TP X pins σ Q) X.xe s
theorem PW.pt {X : Cx} {e : Expr} {t : TT} (h : PW X e t) : PT X e t := h _
/-- an argument list (no star), from the left -/
def PA (X : Cx) (es : List Expr) (t : TA) : Prop :=
  ∀ (pos : Pos) (pins : List (Addr × Obj)) (s : Shared) (σ : St) (H : Hp) (Q : List V → Hp → Prop), Inv X pins σ H s → t σ H Q → wpAny (model X.prog X.w) X.A (spliced (backTo pos (starEach es X.env))) (AP X pins σ Q) X.xe s
def PS (X : Cx) (st : Stmt) (t : TS) : Prop :=
  ∀ (pins : List (Addr × Obj)) (s : Shared) (σ : St) (H : Hp) (D : Ends), Inv X pins σ H s → t D σ H → wpAny (model X.prog X.w) X.A (exec st X.env) (SP X pins D) X.xe s
def PSs (X : Cx) (st : List Stmt) (t : TS) : Prop :=
  ∀ (pins : List (Addr × Obj)) (s : Shared) (σ : St) (H : Hp) (D : Ends), Inv X pins σ H s → t D σ H → wpAny (model X.prog X.w) X.A (execs st X.env) (SP X pins D) X.xe s
/-- weaken the end -/
theorem thn {α : Type} {t : Sem α} {Q Q' : α → Shared → Prop} {M : Model} {A : Around} {E : Value → Shared → Prop} {s : Shared} (h : wpAny M A t Q E s) (hQ : ∀ a s, Q a s → Q' a s) : wpAny M A t Q' E s := wpAny_mono h hQ fun _ _ x => x
end L2

namespace L2
open PySem PySem.Spec PyProof.Rows
section
variable {X : Cx}

/-- two expressions in a row -/
theorem bin {a b : Expr} {ta tb : TE} (ha : PE X a ta) (hb : PE X b tb) {pins : List (Addr × Obj)} {s : Shared} {σ : St} {H : Hp} {R : V → V → Hp → Prop} (I : Inv X pins σ H s) (h : ta σ H fun x H1 => tb σ H1 fun y H2 => R x y H2)
    {α : Type} {Q : α → Shared → Prop} {f : Value → Value → Sem α}
    (hf : ∀ v u s2 x y H2, Inv X pins σ H2 s2 → RelV x v → RelV y u → R x y H2 → wpAny (model X.prog X.w) X.A (f v u) Q X.xe s2) :
    wpAny (model X.prog X.w) X.A (eval a X.env) (fun v s₁ => wpAny (model X.prog X.w) X.A (eval b X.env) (fun u s₂ => wpAny (model X.prog X.w) X.A (f v u) Q X.xe s₂) X.xe s₁) X.xe s := by
  refine thn (ha pins s σ H _ I h) fun v s1 ⟨x, H1, I1, r1, q1⟩ => ?_
  refine thn (hb pins s1 σ H1 _ I1 q1) fun u s2 ⟨y, H2, I2, r2, q2⟩ => ?_
  exact hf v u s2 x y H2 I2 r1 r2 q2

/-! ### names and constants -/
def tVar (i : Nat) : TE := fun σ H Q => ∃ v, σ[i]? = some (some v) ∧ Q v H
def tC (v : V) : TE := fun _ H Q => Q v H
theorem pe_var {i : Nat} {x : Str} {pos : Pos} (hN : X.N[i]? = some x) (hv : Vis X.env.scope x) (hd : (x == ("__debug__" : Str)) = false := by decide) (hcd : (x == ("__classdict__" : Str)) = false := by decide) : PE X (.Name x pos) (tVar i) := by
  intro pins s σ H Q I h
  obtain ⟨v, e, h⟩ := h
  obtain ⟨m, hn, hl⟩ := I.loc
  obtain ⟨u, r, l⟩ := hl i x v hN e hv
  have fin : EP X pins σ Q u s := ⟨v, H, I, r, h⟩
  rcases l with ⟨hk, hm⟩ | ⟨hk, c, hc, hcell⟩
  · exact wpAny_Name (wpAny_loadName_local I.ok.kind hk hn hm fin) hd
  · rcases hk with hk | hk
    · exact wpAny_Name (wpAny_loadName_cell I.ok.kind hk hc hcell fin) hd
    · exact wpAny_Name (wpAny_loadName_free I.ok.kind hk hc hcell fin hcd) hd
theorem pe_int {i j pos} : PE X (.Constant (.int i) j pos) (tC (.int i)) := fun _ _ _ H _ I h => wpAny_Constant_int ⟨.int i, H, I.tok _, ⟨_, rfl⟩, h⟩
theorem pe_bl {b j pos} : PE X (.Constant (.bool b) j pos) (tC (.bl b)) := fun _ _ _ H _ I h => Constant_bool ⟨.bl b, H, I, rfl, h⟩
theorem pe_str {x j pos} : PE X (.Constant (.str x) j pos) (tC (.str x)) := fun _ _ _ H _ I h => Calls.Constant_str ⟨.str x, H, I.tok _, ⟨_, rfl⟩, h⟩

/-- a global name of the def -/
def Gl (X : Cx) (x : Str) : Prop := X.env.kindOf x = some .globalImplicit
theorem ld_glob {E : Value → Shared → Prop} {pins : List (Addr × Obj)} {s : Shared} {σ : St} {H : Hp} {x : Str} {u : Value} {pos : Pos} {Q : Value → Shared → Prop} (I : Inv X pins σ H s) (hg : Gl X x) (hm : X.mg x = some u) (h : Q u s)
    (hd : (x == ("__debug__" : Str)) = false := by decide) : wpAny (model X.prog X.w) X.A (eval (.Name x pos) X.env) Q E s :=
  Calls.Name_function_global I.ok.kind hg (Calls.loadGlobal_global (by rw [I.ok.glob]; exact I.mod.glob.keeps I.bk) hm h) hd
theorem ld_blt {E : Value → Shared → Prop} {pins : List (Addr × Obj)} {s : Shared} {σ : St} {H : Hp} {x : Str} {u : Value} {pos : Pos} {Q : Value → Shared → Prop} (I : Inv X pins σ H s) (hg : Gl X x) (hm : X.mg x = none) (hv : bootBuiltins x = some u) (h : Q u s)
    (hn : x ≠ "__name__" := by decide) (hd : (x == ("__debug__" : Str)) = false := by decide) : wpAny (model X.prog X.w) X.A (eval (.Name x pos) X.env) Q E s := by
  obtain ⟨mb, h1, h2⟩ := I.mod.blt
  exact Calls.Name_function_global I.ok.kind hg (Calls.loadGlobal_builtin (by rw [I.ok.glob]; exact I.mod.glob.keeps I.bk) hm (by rw [I.ok.blt]; exact h1.keeps I.bk) ((h2 x hn).trans hv) h) hd
/-- a module's constant, a class, a function, as a value -/
theorem pe_glob {x : Str} {v : V} {u : Value} {pos : Pos} (hg : Gl X x) (hm : X.mg x = some u) (r : RelV v u) (hd : (x == ("__debug__" : Str)) = false := by decide) : PE X (.Name x pos) (tC v) :=
  fun _ _ _ H _ I h => ld_glob I hg hm ⟨v, H, I, r, h⟩ hd
theorem pe_bltn {x : Str} {v : V} {u : Value} {pos : Pos} (hg : Gl X x) (hm : X.mg x = none) (hv : bootBuiltins x = some u) (r : RelV v u) (hn : x ≠ "__name__" := by decide) (hd : (x == ("__debug__" : Str)) = false := by decide) : PE X (.Name x pos) (tC v) :=
  fun _ _ _ H _ I h => ld_blt I hg hm hv ⟨v, H, I, r, h⟩ hn hd

/-! ### arithmetic -/
/-- two ints -/
def t2I (ta tb : TE) (k : Int → Int → Hp → Prop) : St → Hp → Prop := fun σ H => ta σ H fun x H1 => tb σ H1 fun y H2 => ∃ i j, x = .int i ∧ y = .int j ∧ k i j H2
def tAdd (ta tb : TE) : TE := fun σ H Q => t2I ta tb (fun i j H2 => Q (.int (i + j)) H2) σ H
def tSub (ta tb : TE) : TE := fun σ H Q => t2I ta tb (fun i j H2 => Q (.int (i - j)) H2) σ H
/-- the left factor below 2^64 -/
def tMul (ta tb : TE) : TE := fun σ H Q => t2I ta tb (fun i j H2 => (-(2 ^ 64) < i ∧ i < 2 ^ 64) ∧ Q (.int (i * j)) H2) σ H
variable {a b : Expr} {ta tb : TE} {pos : Pos}
/-! ### comparisons -/
def PC (X : Cx) (op : CmpOp) (a b : Expr) (t : TE) : Prop :=
  ∀ (pins : List (Addr × Obj)) (s : Shared) (σ : St) (H : Hp) (Q : VK), Inv X pins σ H s → t σ H Q →
    wpAny (model X.prog X.w) X.A (eval a X.env) (fun v s₁ => wpAny (model X.prog X.w) X.A (eval b X.env) (fun u s₂ => wpAny (model X.prog X.w) X.A (compareOp op v u) (EP X pins σ Q) X.xe s₂) X.xe s₁) X.xe s
theorem nobehind (b : Expr) {op : CmpOp} (h : op ≠ .In) (h2 : op ≠ .NotIn) : behindInMarks op b = false := by
  have e1 : (op == CmpOp.In) = false := by cases op <;> first | rfl | exact absurd rfl h
  have e2 : (op == CmpOp.NotIn) = false := by cases op <;> first | rfl | exact absurd rfl h2
  cases b <;> simp [behindInMarks, e1, e2]
def tCmp (p : Int → Int → Bool) (ta tb : TE) : TE := fun σ H Q => t2I ta tb (fun i j H2 => Q (.bl (p i j)) H2) σ H
abbrev tLt : TE → TE → TE := tCmp fun i j => decide (i < j)
abbrev tLe : TE → TE → TE := tCmp fun i j => decide (i ≤ j)
abbrev tGt : TE → TE → TE := tCmp fun i j => decide (j < i)
abbrev tGe : TE → TE → TE := tCmp fun i j => decide (j ≤ i)
abbrev tEqI : TE → TE → TE := tCmp fun i j => decide (i = j)
abbrev tNeI : TE → TE → TE := tCmp fun i j => !decide (i = j)
/-- is None -/
def tIsN (ta : TE) : TE := fun σ H Q => ta σ H fun x H1 => Q (.bl (decide (x = .non))) H1
def tNotN (ta : TE) : TE := fun σ H Q => ta σ H fun x H1 => Q (.bl (!decide (x = .non))) H1
/-- a comparison as a value, as a test -/
def tB (t : TE) : TT := fun σ H Q => t σ H fun x H1 => ∃ c, x = .bl c ∧ Q c H1
theorem pt_cmp {op : CmpOp} {t : TE} (h : PC X op a b t) (h1 : behindInMarks op b = false := by first | exact nobehind _ (by decide) (by decide) | rfl) : PT X (.Compare a [op] [b] pos) (tB t) := by
  intro pins s σ H Q I hw
  refine wpAny_isTrue_Compare1 (thn (h pins s σ H _ I hw) fun v s1 h1 => thn h1 fun u s2 h2 => thn h2 fun c s3 ⟨x, H1, I1, r1, q1⟩ => ?_) h1
  obtain ⟨d, rfl, q⟩ := q1
  cases r1
  exact wpAny_truthy_bool ⟨H1, I1, q⟩
/-- an expression whose value is a bool, as a test -/
theorem pt_val {e : Expr} {t : TE} (h : PE X e t) (he : ∀ whole, isTrue e X.env whole = (do let v ← whole; standAt e.pos; holding [v] (truthy v)) := by intro _; rfl) : PT X e (tB t) := by
  intro pins s σ H Q I hw
  refine isTrue_plain (thn (h pins s σ H _ I hw) fun v s1 ⟨x, H1, I1, r1, q1⟩ => ?_) (he _)
  obtain ⟨d, rfl, q⟩ := q1
  cases r1
  exact wpAny_truthy_bool ⟨H1, I1, q⟩

/-! ### and, or, not -/
variable {tA tB' : TT} {rest : List Expr}
def tAnd (t u : TT) : TT := fun σ H Q => t σ H fun c H1 => if c = true then u σ H1 Q else Q false H1
def tOr (t u : TT) : TT := fun σ H Q => t σ H fun c H1 => if c = true then Q true H1 else u σ H1 Q
def tNot (t : TT) : TT := fun σ H Q => t σ H fun c H1 => Q (!c) H1
theorem pw_and1 (ha : PT X a tA) : PW X (.BoolOp .And [a] pos) tA := by
  intro wh pins s σ H Q I h
  refine isTrue_and (thn (ha pins s σ H Q I h) fun c s1 e => ?_)
  cases c with
  | true => exact isTrue_and_nil e
  | false => exact e
theorem pw_or1 (ha : PT X a tA) : PW X (.BoolOp .Or [a] pos) tA := by
  intro wh pins s σ H Q I h
  refine isTrue_or (thn (ha pins s σ H Q I h) fun c s1 e => ?_)
  cases c with
  | false => exact isTrue_or_nil e
  | true => exact e
theorem pw_and (ha : PT X a tA) (hb : PW X (.BoolOp .And (b :: rest) pos) tB') : PW X (.BoolOp .And (a :: b :: rest) pos) (tAnd tA tB') := by
  intro wh pins s σ H Q I h
  refine isTrue_and (thn (ha pins s σ H _ I h) fun c s1 ⟨H1, I1, q1⟩ => ?_)
  cases c with
  | true => exact hb wh pins s1 σ H1 Q I1 q1
  | false => exact ⟨H1, I1, q1⟩
theorem pw_or (ha : PT X a tA) (hb : PW X (.BoolOp .Or (b :: rest) pos) tB') : PW X (.BoolOp .Or (a :: b :: rest) pos) (tOr tA tB') := by
  intro wh pins s σ H Q I h
  refine isTrue_or (thn (ha pins s σ H _ I h) fun c s1 ⟨H1, I1, q1⟩ => ?_)
  cases c with
  | true => exact ⟨H1, I1, q1⟩
  | false => exact hb wh pins s1 σ H1 Q I1 q1
theorem pt_not (ha : PT X a tA) : PT X (.UnaryOp .Not a pos) (tNot tA) := by
  intro pins s σ H Q I h
  exact isTrue_not (ha pins s σ H (fun c H1 => Q (!c) H1) I h)
/-- .. as values (bools) -/
def tAndV (ta tb : TE) : TE := fun σ H Q => ta σ H fun x H1 => ∃ c, x = .bl c ∧ if c = true then tb σ H1 Q else Q (.bl false) H1
def tOrV (ta tb : TE) : TE := fun σ H Q => ta σ H fun x H1 => ∃ c, x = .bl c ∧ if c = true then Q (.bl true) H1 else tb σ H1 Q
def tNotV (ta : TE) : TE := fun σ H Q => ta σ H fun x H1 => ∃ c, x = .bl c ∧ Q (.bl (!c)) H1
theorem pe_one {op} {t : TE} (h : PE X a t) : PE X (.BoolOp op [a] pos) t := fun pins s σ H Q I hw => BoolOp_one (h pins s σ H Q I hw)
theorem pe_and (ha : PE X a ta) (hb : PE X (.BoolOp .And (b :: rest) pos) tb) : PE X (.BoolOp .And (a :: b :: rest) pos) (tAndV ta tb) := by
  intro pins s σ H Q I h
  refine BoolOp_and (thn (ha pins s σ H _ I h) fun v s1 ⟨x, H1, I1, r1, q1⟩ => ?_)
  obtain ⟨c, rfl, q1⟩ := q1
  cases r1
  refine wpAny_truthy_bool ?_
  cases c with
  | true => exact hb pins s1 σ H1 Q I1 q1
  | false => exact ⟨.bl false, H1, I1, rfl, q1⟩
/-- a if t else b -/
def tIf (t : TT) (ta tb : TE) : TE := fun σ H Q => t σ H fun c H1 => if c = true then ta σ H1 Q else tb σ H1 Q
theorem pe_ifExp {c : Expr} (hc : PT X c tA) (ha : PE X a ta) (hb : PE X b tb) : PE X (.IfExp c a b pos) (tIf tA ta tb) := by
  intro pins s σ H Q I h
  refine wpAny_IfExp (thn (hc pins s σ H _ I h) fun d s1 ⟨H1, I1, q1⟩ => ?_)
  cases d with
  | true => exact ha pins s1 σ H1 Q I1 q1
  | false => exact hb pins s1 σ H1 Q I1 q1
end
end L2

namespace L2
open PySem PySem.Spec PyProof.Rows

/-! ### a list, a tuple that is read: tracked, frozen, or an object of the module -/
def SqL (K : PySem.W.Frag) (H : Hp) (a : Addr) (xs : List V) : Prop :=
  Rd H a (.lst xs) ∨
    ∃ (o : Obj) (its : Array Value) (n : Nat), K.lookup a = some o ∧ o.cls = .type "list" ∧ o.dict = none ∧ o.data = .seq its n ∧ its.size ≤ sizeLine ∧ Vals xs its.toList
def SqT (K : PySem.W.Frag) (H : Hp) (a : Addr) (xs : List V) : Prop :=
  Rd H a (.tup xs) ∨
    ∃ (o : Obj) (its : Array Value) (n : Nat), K.lookup a = some o ∧ o.cls = .type "tuple" ∧ o.data = .seq its n ∧ its.size ≤ sizeLine ∧ Vals xs its.toList
def absV : Value → Option V
  | .none => some .non
  | .bool b => some (.bl b)
  | .int i _ => some (.int i)
  | .str x _ => some (.str x)
  | .bytes b _ => some (.byt b)
  | .float b _ => some (.flt b)
  | .ref a => some (.ref a)
  | .type n => some (.ty n)
  | _ => none
theorem RelV.abs {x : V} {u : Value} (r : RelV x u) : absV u = some x := by
  cases x with
  | non => cases r; rfl
  | bl _ => cases r; rfl
  | int _ => obtain ⟨t, rfl⟩ := r; rfl
  | str _ => obtain ⟨t, rfl⟩ := r; rfl
  | byt _ => obtain ⟨t, rfl⟩ := r; rfl
  | flt _ => obtain ⟨t, rfl⟩ := r; rfl
  | ref _ => cases r; rfl
  | ty _ => cases r; rfl
theorem RelV.inj {x y : V} {u : Value} (r : RelV x u) (q : RelV y u) : x = y := Option.some.inj (r.abs.symm.trans q.abs)
theorem Vals.inj : ∀ {xs ys : List V} {us : List Value}, Vals xs us → Vals ys us → xs = ys
  | _, _, _, .nil, .nil => rfl
  | _, _, _, .cons r t, .cons r' t' => by rw [r.inj r', Vals.inj t t']
section
variable {X : Cx} {pins : List (Addr × Obj)} {σ : St} {H : Hp} {s : Shared} {a : Addr} {xs ys : List V}
theorem SqL.of {K : PySem.W.Frag} (h : H a = some (.lst xs)) : SqL K H a xs := .inl (.inl h)
theorem SqT.of {K : PySem.W.Frag} (h : H a = some (.tup xs)) : SqT K H a xs := .inl (.inl h)
theorem Inv.list (I : Inv X pins σ H s) (h : SqL X.K H a xs) : ∃ its : List Value, Vals xs its ∧ PlainL s.heap a its.toArray ∧ xs.length ≤ sizeLine := by
  rcases h with h | ⟨o, its, n, hk, hc, hd, hs, hz, r⟩
  · obtain ⟨z, its, n, r, e⟩ := h.ok I.hok
    exact ⟨its, r, ⟨_, n, e, rfl, rfl, rfl⟩, z⟩
  · refine ⟨its.toList, r, ⟨o, n, I.kIn a o hk, hc, hd, by simpa using hs⟩, ?_⟩
    have e := r.length
    simp only [Array.length_toList] at e
    omega
theorem Inv.tuple (I : Inv X pins σ H s) (h : SqT X.K H a xs) : ∃ its : List Value, Vals xs its ∧ IsTup s.heap a its.toArray ∧ xs.length ≤ sizeLine := by
  rcases h with h | ⟨o, its, n, hk, hc, hs, hz, r⟩
  · obtain ⟨z, its, r, p⟩ := h.ok I.hok
    exact ⟨its, r, p, z⟩
  · refine ⟨its.toList, r, ⟨o, I.kIn a o hk, hc, n, by simpa using hs⟩, ?_⟩
    have e := r.length
    simp only [Array.length_toList] at e
    omega
theorem Inv.list_inj (I : Inv X pins σ H s) (h : SqL X.K H a xs) (h' : SqL X.K H a ys) : xs = ys := by
  obtain ⟨its, r, ⟨o, n, e, _, _, d⟩, _⟩ := I.list h
  obtain ⟨its', r', ⟨o', n', e', _, _, d'⟩, _⟩ := I.list h'
  rw [e] at e'; cases e'
  rw [d] at d'
  injection d' with d1 _
  have : its = its' := by simpa using congrArg Array.toList d1
  subst this
  exact r.inj r'
end

/-! ### another wish about exceptions -/
abbrev Cx.wish (X : Cx) (E : Value → Shared → Prop) : Cx := { X with xe := E }
/-- no exception leaves -/
abbrev Cx.nox (X : Cx) : Cx := X.wish fun _ _ => False
theorem Cx.Ok.wish {X : Cx} (ok : X.Ok) (E : Value → Shared → Prop) : (X.wish E).Ok :=
  ⟨ok.mod, ok.kind, ok.glob, ok.blt, ok.above, ok.inj, ok.has, ok.cab, ok.hd, ok.frames, ok.stk, ok.exf, ok.bs, ok.bsz, ok.noex, ok.exfs, ok.funs, ok.frf⟩
theorem Cx.Ok.unwish {X : Cx} {E : Value → Shared → Prop} (ok : (X.wish E).Ok) : X.Ok :=
  ⟨ok.mod, ok.kind, ok.glob, ok.blt, ok.above, ok.inj, ok.has, ok.cab, ok.hd, ok.frames, ok.stk, ok.exf, ok.bs, ok.bsz, ok.noex, ok.exfs, ok.funs, ok.frf⟩
section
variable {X : Cx} {pins : List (Addr × Obj)} {σ : St} {H : Hp} {s : Shared} {E : Value → Shared → Prop}
theorem Inv.wish (I : Inv X pins σ H s) (E : Value → Shared → Prop) : Inv (X.wish E) pins σ H s := ⟨I.ok.wish E, I.os, I.bare, I.base, I.loc, I.cell, I.free, I.freeC, I.pin, I.hok, I.len⟩
theorem Inv.unwish (I : Inv (X.wish E) pins σ H s) : Inv X pins σ H s := ⟨I.ok.unwish, I.os, I.bare, I.base, I.loc, I.cell, I.free, I.freeC, I.pin, I.hok, I.len⟩
theorem SP.unwish {D : Ends} {f : Flow} {s' : Shared} (h : SP (X.wish E) pins D f s') : SP X pins D f s' := by
  cases f with
  | next => obtain ⟨σ', H', I, q⟩ := h; exact ⟨σ', H', I.unwish, q⟩
  | brk => obtain ⟨σ', H', I, q⟩ := h; exact ⟨σ', H', I.unwish, q⟩
  | cont => obtain ⟨σ', H', I, q⟩ := h; exact ⟨σ', H', I.unwish, q⟩
  | ret u => obtain ⟨v, σ', H', I, r, q⟩ := h; exact ⟨v, σ', H', I.unwish, r, q⟩
theorem PE.nox {e : Expr} {t : TE} (h : PE X.nox e t) : PE X e t := fun pins s σ H Q I hw =>
  wpAny_mono (h pins s σ H Q (I.wish _) hw) (fun _ _ ⟨v, H', I', r, q⟩ => ⟨v, H', I'.unwish, r, q⟩) fun _ _ z => False.elim z
theorem PT.nox {e : Expr} {t : TT} (h : PT X.nox e t) : PT X e t := fun pins s σ H Q I hw =>
  wpAny_mono (h pins s σ H Q (I.wish _) hw) (fun _ _ ⟨H', I', q⟩ => ⟨H', I'.unwish, q⟩) fun _ _ z => False.elim z
theorem PSs.nox {st : List Stmt} {t : TS} (h : PSs X.nox st t) : PSs X st t := fun pins s σ H D I hw =>
  wpAny_mono (h pins s σ H D (I.wish _) hw) (fun _ _ q => q.unwish) fun _ _ z => False.elim z
end

/-! ### blocks and small statements -/
section
variable {X : Cx} {st : Stmt} {rest : List Stmt} {t u : TS} {e : Expr} {te : TE} {pos : Pos}
def tNext : TS := fun D σ H => D.nx σ H
def tSeq (t u : TS) : TS := fun D σ H => t { D with nx := u D } σ H
theorem pss_nil : PSs X [] tNext := fun _ _ σ H _ I h => wpAny_execs_nil ⟨σ, H, I, h⟩
theorem pss_cons (h1 : PS X st t) (h2 : PSs X rest u) : PSs X (st :: rest) (tSeq t u) := by
  intro pins s σ H D I h
  refine wpAny_execs_cons (thn (h1 pins s σ H { D with nx := u D } I h) fun f s1 q => ?_)
  cases f with
  | next =>
    obtain ⟨σ', H', I', q⟩ := q
    exact h2 pins s1 σ' H' D I' q
  | ret v => exact q
  | brk => exact q
  | cont => exact q
theorem pss_one (h1 : PS X st t) : PSs X [st] t := by
  intro pins s σ H D I h
  refine wpAny_execs_cons (thn (h1 pins s σ H D I h) fun f s1 q => ?_)
  cases f with
  | next => exact wpAny_execs_nil q
  | ret v => exact q
  | brk => exact q
  | cont => exact q
def tBreak : TS := fun D σ H => D.bk σ H
def tCont : TS := fun D σ H => D.ct σ H
/-- in a def's body nothing is shown -/
theorem Inv.quiet {pins : List (Addr × Obj)} {σ : St} {H : Hp} {s : Shared} (I : Inv X pins σ H s) : interactive X.env = false := by simp [interactive, I.ok.kind]
/-- an expression whose value is dropped -/
def tDrop (te : TE) : TS := fun D σ H => te σ H fun _ H1 => D.nx σ H1
theorem ps_expr (he : PE X e te) (hs : swapsWith e none pos.line X.env = pure false := by rfl) : PS X (.Expr e pos) (tDrop te) := by
  intro pins s σ H D I h
  exact wpAny_Expr_any (thn (he pins s σ H _ I h) fun v s1 ⟨x, H1, I1, r1, q1⟩ => ⟨σ, H1, I1, q1⟩) I.quiet hs
def tRet (te : TE) : TS := fun D σ H => te σ H D.rt
theorem ps_ret (he : PE X e te) : PS X (.Return (some e) pos) (tRet te) := by
  intro pins s σ H D I h
  exact wpAny_Return_some (thn (he pins s σ H _ I h) fun v s1 ⟨x, H1, I1, r1, q1⟩ => ⟨x, σ, H1, I1, r1, q1⟩)
def tRetN : TS := fun D _ H => D.rt .non H
def tIfS (c : TT) (t u : TS) : TS := fun D σ H => c σ H fun b H1 => if b = true then t D σ H1 else u D σ H1
theorem ps_if {c : Expr} {a b : List Stmt} {tc : TT} (hc : PT X c tc) (ha : PSs X a t) (hb : PSs X b u) : PS X (.If c a b pos) (tIfS tc t u) := by
  intro pins s σ H D I h
  refine wpAny_If (thn (hc pins s σ H _ I h) fun d s1 ⟨H1, I1, q1⟩ => ?_)
  cases d with
  | true => exact ha pins s1 σ H1 D I1 q1
  | false => exact hb pins s1 σ H1 D I1 q1
/-- code that the proof never comes to -/
def tNever : TS := fun _ _ _ => False
theorem ps_never : PS X st tNever := fun _ _ _ _ _ _ h => h.elim
theorem pss_never {sts : List Stmt} : PSs X sts tNever := fun _ _ _ _ _ _ h => h.elim
end

/-! ### targets -/
abbrev TG := V → St → Hp → (St → Hp → Prop) → Prop
abbrev TGs := List V → St → Hp → (St → Hp → Prop) → Prop
def PG (X : Cx) (target : Expr) (t : TG) : Prop :=
  ∀ (pins : List (Addr × Obj)) (s : Shared) (σ : St) (H : Hp) (v : V) (u : Value) (Q : St → Hp → Prop), Inv X pins σ H s → RelV v u → t v σ H Q →
    wpAny (model X.prog X.w) X.A (assign target X.env u) (fun _ s' => ∃ σ' H', Inv X pins σ' H' s' ∧ Q σ' H') X.xe s
/-- several targets, one after another -/
def PGs (X : Cx) (ts : List Expr) (t : TGs) : Prop :=
  ∀ (pins : List (Addr × Obj)) (s : Shared) (σ : St) (H : Hp) (vs : List V) (us : List Value) (Q : St → Hp → Prop), Inv X pins σ H s → Vals vs us → t vs σ H Q →
    wpAny (model X.prog X.w) X.A (assignInOrder ((assignEach ts X.env).map (·.2)) us) (fun _ s' => ∃ σ' H', Inv X pins σ' H' s' ∧ Q σ' H') X.xe s
/-- o[i] = v, by values -/
abbrev TSet := V → V → V → Hp → (Hp → Prop) → Prop
def PSet (X : Cx) (t : TSet) : Prop :=
  ∀ (pins : List (Addr × Obj)) (s : Shared) (σ : St) (H : Hp) (o i v : V) (ov iv u : Value) (Q : Hp → Prop), Inv X pins σ H s → RelV o ov → RelV i iv → RelV v u → t o i v H Q →
    wpAny (model X.prog X.w) X.A (setItem ov iv u) (fun _ s' => ∃ H', Inv X pins σ H' s' ∧ Q H') X.xe s
/-- a op= b, by values -/
abbrev TIp := V → V → Hp → VK → Prop
def PIp (X : Cx) (op : Operator) (t : TIp) : Prop :=
  ∀ (pins : List (Addr × Obj)) (s : Shared) (σ : St) (H : Hp) (x y : V) (v u : Value) (Q : VK), Inv X pins σ H s → RelV x v → RelV y u → t x y H Q →
    wpAny (model X.prog X.w) X.A (inplaceOp op v u) (EP X pins σ Q) X.xe s
section
variable {X : Cx} {pos : Pos}
def gName (i : Nat) : TG := fun v σ H Q => Q (σ.set i (some v)) H
theorem pg_name {i : Nat} {x : Str} (hN : X.N.Nodup) (hi : X.N[i]? = some x) (hx : Loc X.env.scope x) (hf : X.fn x = true ∨ X.env.scope.names.lookup x = some .local := by first | exact .inl rfl | exact .inr rfl | assumption) : PG X (.Name x pos) (gName i) := by
  intro pins s σ H v u Q I r h
  exact wpAny_assign_Name (store_ok I hN hi hx r (fun s' I' => ⟨_, H, I', h⟩) hf)
def gNil : TGs := fun vs σ H Q => vs = [] ∧ Q σ H
def gCons (t : TG) (u : TGs) : TGs := fun vs σ H Q => ∃ v r, vs = v :: r ∧ t v σ H fun σ' H' => u r σ' H' Q
/-- (a, b, ..) = a tuple of that length -/
def gTup (K : PySem.W.Frag) (n : Nat) (t : TGs) : TG := fun v σ H Q => ∃ a xs, v = .ref a ∧ SqT K H a xs ∧ xs.length = n ∧ t xs σ H Q
/-- o[i] = .. -/
def gSub (to ti : TE) (t : TSet) : TG := fun v σ H Q => to σ H fun o H1 => ti σ H1 fun i H2 => t o i v H2 fun H3 => Q σ H3
/-- target = value -/
def tAsg (te : TE) (g : TG) : TS := fun D σ H => te σ H fun x H1 => g x σ H1 D.nx
/-- name = value -/
theorem ps_set {i : Nat} {x : Str} {e : Expr} {te : TE} {pos' : Pos} (hN : X.N.Nodup) (hi : X.N[i]? = some x) (hx : Loc X.env.scope x) (he : PE X e te) (hs : swapsWith e (some (.Name x pos')) pos.line X.env = pure false := by rfl) (hf : X.fn x = true ∨ X.env.scope.names.lookup x = some .local := by first | exact .inl rfl | exact .inr rfl | assumption) :
    PS X (.Assign [.Name x pos'] e pos) (tAsg te (gName i)) := by
  intro pins s σ H D I h
  refine wpAny_Assign_Name (thn (he pins s σ H _ I h) fun v s1 ⟨y, H1, I1, r1, q1⟩ => ?_) hs
  exact store_ok I1 hN hi hx r1 (fun s2 I2 => ⟨_, H1, I2, q1⟩) hf
/-- a, b = x, y with plain local names: stored from the right; the pair itself is not tracked (the opening rows as in PyProof/Rows/TupAssign.lean:23) -/
def tPar (i j : Nat) (ta : TA) : TS := fun D σ H => ta σ H fun vs H1 => ∃ v w, vs = [v, w] ∧ D.nx ((σ.set i (some v)).set j (some w)) H1
/-- name op= e -/
def tAug (i : Nat) (te : TE) (ti : TIp) : TS := fun D σ H => ∃ x, σ[i]? = some (some x) ∧ te σ H fun y H1 => ti x y H1 fun z H2 => D.nx (σ.set i (some z)) H2
/-- o[i] op= e -/
def tAugS (to ti te : TE) (tget : V → V → Hp → VK → Prop) (tip : TIp) (tset : TSet) : TS := fun D σ H => to σ H fun o H1 => ti σ H1 fun i H2 => tget o i H2 fun x H3 => te σ H3 fun y H4 => tip x y H4 fun z H5 => tset o i z H5 fun H6 => D.nx σ H6
/-- o[i], by values -/
def PGet (X : Cx) (t : V → V → Hp → VK → Prop) : Prop :=
  ∀ (pins : List (Addr × Obj)) (s : Shared) (σ : St) (H : Hp) (o i : V) (ov iv : Value) (Q : VK), Inv X pins σ H s → RelV o ov → RelV i iv → t o i H Q →
    wpAny (model X.prog X.w) X.A (getItem ov iv) (EP X pins σ Q) X.xe s
/-- ints -/
def ipI (f : Int → Int → Int) : TIp := fun x y H Q => ∃ i j, x = .int i ∧ y = .int j ∧ Q (.int (f i j)) H
end

/-! ### while -/
section
variable {X : Cx} {pos : Pos}
/-- the invariant W with its measure -/
def tWhile (c : TT) (tb : TS) : TS := fun D σ H => ∃ W : Nat → St → Hp → Prop, (∃ m, W m σ H) ∧ ∀ m σ H, W m σ H →
  c σ H fun b H1 => if b = true then ∃ N : St → Hp → Prop, (∀ σ' H', N σ' H' → ∃ m', m' < m ∧ W m' σ' H') ∧ tb { D with nx := N, ct := N, bk := D.nx } σ H1 else D.nx σ H1
theorem ps_while {c : Expr} {body : List Stmt} {tc : TT} {tb : TS} (hp : PassesOwn (model X.prog X.w) X.A X.env X.xe) (hc : PT X c tc) (hb : PSs X body tb) : PS X (.While c body [] pos) (tWhile tc tb) := by
  intro pins s σ H D I h
  obtain ⟨W, ⟨m0, w0⟩, turn⟩ := h
  refine wpAny_While (codeAny_whileLoop (fun n s' => ∃ σ' H', Inv X pins σ' H' s' ∧ W n σ' H') ?_ m0 ⟨σ, H, I, w0⟩)
  rintro n s1 ⟨σ1, H1, I1, w1⟩
  refine wpAny_passesOwn hp (thn (hc pins s1 σ1 H1 _ I1 (turn n σ1 H1 w1)) fun b s2 ⟨H2, I2, q2⟩ => ?_)
  cases b with
  | true =>
    obtain ⟨N, hN, q2⟩ := q2
    rw [if_pos rfl]
    refine wpAny_passesOwn hp (thn (hb pins s2 σ1 H2 _ I2 q2) fun f s3 q3 => ?_)
    cases f with
    | next =>
      obtain ⟨σ3, H3, I3, n3⟩ := q3
      obtain ⟨m', hm, w3⟩ := hN σ3 H3 n3
      exact ⟨m', hm, σ3, H3, I3, w3⟩
    | cont =>
      obtain ⟨σ3, H3, I3, n3⟩ := q3
      obtain ⟨m', hm, w3⟩ := hN σ3 H3 n3
      exact ⟨m', hm, σ3, H3, I3, w3⟩
    | brk => exact q3
    | ret v => exact q3
  | false =>
    rw [if_neg Bool.false_ne_true]
    exact wpAny_execs_nil ⟨σ1, H2, I2, q2⟩
end

/-! ### what a loop or a comprehension walks -/
/-- at turn i: it yields x (the heap may grow), or it stops -/
structure It where
  go : Nat → Hp → Prop
  yld : Nat → Hp → V → Hp → Prop
  stop : Nat → Hp → Prop
/-- the iterator's own objects may turn: they are not the frame's, not pinned, younger than the entry (or a comprehension's own) -/
def FpOk (X : Cx) (pins : List (Addr × Obj)) (H : Hp) (b : Addr) : Prop :=
  H b = none ∧ b ≠ X.env.locals ∧ b ∉ X.fs ∧ (b ∈ X.ex ∨ X.s₀.heap.objs.size ≤ b) ∧ (∀ x c, X.env.cells.lookup x = some c → c ≠ b) ∧ ∀ p ∈ X.pn ++ pins, p.1 ≠ b
theorem Inv.fpOk {X : Cx} {pins : List (Addr × Obj)} {σ : St} {H H' : Hp} {s : Shared} {b : Addr} (I : Inv X pins σ H s) (hb : s.heap.objs.size ≤ b) (hn : H' b = none) : FpOk X pins H' b := by
  refine ⟨hn, Nat.ne_of_gt (Nat.lt_of_lt_of_le I.lt hb), I.nofs hb, .inr (Nat.le_trans I.sz hb), fun x c e z => ?_, fun p hp z => ?_⟩
  · obtain ⟨v, q⟩ := I.cell x c e
    exact absurd (Nat.lt_of_lt_of_le q.lt (by rw [z]; exact hb)) (Nat.lt_irrefl _)
  · exact absurd (Nat.lt_of_lt_of_le (Heap.lt_size (I.pin p hp).1) (by rw [z]; exact hb)) (Nat.lt_irrefl _)
structure Turn (P : Program) (w : World) (K : PySem.W.Frag) (tg : Expr) (J : It) (fp : List Addr) (it : Addr) (tn : Nat → Heap → Prop) : Prop where
  mem : it ∈ fp
  obj : ∀ i h, tn i h → ∀ b ∈ fp, ∃ o, h.get? b = some o ∧ ∀ v, o.data ≠ .cell v
  keep : ∀ i h h', tn i h → (∀ b ∈ fp, ∀ o, h.get? b = some o → h'.get? b = some o) → tn i h'
  item : ∀ (X : Cx), X.prog = P → X.w = w → X.K = K → X.calm = true → ∀ (i : Nat) (pins : List (Addr × Obj)) (s : Shared) (σ : St) (H : Hp) (E : Value → Shared → Prop), Inv X pins σ H s → (∀ b ∈ fp, FpOk X pins H b) → tn i s.heap → J.go i H →
    wpAny (model P w) X.A (pyNext (.ref it)) (fun r s1 => ∃ u, r = some u ∧
      wpAny (model P w) X.A (letOwnedTupleGo tg (.ref it) u) (fun _ s2 => ∃ x H', Inv X pins σ H' s2 ∧ RelV x u ∧ J.yld i H x H' ∧ tn (i + 1) s2.heap ∧ ∀ b ∈ fp, H' b = none) E s1) E s
  done : ∀ (X : Cx), X.prog = P → X.w = w → X.K = K → X.calm = true → ∀ (i : Nat) (pins : List (Addr × Obj)) (s : Shared) (σ : St) (H : Hp) (E : Value → Shared → Prop), Inv X pins σ H s → (∀ b ∈ fp, FpOk X pins H b) → tn i s.heap → J.stop i H →
    wpAny (model P w) X.A (pyNext (.ref it)) (fun r s1 => r = none ∧ Inv X pins σ H s1) E s
  self : ∀ (A : Around) (i : Nat) (s : Shared) (Q : Value → Shared → Prop) (E : Value → Shared → Prop), tn i s.heap → Q (.ref it) s → wpAny (model P w) A (pyIter (.ref it)) Q E s
abbrev TI := St → Hp → (It → Hp → Prop) → Prop
/-- an iterator has come -/
def PIE (X : Cx) (pins : List (Addr × Obj)) (σ : St) (tg : Expr) (R : It → Hp → Prop) (itv : Value) (s2 : Shared) : Prop :=
  ∃ (it : Addr) (fp : List Addr) (tn : Nat → Heap → Prop) (J : It) (H' : Hp), itv = .ref it ∧ Inv X pins σ H' s2 ∧ Turn X.prog X.w X.K tg J fp it tn ∧ tn 0 s2.heap ∧ (∀ b ∈ fp, FpOk X pins H' b) ∧ R J H'
def PI (X : Cx) (tg iter : Expr) (wi : TI) : Prop :=
  ∀ (pins : List (Addr × Obj)) (s : Shared) (σ : St) (H : Hp) (R : It → Hp → Prop), Inv X pins σ H s → wi σ H R →
    wpAny (model X.prog X.w) X.A (eval iter X.env) (fun v s1 => wpAny (model X.prog X.w) X.A (pyIter v) (PIE X pins σ tg R) X.xe s1) X.xe s

/-- the step ahead of the store is nothing for an iterator that keeps no tuple -/
theorem go_of {M : Model} {A : Around} {E : Value → Shared → Prop} {s : Shared} {tg : Expr} {it : Addr} {u : Value} {o : Obj} {n : String} {vs : Array Value} {Q : Unit → Shared → Prop} (ho : s.heap.get? it = some o) (hc : o.cls = .type n) (hd : o.data = .fields vs)
    (hn : ["enumerate", "zip", "dict_itemiterator", "dict_reverseitemiterator", "odict_iterator", "itertools.zip_longest", "itertools.pairwise"].contains n = false) (hQ : Q () s) : wpAny M A (letOwnedTupleGo tg (.ref it) u) Q E s := by
  unfold letOwnedTupleGo
  cases tg <;> first
    | exact wpAny_pure hQ
    | (cases u <;> first
        | exact wpAny_pure hQ
        | (refine wpAny_bind (wpAny_load ho ?_)
           rw [hc, hd]
           show wpAny M A (if (["enumerate", "zip", "dict_itemiterator", "dict_reverseitemiterator", "odict_iterator", "itertools.zip_longest", "itertools.pairwise"].contains n && vs[0]? == some (rawInt _)) = true then _ else _) Q E s
           rw [if_neg (by intro h; rw [hn, Bool.false_and] at h; cases h)]
           exact wpAny_pure hQ))

/-- the list at a, as it stands at each turn (a loop may append to it) -/
def Itl (K : PySem.W.Frag) (a : Addr) : It :=
  ⟨fun i H => ∃ xs x, SqL K H a xs ∧ xs[i]? = some x, fun i H x H' => H' = H ∧ ∀ xs, SqL K H a xs → xs[i]? = some x, fun i H => ∃ xs, SqL K H a xs ∧ xs.length ≤ i⟩
def Itt (K : PySem.W.Frag) (a : Addr) : It :=
  ⟨fun i H => ∃ xs x, SqT K H a xs ∧ xs[i]? = some x, fun i H x H' => H' = H ∧ ∀ xs, SqT K H a xs → xs[i]? = some x, fun i H => ∃ xs, SqT K H a xs ∧ xs.length ≤ i⟩
/-- lo, lo + 1, .. (n of them) -/
def Itr (lo : Int) (n : Nat) : It := ⟨fun i _ => i < n, fun i H x H' => H' = H ∧ x = .int (lo + i), fun i _ => n ≤ i⟩
theorem turn_list {P : Program} {w : World} {K : PySem.W.Frag} {tg : Expr} (a it : Addr) : Turn P w K tg (Itl K a) [it] it (fun i h => h.IsListIter it a i) where
  mem := by simp
  obj := fun i h st b hb => by
    have e : b = it := by simpa using hb
    subst e
    obtain ⟨o, e, c, d⟩ := st
    exact ⟨o, e, fun v z => by rw [d] at z; cases z⟩
  keep := fun i h h' st k => st.at fun o e => k it (by simp) o e
  item := by
    intro X hP hw hK hc i pins s σ H E I hf st hg
    subst hP hw hK
    obtain ⟨xs, x, hq, hx⟩ := hg
    obtain ⟨its, rv, p, hz⟩ := I.list hq
    obtain ⟨u, hu, ru⟩ := rv.get hx
    obtain ⟨f0, f1, f2, f3, f4, f5⟩ := hf it (by simp)
    refine wpAny_pyNext_list_item st p.isList (x := u) (by simpa using hu) fun h' st' sb => ?_
    have I1 : Inv X pins σ H { s with heap := h' } := I.turned (t' := s.toks) (fun b o hb e => (sb.2 b hb).trans e) f0 f1 f3 f4 f5
    obtain ⟨o, e, c, d⟩ := id st'
    exact ⟨u, rfl, go_of (s := { s with heap := h' }) e c d (by decide) ⟨x, H, I1, ru, ⟨rfl, fun ys hy => by rw [I.list_inj hy hq]; exact hx⟩, st', fun b hb => (hf b hb).1⟩⟩
  done := by
    intro X hP hw hK hc i pins s σ H E I hf st hg
    subst hP hw hK
    obtain ⟨xs, hq, hx⟩ := hg
    obtain ⟨its, rv, p, hz⟩ := I.list hq
    obtain ⟨f0, f1, f2, f3, f4, f5⟩ := hf it (by simp)
    have hl := rv.length
    exact wpAny_pyNext_list_end (I.ok.hd hc) st p.isList (by simp; omega) fun h' eb => ⟨rfl, I.turned (t' := s.toks) (fun b o hb e => eb b o hb e) f0 f1 f3 f4 f5⟩
  self := fun _ _ _ _ _ st h => wpAny_pyIter_listiter st h
theorem turn_range {P : Program} {w : World} {K : PySem.W.Frag} {tg : Expr} (it : Addr) (lo : Int) (n : Nat) : Turn P w K tg (Itr lo n) [it] it (fun i h => IsRangeIter h it (lo + (i : Nat) * 1) ((n : Int) - (i : Nat)) 1) where
  mem := by simp
  obj := fun i h st b hb => by
    have e : b = it := by simpa using hb
    subst e
    exact ⟨_, st, fun v z => by
      have z' : Data.fields _ = Data.cell v := z
      cases z'⟩
  keep := fun i h h' st k => k it (by simp) _ st
  item := by
    intro X hP hw hK hc i pins s σ H E I hf st hg
    subst hP hw hK
    obtain ⟨f0, f1, f2, f3, f4, f5⟩ := hf it (by simp)
    have W := Walks.range (prog := X.prog) (w := X.w) (I.ok.hd hc) it lo 1 n
    refine W.item i s _ _ hg st fun v h' tk hv st' kk => ?_
    obtain ⟨t, rfl⟩ := hv
    have I1 : Inv X pins σ H { s with heap := h', toks := tk } := I.turned (fun b o hb e => kk b o (by simpa using hb) e) f0 f1 f3 f4 f5
    refine ⟨_, rfl, go_of (s := { s with heap := h', toks := tk }) (n := "range_iterator") st' rfl rfl (by decide) ⟨.int (lo + i), H, I1, ⟨t, ?_⟩, ⟨rfl, rfl⟩, st', fun b hb => (hf b hb).1⟩⟩
    rw [Int.mul_one]
  done := by
    intro X hP hw hK hc i pins s σ H E I hf st hg
    subst hP hw hK
    obtain ⟨f0, f1, f2, f3, f4, f5⟩ := hf it (by simp)
    exact wpAny_pyNext_range_end (I.ok.hd hc) st (by have : n ≤ i := hg; omega) fun h' eb => ⟨rfl, I.turned (t' := s.toks) (fun b o hb e => eb b o hb e) f0 f1 f3 f4 f5⟩
  self := fun _ _ _ _ _ st h => wpAny_pyIter_rangeiter st h
end L2

namespace L2
open PySem PySem.Spec PyProof.Rows
section
variable {X : Cx} {tg : Expr}
def iList (K : PySem.W.Frag) (tl : TE) : TI := fun σ H R => tl σ H fun x H1 => ∃ a, x = .ref a ∧ (∃ xs, SqL K H1 a xs) ∧ R (Itl K a) H1
def iTup (K : PySem.W.Frag) (tl : TE) : TI := fun σ H R => tl σ H fun x H1 => ∃ a, x = .ref a ∧ (∃ xs, SqT K H1 a xs) ∧ R (Itt K a) H1
theorem pi_list {l : Expr} {tl : TE} (hl : PE X l tl) : PI X tg l (iList X.K tl) := by
  intro pins s σ H R I h
  refine thn (hl pins s σ H _ I h) fun v s1 ⟨x, H1, I1, r1, q1⟩ => ?_
  obtain ⟨a, e, ⟨xs, hq⟩, q⟩ := q1
  subst e
  cases r1
  obtain ⟨its, rv, p, hz⟩ := I1.list hq
  refine wpAny_pyIter_list p.isList ?_
  refine ⟨s1.heap.objs.size, [s1.heap.objs.size], _, _, H1, rfl, I1.kept (t' := s1.toks) fun b o e => Heap.get?_push_of_some _ e, turn_list a _, ⟨_, Heap.get?_push_size _ rfl, rfl, rfl⟩, fun b hb => ?_, q⟩
  have e : b = s1.heap.objs.size := by simpa using hb
  subst e
  exact I1.fpOk (Nat.le_refl _) (I1.hok.fresh (Nat.le_refl _))
/-- a range object just made, walked -/
theorem range_it {pins : List (Addr × Obj)} {σ : St} {H : Hp} {s : Shared} {R : It → Hp → Prop} {E : Value → Shared → Prop} {lo hi : Int} {t u v : Tok} {tk : Nat} (I : Inv X pins σ H s) (h1 : -(2 ^ 62) ≤ lo) (h2 : lo < 2 ^ 62) (h3 : -(2 ^ 62) ≤ hi) (h4 : hi < 2 ^ 62)
    (q : R (Itr lo (hi - lo).toNat) H) : wpAny (model X.prog X.w) X.A (pyIter (.ref s.heap.objs.size)) (PIE X pins σ tg R) E { s with heap := s.heap.push { cls := .type "range", data := .fields #[.int lo t, .int hi u, .int 1 v] }, toks := tk } := by
  refine wpAny_pyIter_range (IsRange.new ..) (small_one h1 h2 h3 h4) ?_
  have I1 : Inv X pins σ H { s with heap := s.heap.push { cls := .type "range", data := .fields #[.int lo t, .int hi u, .int 1 v] }, toks := tk } := I.kept fun b o e => Heap.get?_push_of_some _ e
  refine ⟨(s.heap.push { cls := .type "range", data := .fields #[.int lo t, .int hi u, .int 1 v] }).objs.size, [(s.heap.push { cls := .type "range", data := .fields #[.int lo t, .int hi u, .int 1 v] }).objs.size], _, _, H, rfl,
    I1.kept (t' := tk) fun b o e => Heap.get?_push_of_some _ e, turn_range _ lo (hi - lo).toNat, ?_, fun b hb => ?_, q⟩
  · have e1 : lo + ((0 : Nat) : Int) * 1 = lo := by simp
    have e2 : (((hi - lo).toNat : Nat) : Int) - ((0 : Nat) : Int) = Builtin.Range.rangeSize lo hi 1 := by rw [rangeSize_one]; split <;> omega
    show IsRangeIter _ _ (lo + ((0 : Nat) : Int) * 1) ((((hi - lo).toNat : Nat) : Int) - ((0 : Nat) : Int)) 1
    rw [e1, e2]
    exact Heap.get?_push_size _ rfl
  · have e : b = (s.heap.push { cls := .type "range", data := .fields #[.int lo t, .int hi u, .int 1 v] }).objs.size := by simpa using hb
    subst e
    exact I1.fpOk (Nat.le_refl _) (I1.hok.fresh (Nat.le_refl _))
def iRng1 (ta : TA) : TI := fun σ H R => ta σ H fun vs H1 => ∃ j : Int, vs = [.int j] ∧ -(2 ^ 62) ≤ j ∧ j < 2 ^ 62 ∧ R (Itr 0 j.toNat) H1
def iRng2 (ta : TA) : TI := fun σ H R => ta σ H fun vs H1 => ∃ i j : Int, vs = [.int i, .int j] ∧ (-(2 ^ 62) ≤ i ∧ i < 2 ^ 62 ∧ -(2 ^ 62) ≤ j ∧ j < 2 ^ 62) ∧ R (Itr i (j - i).toNat) H1
theorem pi_range1 {a : Expr} {ta : TA} {p pos : Pos} (hg : Gl X "range") (hm : X.mg "range" = none) (ha : PA X [a] ta) (hs : starEach [a] X.env = [(false, eval a X.env)] := by rfl) : PI X tg (.Call (.Name "range" p) [a] [] pos) (iRng1 ta) := by
  intro pins s σ H R I h
  refine Call_ (ld_blt I hg hm boot_range (PyProof.Rows.callWith_type1 (thn (ha pos pins s σ H _ I h) fun us s1 ⟨vs, H1, I1, r1, q1⟩ => ?_) hs rfl))
  obtain ⟨j, e, q1, q2, q⟩ := q1
  subst e
  cases r1 with
  | cons r rr =>
    cases rr
    obtain ⟨t, rfl⟩ := r
    exact call_range_1 (range_it I1 (by omega) (by omega) q1 q2 (by simpa using q))
/-! ### for -/
/-- W: the invariant by the turn and a measure; N: what the body is to reach -/
def tFor (wi : TI) (g : TG) (tb : TS) : TS := fun D σ H => wi σ H fun J H1 => ∃ W : Nat → Nat → St → Hp → Prop, (∃ m, W 0 m σ H1) ∧ ∀ i m σ H, W i m σ H →
  (J.stop i H ∧ D.nx σ H) ∨ (J.go i H ∧ ∃ N : St → Hp → Prop, (∀ σ' H', N σ' H' → ∃ m', m' < m ∧ W (i + 1) m' σ' H') ∧ ∀ x H', J.yld i H x H' → g x σ H' fun σ2 H2 => tb { D with nx := N, ct := N, bk := D.nx } σ2 H2)
/-- the records at fp as they stand -/
def pinsAt (fp : List Addr) (h : Heap) : List (Addr × Obj) := fp.filterMap fun b => (h.get? b).map fun o => (b, o)
theorem mem_pinsAt {fp : List Addr} {h : Heap} {b : Addr} {o : Obj} (hb : b ∈ fp) (e : h.get? b = some o) : (b, o) ∈ pinsAt fp h := List.mem_filterMap.mpr ⟨b, hb, by rw [e]; rfl⟩
theorem of_pinsAt {fp : List Addr} {h : Heap} {p : Addr × Obj} (hp : p ∈ pinsAt fp h) : p.1 ∈ fp ∧ h.get? p.1 = some p.2 := by
  obtain ⟨b, hb, e⟩ := List.mem_filterMap.mp hp
  cases q : h.get? b with
  | none => rw [q] at e; cases e
  | some o =>
    rw [q] at e
    have e' : (b, o) = p := Option.some.inj e
    subst e'
    exact ⟨hb, q⟩
theorem Inv.pinned {pins : List (Addr × Obj)} {σ : St} {H : Hp} {s : Shared} {fp : List Addr} (I : Inv X pins σ H s) (hf : ∀ b ∈ fp, FpOk X pins H b) (ho : ∀ b ∈ fp, ∃ o, s.heap.get? b = some o ∧ ∀ v, o.data ≠ .cell v) : Inv X (pins ++ pinsAt fp s.heap) σ H s :=
  I.pins_of fun p hp => (List.mem_append.mp hp).elim (fun z => I.pin p (List.mem_append_right _ z)) fun z => by
    obtain ⟨hb, e⟩ := of_pinsAt z
    obtain ⟨f0, f1, f2, _⟩ := hf p.1 hb
    obtain ⟨o, e', d⟩ := ho p.1 hb
    rw [e] at e'; cases e'
    exact ⟨e, f0, f1, f2, d⟩
theorem Inv.unpinned {pins pl : List (Addr × Obj)} {σ : St} {H : Hp} {s : Shared} (I : Inv X (pins ++ pl) σ H s) : Inv X pins σ H s := I.pins_of fun p hp => I.pin p (List.mem_append_right _ (List.mem_append_left _ hp))
theorem ps_for {iter : Expr} {body : List Stmt} {wi : TI} {g : TG} {tb : TS} {pos : Pos} (hp : PassesOwn (model X.prog X.w) X.A X.env X.xe) (hc : X.calm = true) (hi : PI X tg iter wi) (hg : PG X tg g) (hb : PSs X body tb)
    (hs : ∀ x, foldedSetIterable iter X.env x = pure x := by intro _; rfl) : PS X (.For tg iter body [] pos) (tFor wi g tb) := by
  intro pins s σ H D I h
  refine wpAny_For (thn (hi pins s σ H _ I h) fun v s1 h1 => thn h1 fun itv s2 h2 => ?_) hs
  obtain ⟨it, fp, tn, J, H2, e, I2, T, st2, f2, W, ⟨m0, w0⟩, turn⟩ := h2
  subst e
  -- what stays true of the iterator's objects through the loop
  have stat : ∀ {H' : Hp}, (∀ b ∈ fp, H' b = none) → ∀ b ∈ fp, FpOk X pins H' b := fun hn b hb => ⟨hn b hb, (f2 b hb).2⟩
  refine codeAny_forLoop_any (fun n s' => ∃ i σ' H', Inv X pins σ' H' s' ∧ tn i s'.heap ∧ (∀ b ∈ fp, H' b = none) ∧ W i n σ' H') ?_ m0 ⟨0, σ, H2, I2, st2, fun b hb => (f2 b hb).1, w0⟩
  rintro n s3 ⟨i, σ3, H3, I3, st3, fr3, w3⟩
  rcases turn i n σ3 H3 w3 with ⟨stop, qn⟩ | ⟨go, N, hN, step⟩
  · refine wpAny_passesOwn hp (thn (T.done X rfl rfl rfl hc i pins s3 σ3 H3 X.xe I3 (stat fr3) st3 stop) fun r s4 ⟨hr, I4⟩ => ?_)
    subst hr
    exact wpAny_execs_nil ⟨σ3, H3, I4, qn⟩
  · refine wpAny_passesOwn hp (thn (T.item X rfl rfl rfl hc i pins s3 σ3 H3 X.xe I3 (stat fr3) st3 go) fun r s4 ⟨u, hr, h4⟩ => ?_)
    subst hr
    refine wpAny_passesOwn hp (thn h4 fun _ s5 ⟨x, H5, I5, r5, y5, st5, fr5⟩ => ?_)
    have I5' := I5.pinned (stat fr5) (T.obj _ _ st5)
    refine wpAny_passesOwn hp (thn (hg _ s5 σ3 H5 x u _ I5' r5 (step x H5 y5)) fun _ s6 ⟨σ6, H6, I6, q6⟩ => ?_)
    refine wpAny_passesOwn hp (thn (hb _ s6 σ6 H6 _ I6 q6) fun f s7 q7 => ?_)
    have again : ∀ {σ7 : St} {H7 : Hp}, Inv X (pins ++ pinsAt fp s5.heap) σ7 H7 s7 → N σ7 H7 → ∃ m, m < n ∧ ∃ i σ' H', Inv X pins σ' H' s7 ∧ tn i s7.heap ∧ (∀ b ∈ fp, H' b = none) ∧ W i m σ' H' := fun {σ7 H7} I7 n7 => by
      obtain ⟨m', hm, w7⟩ := hN σ7 H7 n7
      refine ⟨m', hm, i + 1, σ7, H7, I7.unpinned, T.keep _ _ _ st5 fun b hb o e => (I7.pin (b, o) (List.mem_append_right _ (List.mem_append_right _ (mem_pinsAt hb e)))).1, fun b hb => ?_, w7⟩
      obtain ⟨o, e, d⟩ := T.obj _ _ st5 b hb
      exact (I7.pin (b, o) (List.mem_append_right _ (List.mem_append_right _ (mem_pinsAt hb e)))).2.1
    cases f with
    | next => obtain ⟨σ7, H7, I7, n7⟩ := q7; exact again I7 n7
    | cont => obtain ⟨σ7, H7, I7, n7⟩ := q7; exact again I7 n7
    | brk => obtain ⟨σ7, H7, I7, q7⟩ := q7; exact ⟨σ7, H7, I7.unpinned, q7⟩
    | ret v => obtain ⟨x7, σ7, H7, I7, r7, q7⟩ := q7; exact ⟨x7, σ7, H7, I7.unpinned, r7, q7⟩
end

/-! ### the forms one uses -/
/-- over a list that the body leaves as it is -/
theorem for_list {K : PySem.W.Frag} {a : Addr} {xs : List V} {g : TG} {tb : TS} {D : Ends} {σ : St} {H : Hp} (Pv : Nat → St → Hp → Prop) (h0 : Pv 0 σ H) (hl : ∀ i σ H, i ≤ xs.length → Pv i σ H → SqL K H a xs)
    (hs : ∀ i x σ H, xs[i]? = some x → Pv i σ H → g x σ H fun σ2 H2 => tb { D with nx := Pv (i + 1), ct := Pv (i + 1), bk := D.nx } σ2 H2) (hd : ∀ σ H, Pv xs.length σ H → D.nx σ H) :
    ∃ W : Nat → Nat → St → Hp → Prop, (∃ m, W 0 m σ H) ∧ ∀ i m σ H, W i m σ H →
      ((Itl K a).stop i H ∧ D.nx σ H) ∨ ((Itl K a).go i H ∧ ∃ N : St → Hp → Prop, (∀ σ' H', N σ' H' → ∃ m', m' < m ∧ W (i + 1) m' σ' H') ∧ ∀ x H', (Itl K a).yld i H x H' → g x σ H' fun σ2 H2 => tb { D with nx := N, ct := N, bk := D.nx } σ2 H2) := by
  refine ⟨fun i m σ H => m = xs.length - i ∧ i ≤ xs.length ∧ Pv i σ H, ⟨xs.length, by simp, Nat.zero_le _, h0⟩, ?_⟩
  rintro i m σ H ⟨rfl, hi, p⟩
  have q := hl i σ H hi p
  by_cases hlt : i < xs.length
  · refine .inr ⟨⟨xs, xs[i], q, by simp [hlt]⟩, Pv (i + 1), fun σ' H' p' => ⟨xs.length - (i + 1), by omega, rfl, hlt, p'⟩, fun x H' y => ?_⟩
    obtain ⟨e, y⟩ := y
    subst e
    exact hs i x σ _ (y xs q) p
  · have e : i = xs.length := by omega
    subst e
    exact .inl ⟨⟨xs, q, Nat.le_refl _⟩, hd σ H p⟩
theorem for_range {lo : Int} {n : Nat} {g : TG} {tb : TS} {D : Ends} {σ : St} {H : Hp} (Pv : Nat → St → Hp → Prop) (h0 : Pv 0 σ H)
    (hs : ∀ i σ H, i < n → Pv i σ H → g (.int (lo + i)) σ H fun σ2 H2 => tb { D with nx := Pv (i + 1), ct := Pv (i + 1), bk := D.nx } σ2 H2) (hd : ∀ σ H, Pv n σ H → D.nx σ H) :
    ∃ W : Nat → Nat → St → Hp → Prop, (∃ m, W 0 m σ H) ∧ ∀ i m σ H, W i m σ H →
      ((Itr lo n).stop i H ∧ D.nx σ H) ∨ ((Itr lo n).go i H ∧ ∃ N : St → Hp → Prop, (∀ σ' H', N σ' H' → ∃ m', m' < m ∧ W (i + 1) m' σ' H') ∧ ∀ x H', (Itr lo n).yld i H x H' → g x σ H' fun σ2 H2 => tb { D with nx := N, ct := N, bk := D.nx } σ2 H2) := by
  refine ⟨fun i m σ H => m = n - i ∧ i ≤ n ∧ Pv i σ H, ⟨n, by simp, Nat.zero_le _, h0⟩, ?_⟩
  rintro i m σ H ⟨rfl, hi, p⟩
  by_cases hlt : i < n
  · refine .inr ⟨hlt, Pv (i + 1), fun σ' H' p' => ⟨n - (i + 1), by omega, rfl, hlt, p'⟩, fun x H' y => ?_⟩
    obtain ⟨e, y⟩ := y
    subst e y
    exact hs i σ _ hlt p
  · have e : i = n := by omega
    subst e
    exact .inl ⟨Nat.le_refl _, hd σ H p⟩
end L2

namespace L2
open PySem PySem.Spec PyProof.Rows

abbrev R2 := V → V → Hp → VK → Prop
/-- a two-place operation on values: f is binaryOp op, inplaceOp op or compareOp op -/
def OpR (X : Cx) (f : Value → Value → Sem Value) (r : R2) : Prop :=
  ∀ (pins : List (Addr × Obj)) (s : Shared) (σ : St) (H : Hp) (x y : V) (v u : Value) (Q : VK), Inv X pins σ H s → RelV x v → RelV y u → r x y H Q →
    wpAny (model X.prog X.w) X.A (f v u) (EP X pins σ Q) X.xe s
/-- a one-place operation -/
def UnR (X : Cx) (f : Value → Sem Value) (r : V → Hp → VK → Prop) : Prop :=
  ∀ (pins : List (Addr × Obj)) (s : Shared) (σ : St) (H : Hp) (x : V) (v : Value) (Q : VK), Inv X pins σ H s → RelV x v → r x H Q →
    wpAny (model X.prog X.w) X.A (f v) (EP X pins σ Q) X.xe s
/-- a call of a value that is known (a builtin, a type) with values -/
def CallR (X : Cx) (f : Value) (r : List V → Hp → VK → Prop) : Prop :=
  ∀ (pins : List (Addr × Obj)) (s : Shared) (σ : St) (H : Hp) (xs : List V) (us : List Value) (Q : VK), Inv X pins σ H s → Vals xs us → r xs H Q →
    wpAny (model X.prog X.w) X.A (call f us) (EP X pins σ Q) X.xe s
/-- a value's truth -/
def TruR (X : Cx) (r : V → Hp → (Bool → Hp → Prop) → Prop) : Prop :=
  ∀ (pins : List (Addr × Obj)) (s : Shared) (σ : St) (H : Hp) (x : V) (v : Value) (Q : Bool → Hp → Prop), Inv X pins σ H s → RelV x v → r x H Q →
    wpAny (model X.prog X.w) X.A (truthy v) (TP X pins σ Q) X.xe s

def tOp (r : R2) (ta tb : TE) : TE := fun σ H Q => ta σ H fun x H1 => tb σ H1 fun y H2 => r x y H2 Q
def tUn (r : V → Hp → VK → Prop) (ta : TE) : TE := fun σ H Q => ta σ H fun x H1 => r x H1 Q
/-- ints in, under C, and a value out -/
def rI (C : Int → Int → Prop) (g : Int → Int → V) : R2 := fun x y H Q => ∃ i j, x = .int i ∧ y = .int j ∧ C i j ∧ Q (g i j) H
def rI0 (g : Int → Int → V) : R2 := fun x y H Q => ∃ i j, x = .int i ∧ y = .int j ∧ Q (g i j) H
def rU (g : Int → V) : V → Hp → VK → Prop := fun x H Q => ∃ i, x = .int i ∧ Q (g i) H

section
variable {X : Cx} {a b c : Expr} {ta tb tc : TE} {pos : Pos}

theorem binT (ha : PE X a ta) (hb : PE X b tb) {pins : List (Addr × Obj)} {s : Shared} {σ : St} {H : Hp} {R : V → V → Hp → Prop} (I : Inv X pins σ H s)
    (h : ta σ H fun x H1 => tb σ H1 fun y H2 => R x y H2) {Q : Value → Shared → Prop} {f : Value → Value → Sem Value}
    (hf : ∀ v u s2 x y H2, Inv X pins σ H2 s2 → RelV x v → RelV y u → R x y H2 → wpAny (model X.prog X.w) X.A (f v u) Q X.xe s2) :
    wpAny (model X.prog X.w) X.A (eval a X.env) (fun v s₁ => wpAny (model X.prog X.w) X.A (eval b X.env) (fun u s₂ => wpAny (model X.prog X.w) X.A (f v u) Q X.xe s₂) X.xe s₁) X.xe s := by
  refine thn (ha pins s σ H _ I h) fun v s1 ⟨x, H1, I1, r1, q1⟩ => ?_
  refine thn (hb pins s1 σ H1 _ I1 q1) fun u s2 ⟨y, H2, I2, r2, q2⟩ => ?_
  exact hf v u s2 x y H2 I2 r1 r2 q2

theorem pe_op {op : Operator} {r : R2} (ho : OpR X (binaryOp op) r) (ha : PE X a ta) (hb : PE X b tb) : PE X (.BinOp a op b pos) (tOp r ta tb) := by
  intro pins s σ H Q I h
  exact wpAny_BinOp (binT ha hb I h fun v u s2 x y H2 I2 rx ry q => ho pins s2 σ H2 x y v u Q I2 rx ry q)
theorem pe_un {op : UnaryOp} {r : V → Hp → VK → Prop} (ho : UnR X (unaryOp op) r) (ha : PE X a ta) : PE X (.UnaryOp op a pos) (tUn r ta) := by
  intro pins s σ H Q I h
  exact UnaryOp_ (thn (ha pins s σ H _ I h) fun v s1 ⟨x, H1, I1, r1, q1⟩ => ho pins s1 σ H1 x v Q I1 r1 q1)
/-! ### ints -/
theorem opI {f : Value → Value → Sem Value} {C : Int → Int → Prop} {g : Int → Int → Int}
    (rule : ∀ (i j : Int) (t u : Tok) (s : Shared) (Q : Value → Shared → Prop) (E : Value → Shared → Prop), C i j → Q (.int (g i j) s.toks) { s with toks := s.toks + 1 } → wpAny (model X.prog X.w) X.A (f (.int i t) (.int j u)) Q E s) :
    OpR X f (rI C fun i j => .int (g i j)) := by
  intro pins s σ H x y v u Q I rx ry h
  obtain ⟨i, j, rfl, rfl, hc, q⟩ := h
  obtain ⟨t, rfl⟩ := rx
  obtain ⟨t', rfl⟩ := ry
  exact rule i j t t' s _ _ hc ⟨.int (g i j), H, I.tok _, ⟨_, rfl⟩, q⟩
theorem opI0 {f : Value → Value → Sem Value} {g : Int → Int → Int}
    (rule : ∀ (i j : Int) (t u : Tok) (s : Shared) (Q : Value → Shared → Prop) (E : Value → Shared → Prop), Q (.int (g i j) s.toks) { s with toks := s.toks + 1 } → wpAny (model X.prog X.w) X.A (f (.int i t) (.int j u)) Q E s) :
    OpR X f (rI0 fun i j => .int (g i j)) := by
  intro pins s σ H x y v u Q I rx ry h
  obtain ⟨i, j, rfl, rfl, q⟩ := h
  obtain ⟨t, rfl⟩ := rx
  obtain ⟨t', rfl⟩ := ry
  exact rule i j t t' s _ _ ⟨.int (g i j), H, I.tok _, ⟨_, rfl⟩, q⟩
theorem opB0 {f : Value → Value → Sem Value} {g : Int → Int → Bool}
    (rule : ∀ (i j : Int) (t u : Tok) (s : Shared) (Q : Value → Shared → Prop) (E : Value → Shared → Prop), Q (.bool (g i j)) s → wpAny (model X.prog X.w) X.A (f (.int i t) (.int j u)) Q E s) :
    OpR X f (rI0 fun i j => .bl (g i j)) := by
  intro pins s σ H x y v u Q I rx ry h
  obtain ⟨i, j, rfl, rfl, q⟩ := h
  obtain ⟨t, rfl⟩ := rx
  obtain ⟨t', rfl⟩ := ry
  exact rule i j t t' s _ _ ⟨.bl (g i j), H, I, rfl, q⟩

def CDiv (i j : Int) : Prop := 0 < j ∧ j < 1073741824
def CDivN (i j : Int) : Prop := j ≠ 0 ∧ j.natAbs < 1073741824
def CPow (i j : Int) : Prop := 0 ≤ j ∧ j ≤ 1000000 ∧ i.natAbs < 2 ^ 64
def CMul (i j : Int) : Prop := (-(2 ^ 64) < i ∧ i < 2 ^ 64) ∨ (-(2 ^ 64) < j ∧ j < 2 ^ 64)
theorem CMul.ok {i j : Int} (h : CMul i j) : IntMulOk i j := by
  rcases h with ⟨h1, h2⟩ | ⟨h1, h2⟩
  · exact .of_left (intBits_le_64 h1 h2)
  · exact .of_right (intBits_le_64 h1 h2)
theorem op_add : OpR X (binaryOp .Add) (rI0 fun i j => .int (i + j)) := opI0 fun _ _ _ _ _ _ _ q => add_int q
theorem op_sub : OpR X (binaryOp .Sub) (rI0 fun i j => .int (i - j)) := opI0 fun _ _ _ _ _ _ _ q => sub_int q
/-- // by a positive divisor -/
theorem op_fdiv : OpR X (binaryOp .FloorDiv) (rI CDiv fun i j => .int (i / j)) := opI fun i j _ _ _ _ _ hc q => by
  have h1 : (0 : Int) < j := hc.1
  have h2 : j < 1073741824 := hc.2
  exact floordiv_int (by omega) (by rw [Int.fdiv_eq_ediv_of_nonneg i (by omega)]; exact q) (.inl (PyProof.noPylong_small (by omega)))
/-- % by a positive divisor of any size -/
theorem op_mod : OpR X (binaryOp .Mod) (rI (fun _ j => 0 < j) fun i j => .int (i % j)) := opI fun i j _ _ _ _ _ hc q => by
  have h1 : (0 : Int) < j := hc
  exact mod_int' (by omega) (by rw [Int.fmod_eq_emod_of_nonneg i (by omega)]; exact q)
theorem op_modN : OpR X (binaryOp .Mod) (rI (fun _ j => j ≠ 0) fun i j => .int (i.fmod j)) := opI fun _ _ _ _ _ _ _ hc q => mod_int' hc q
theorem op_pow : OpR X (binaryOp .Pow) (rI CPow fun i j => .int (i ^ j.toNat)) := opI fun _ _ _ _ _ _ _ hc q => pow_int_small hc.1 hc.2.1 hc.2.2 q
theorem unI {f : Value → Sem Value} {g : Int → Int}
    (rule : ∀ (i : Int) (t : Tok) (s : Shared) (Q : Value → Shared → Prop) (E : Value → Shared → Prop), Q (.int (g i) s.toks) { s with toks := s.toks + 1 } → wpAny (model X.prog X.w) X.A (f (.int i t)) Q E s) :
    UnR X f (rU fun i => .int (g i)) := by
  intro pins s σ H x v Q I rx h
  obtain ⟨i, rfl, q⟩ := h
  obtain ⟨t, rfl⟩ := rx
  exact rule i t s _ _ ⟨.int (g i), H, I.tok _, ⟨_, rfl⟩, q⟩
theorem un_neg : UnR X (unaryOp .USub) (rU fun i => .int (-i)) := unI fun _ _ _ _ _ q => neg_int q
/-! ### bools among ints: n += (a < b) -/
end

/-! ### comparisons -/
/-- the scalars that == tells apart as data does -/
def scal : V → V → Bool
  | .non, .non => true | .non, .int _ => true | .int _, .non => true | .non, .bl _ => true | .bl _, .non => true | .non, .str _ => true | .str _, .non => true
  | .int _, .int _ => true | .bl _, .bl _ => true | .str _, .str _ => true | .byt _, .byt _ => true
  | .int _, .str _ => true | .str _, .int _ => true | .bl _, .str _ => true | .str _, .bl _ => true
  | _, _ => false
def rEq : R2 := fun x y H Q => scal x y = true ∧ Q (.bl (decide (x = y))) H
def rNe : R2 := fun x y H Q => scal x y = true ∧ Q (.bl (!decide (x = y))) H

theorem dec_int {i j : Int} : decide (V.int i = V.int j) = (i == j) := by
  rw [Bool.eq_iff_iff]
  simp
theorem dec_bl {i j : Bool} : decide (V.bl i = V.bl j) = (i == j) := by
  rw [Bool.eq_iff_iff]
  simp
theorem dec_str {i j : Str} : decide (V.str i = V.str j) = (i == j) := by
  rw [Bool.eq_iff_iff]
  simp
theorem dec_byt {i j : Array UInt8} : decide (V.byt i = V.byt j) = (i.toList == j.toList) := by
  rw [Bool.eq_iff_iff]
  cases i
  cases j
  simp

section
variable {X : Cx} {a b c : Expr} {ta tb tc : TE} {pos : Pos}
theorem fin_bl {pins : List (Addr × Obj)} {σ : St} {H : Hp} {s : Shared} {Q : VK} {k k' : Bool} (I : Inv X pins σ H s) (q : Q (.bl k) H) (e : k = k') : EP X pins σ Q (.bool k') s := by
  subst e
  exact ⟨.bl k, H, I, rfl, q⟩
theorem op_eq : OpR X (compareOp .Eq) rEq := by
  intro pins s σ H x y v u Q I rx ry h
  obtain ⟨hs, q⟩ := h
  cases x with
  | non =>
    cases rx
    cases y with
    | non => cases ry; exact PySem.EqNone.eq_none_none (fin_bl I q (by simp))
    | bl j => cases ry; exact PySem.EqNone.eq_none_bool (fin_bl I q (by simp))
    | int j => obtain ⟨t', rfl⟩ := ry; exact PySem.EqNone.eq_none_int (fin_bl I q (by simp))
    | str j => obtain ⟨t', rfl⟩ := ry; exact PySem.EqNone.eq_none_str (fin_bl I q (by simp))
    | _ => exact absurd (show false = true from hs) Bool.false_ne_true
  | bl i =>
    cases rx
    cases y with
    | non => cases ry; exact PySem.EqNone.eq_bool_none (fin_bl I q (by simp))
    | bl j => cases ry; exact eq_bool (fin_bl I q dec_bl)
    | str j => obtain ⟨t', rfl⟩ := ry; exact PySem.EqMixed.eq_bool_str (fin_bl I q (by simp))
    | _ => exact absurd (show false = true from hs) Bool.false_ne_true
  | int i =>
    obtain ⟨t, rfl⟩ := rx
    cases y with
    | non => cases ry; exact PySem.EqNone.eq_int_none (fin_bl I q (by simp))
    | int j => obtain ⟨t', rfl⟩ := ry; exact eq_int (fin_bl I q dec_int)
    | str j => obtain ⟨t', rfl⟩ := ry; exact PySem.EqMixed.eq_int_str (fin_bl I q (by simp))
    | _ => exact absurd (show false = true from hs) Bool.false_ne_true
  | str i =>
    obtain ⟨t, rfl⟩ := rx
    cases y with
    | non => cases ry; exact PySem.EqNone.eq_str_none (fin_bl I q (by simp))
    | bl j => cases ry; exact PySem.EqMixed.eq_str_bool (fin_bl I q (by simp))
    | int j => obtain ⟨t', rfl⟩ := ry; exact PySem.EqMixed.eq_str_int (fin_bl I q (by simp))
    | str j => obtain ⟨t', rfl⟩ := ry; exact eq_str (fin_bl I q dec_str)
    | _ => exact absurd (show false = true from hs) Bool.false_ne_true
  | byt i =>
    obtain ⟨t, rfl⟩ := rx
    cases y with
    | byt j => obtain ⟨t', rfl⟩ := ry; exact PySem.W.eq_bytes (fin_bl I q dec_byt)
    | _ => exact absurd (show false = true from hs) Bool.false_ne_true
  | _ => cases y <;> exact absurd (show false = true from hs) Bool.false_ne_true
theorem op_ne : OpR X (compareOp .NotEq) rNe := by
  intro pins s σ H x y v u Q I rx ry h
  obtain ⟨hs, q⟩ := h
  cases x with
  | non =>
    cases rx
    cases y with
    | non => cases ry; exact PySem.EqNone.ne_none_none (fin_bl I q (by simp))
    | bl j => cases ry; exact PySem.EqNone.ne_none_bool (fin_bl I q (by simp))
    | int j => obtain ⟨t', rfl⟩ := ry; exact PySem.EqNone.ne_none_int (fin_bl I q (by simp))
    | str j => obtain ⟨t', rfl⟩ := ry; exact PySem.EqNone.ne_none_str (fin_bl I q (by simp))
    | _ => exact absurd (show false = true from hs) Bool.false_ne_true
  | bl i =>
    cases rx
    cases y with
    | non => cases ry; exact PySem.EqNone.ne_bool_none (fin_bl I q (by simp))
    | bl j => cases ry; exact ne_bool (fin_bl I q (congrArg not dec_bl))
    | str j => obtain ⟨t', rfl⟩ := ry; exact PySem.EqMixed.ne_bool_str (fin_bl I q (by simp))
    | _ => exact absurd (show false = true from hs) Bool.false_ne_true
  | int i =>
    obtain ⟨t, rfl⟩ := rx
    cases y with
    | non => cases ry; exact PySem.EqNone.ne_int_none (fin_bl I q (by simp))
    | int j => obtain ⟨t', rfl⟩ := ry; exact ne_int (fin_bl I q (congrArg not dec_int))
    | str j => obtain ⟨t', rfl⟩ := ry; exact PySem.EqMixed.ne_int_str (fin_bl I q (by simp))
    | _ => exact absurd (show false = true from hs) Bool.false_ne_true
  | str i =>
    obtain ⟨t, rfl⟩ := rx
    cases y with
    | non => cases ry; exact PySem.EqNone.ne_str_none (fin_bl I q (by simp))
    | bl j => cases ry; exact PySem.EqMixed.ne_str_bool (fin_bl I q (by simp))
    | int j => obtain ⟨t', rfl⟩ := ry; exact PySem.EqMixed.ne_str_int (fin_bl I q (by simp))
    | str j => obtain ⟨t', rfl⟩ := ry; exact ne_str (fin_bl I q (congrArg not dec_str))
    | _ => exact absurd (show false = true from hs) Bool.false_ne_true
  | byt i =>
    obtain ⟨t, rfl⟩ := rx
    cases y with
    | byt j => obtain ⟨t', rfl⟩ := ry; exact PySem.W.ne_bytes (fin_bl I q (congrArg not dec_byt))
    | _ => exact absurd (show false = true from hs) Bool.false_ne_true
  | _ => cases y <;> exact absurd (show false = true from hs) Bool.false_ne_true

theorem op_lt : OpR X (compareOp .Lt) (rI0 fun i j => .bl (decide (i < j))) := opB0 fun _ _ _ _ _ _ _ q => lt_int q
theorem op_le : OpR X (compareOp .LtE) (rI0 fun i j => .bl (decide (i ≤ j))) := opB0 fun _ _ _ _ _ _ _ q => le_int q
theorem op_gt : OpR X (compareOp .Gt) (rI0 fun i j => .bl (decide (j < i))) := opB0 fun _ _ _ _ _ _ _ q => gt_int q
/-- is, is not of two objects that are tracked lists or instances -/
def isObj : HO → Bool
  | .lst _ => true
  | .ins _ _ _ => true
  | _ => false
/-- two rules for one operation: by cases -/
theorem OpR.or {f : Value → Value → Sem Value} {r r' : R2} (h : OpR X f r) (h' : OpR X f r') : OpR X f (fun x y H Q => r x y H Q ∨ r' x y H Q) := by
  intro pins s σ H x y v u Q I rx ry q
  rcases q with q | q
  · exact h pins s σ H x y v u Q I rx ry q
  · exact h' pins s σ H x y v u Q I rx ry q

theorem nomark (b : Expr) {op : CmpOp} (h : op ≠ .In := by decide) (h2 : op ≠ .NotIn := by decide) : behindInMarks op b = false := by
  have e1 : (op == CmpOp.In) = false := by cases op <;> first | rfl | exact absurd rfl h
  have e2 : (op == CmpOp.NotIn) = false := by cases op <;> first | rfl | exact absurd rfl h2
  cases b <;> simp [behindInMarks, e1, e2]
/-- a comparison as a value; hm: nomark b, or (for in, not in) by with_unfolding_all rfl -/
theorem pe_cmpR {op : CmpOp} {r : R2} (ho : OpR X (compareOp op) r) (ha : PE X a ta) (hb : PE X b tb) (hm : behindInMarks op b = false) : PE X (.Compare a [op] [b] pos) (tOp r ta tb) := by
  intro pins s σ H Q I h
  exact wpAny_Compare1 (binT ha hb I h fun v u s2 x y H2 I2 rx ry q => ho pins s2 σ H2 x y v u Q I2 rx ry q) hm
/-- a reading of a value as a test -/
def tTest (t : TE) : TT := fun σ H Q => t σ H fun x H' => ∃ k, x = .bl k ∧ Q k H'
theorem pt_cmpR {op : CmpOp} {r : R2} (ho : OpR X (compareOp op) r) (ha : PE X a ta) (hb : PE X b tb) (hm : behindInMarks op b = false) : PT X (.Compare a [op] [b] pos) (tTest (tOp r ta tb)) := by
  intro pins s σ H Q I h
  refine wpAny_isTrue_Compare1 (thn (ha pins s σ H _ I h) fun v s1 ⟨x, H1, I1, r1, q1⟩ => thn (hb pins s1 σ H1 _ I1 q1) fun u s2 ⟨y, H2, I2, r2, q2⟩ =>
    thn (ho pins s2 σ H2 x y v u _ I2 r1 r2 q2) fun c s3 ⟨z, H3, I3, r3, k, e, q3⟩ => ?_) hm
  subst e
  cases r3
  exact wpAny_truthy_bool ⟨H3, I3, q3⟩
/-- a op1 b op2 c -/
def tChain (r r' : R2) (ta tb tc : TE) : TE := fun σ H Q => ta σ H fun x H1 => tb σ H1 fun y H2 => r x y H2 fun z H3 => ∃ k, z = .bl k ∧
  (if k = true then tc σ H3 fun w' H4 => r' y w' H4 Q else Q (.bl false) H3)
/-! ### truth -/
/-- a value's truth by the abstract heap -/
def TruV (K : PySem.W.Frag) (x : V) (H : Hp) (k : Bool) : Prop :=
  match x with
  | .non => k = false
  | .bl b => k = b
  | .int i => k = (i != 0)
  | .str y => y.length ≤ sizeLine ∧ k = ((y.length : Int) != 0)
  | .byt y => y.size ≤ sizeLine ∧ k = ((y.size : Int) != 0)
  | .ref p => (∃ xs, SqL K H p xs ∧ k = !xs.isEmpty) ∨ (∃ xs, SqT K H p xs ∧ k = !xs.isEmpty) ∨ ∃ kvs, H p = some (.dK kvs) ∧ k = !kvs.isEmpty
  | _ => False
theorem line63 : (sizeLine : Nat) < 2 ^ 63 := by rw [sizeLine_eq]; decide
/-! ### strs and bytes -/
def PlainIxT (b : Expr) : Prop := ∀ o i, subscripted b false o i = operate [o, i] (getItem o i)
/-! ### scalar builtins, by CallR -/
theorem vals1 {x : V} {us : List Value} (r : Vals [x] us) : ∃ u, us = [u] ∧ RelV x u := by
  cases r with
  | cons r1 r2 => cases r2; exact ⟨_, rfl, r1⟩
theorem vals2 {x y : V} {us : List Value} (r : Vals [x, y] us) : ∃ u w', us = [u, w'] ∧ RelV x u ∧ RelV y w' := by
  cases r with
  | cons r1 r2 =>
    cases r2 with
    | cons r3 r4 => cases r4; exact ⟨_, _, rfl, r1, r3⟩
theorem call_abs : CallR X (.builtin "abs") (fun xs H Q => ∃ i, xs = [.int i] ∧ Q (.int (if i < 0 then -i else i)) H) := by
  intro pins s σ H xs us Q I r h
  obtain ⟨i, rfl, q⟩ := h
  obtain ⟨u, rfl, t, rfl⟩ := vals1 r
  exact call_abs_int fun u tk => ⟨.int (if i < 0 then -i else i), H, I.tok _, ⟨_, rfl⟩, q⟩
/-- len of a str, a bytes, a list, a tuple -/
def LenV (K : PySem.W.Frag) (x : V) (H : Hp) (n : Nat) : Prop :=
  match x with
  | .str y => y.length ≤ sizeLine ∧ n = y.length
  | .byt y => y.size ≤ sizeLine ∧ n = y.size
  | .ref p => (∃ xs, SqL K H p xs ∧ n = xs.length) ∨ ∃ xs, SqT K H p xs ∧ n = xs.length
  | _ => False
end
end L2

namespace L2
open PySem PySem.Spec PyProof.Rows

/-! ### an instance, its attributes a map -/
structure ObjM (h : Heap) (x dx C : Addr) (mA : Str → Option Value) : Prop where
  obj : h.get? x = some (PySem.W.instObj C dx)
  ns : h.Ns1 dx mA
  ne : dx ≠ x

theorem lookIn_ns {h : Heap} {dx : Addr} {mA : Str → Option Value} (n : h.Ns1 dx mA) : ∃ od, h.get? dx = some od ∧ ∀ name, PySem.W.lookIn name od = some (mA name) := by
  obtain ⟨o, es, ep, ho, hd, hk, _, hm⟩ := n
  refine ⟨o, ho, fun name => ?_⟩
  have e := hm name
  unfold nsFind findBy at e
  rw [← Array.find?_toList] at e
  unfold PySem.W.lookIn
  rw [hd]
  dsimp only
  split
  · rename_i y q
    rw [q] at e
    exact congrArg some e
  · rename_i q
    rw [q] at e
    have a : es.toList.any (·.refKey) = false := by
      rw [List.any_eq_false]
      intro y hy
      obtain ⟨z, t, hkey⟩ := hk y (Array.mem_toList_iff.mp hy)
      simp [DictEntry.refKey, hkey]
    have a' : ¬ es.toList.any (·.refKey) = true := by rw [a]; exact Bool.false_ne_true
    rw [if_neg a']
    exact congrArg some e

theorem ObjM.look {h : Heap} {x dx C : Addr} {mA : Str → Option Value} (I : ObjM h x dx C mA) : ∃ od, PySem.W.InstAt h x (PySem.W.instObj C dx) C (some od) ∧ ∀ name, PySem.W.lookIn name od = some (mA name) :=
  let ⟨od, ho, hl⟩ := lookIn_ns I.ns
  ⟨od, ⟨I.obj, rfl, rfl, ho⟩, hl⟩

section
variable {prog : Program} {w : World} {A : Around} {E : Value → Shared → Prop} {s : Shared} {K : PySem.W.Frag} {x dx C f : Addr} {mA : Str → Option Value} {name : Str} {v : Value}

end

/-! ### the attributes as a list of pairs -/
def putF (f : Str) (v : V) : List (Str × V) → List (Str × V)
  | [] => [(f, v)]
  | (g, x) :: r => if g = f then (g, v) :: r else (g, x) :: putF f v r
section
variable {P : Program} {w : World} {H H' : Hp} {h h' : Heap} {a C dx : Addr} {fs fs' : List (Str × V)}
end

/-! ### what of the text a class must have -/
structure Cls (K : PySem.W.Frag) (C : Addr) : Prop where
  pg : PySem.W.plainGet K C Str.empty = true
  hd : PySem.W.hasDictIn K C = true
  po : PySem.W.plainOver K C = true
  sa : PySem.W.findIn K (.ref C) "__setattr__" = some (some (.builtin "object.__setattr__"))
theorem Cls.get {K : PySem.W.Frag} {C : Addr} (c : Cls K C) (f : Str) : PySem.W.plainGet K C f = true := c.pg
/-- no class of it has the name -/
def NoAttr (K : PySem.W.Frag) (C : Addr) (f : Str) : Prop := PySem.W.findIn K (.ref C) f = some none
/-- a constant of the class -/
structure Con (K : PySem.W.Frag) (C : Addr) (f : Str) (v : V) (u : Value) : Prop where
  at_ : PySem.W.findIn K (.ref C) f = some (some u)
  rel : RelV v u
  get : PySem.W.specialIn K u "__get__" = some none
  cp : PySem.W.copiedNames.contains f = false
/-- a method: a plain def of the class or of one above it -/
structure Meth (K : PySem.W.Frag) (C : Addr) (m : Str) (f : Addr) : Prop where
  at_ : PySem.W.findIn K (.ref C) m = some (some (.ref f))
  fn : PySem.W.isFn K (.ref f) = true
  kp : PySem.W.keepIn K (.ref f) = true

section
variable {X : Cx} {pins : List (Addr × Obj)} {σ : St} {H : Hp} {s : Shared} {a C dx : Addr} {fs : List (Str × V)} {f : Str} {v : V} {A : Around} {E : Value → Shared → Prop}

/-- a new instance, tracked, without attributes -/
theorem Inv.made (I : Inv X pins σ H s) : Inv X pins σ (upd (upd H s.heap.objs.size (.own (s.heap.objs.size + 1))) (s.heap.objs.size + 1) (.ins C s.heap.objs.size []))
    { s with heap := (s.heap.push PySem.W.emptyDict).push (PySem.W.instObj C s.heap.objs.size) } := by
  have e1 : (s.heap.push PySem.W.emptyDict).get? s.heap.objs.size = some PySem.W.emptyDict := Heap.get?_push_size s.heap rfl
  have e2 : ((s.heap.push PySem.W.emptyDict).push (PySem.W.instObj C s.heap.objs.size)).get? (s.heap.objs.size + 1) = some (PySem.W.instObj C s.heap.objs.size) := by
    have := Heap.get?_push_size (s.heap.push PySem.W.emptyDict) (o := PySem.W.instObj C s.heap.objs.size) rfl
    rwa [Heap.size_push] at this
  have e3 : (s.heap.push PySem.W.emptyDict).Ns s.heap.objs.size (fun _ => none) := ⟨PySem.W.emptyDict, #[], _, e1, rfl, (fun e he => absurd he (by simp)), fun _ => rfl⟩
  have I1 := I.laid (a := s.heap.objs.size) (o := .own (s.heap.objs.size + 1)) (h' := s.heap.push PySem.W.emptyDict) (t' := s.toks) (fun b u q => Heap.get?_push_of_some _ q) (Nat.le_refl _) ⟨_, e1⟩
  refine I1.laid (a := s.heap.objs.size + 1) (o := .ins C s.heap.objs.size []) (t' := s.toks) (fun b u q => Heap.get?_push_of_some _ q) (Nat.le_of_eq (Heap.size_push _ _)) ?_
  have ne : s.heap.objs.size ≠ s.heap.objs.size + 1 := Nat.ne_of_lt (Nat.lt_succ_self _)
  refine ⟨by rw [upd_ne ne, upd_same], Nat.zero_le _, ne, e2, fun _ => none, (Heap.Ns1.of_empty e3).at fun o q => Heap.get?_push_of_some _ q, fun _ => True.intro, fun y hy => absurd rfl hy⟩

end

/-! ### readings and rules -/
/-- e.f, an attribute of the instance -/
def tFld (K : PySem.W.Frag) (ta : TE) (f : Str) : TE := fun σ H Q => ta σ H fun x H1 => ∃ a C dx fs v, x = .ref a ∧ H1 a = some (.ins C dx fs) ∧ Cls K C ∧ NoAttr K C f ∧ fs.lookup f = some v ∧ Q v H1
/-- e.f, a constant of the class -/
def tCon (K : PySem.W.Frag) (ta : TE) (f : Str) : TE := fun σ H Q => ta σ H fun x H1 => ∃ a C dx fs v u, x = .ref a ∧ H1 a = some (.ins C dx fs) ∧ Cls K C ∧ Con K C f v u ∧ fs.lookup f = none ∧ Q v H1
/-- e.f = value -/
def sFld (K : PySem.W.Frag) (ta tv : TE) (f : Str) : TS := fun D σ H => tv σ H fun y H1 => ta σ H1 fun x H2 => ∃ a C dx fs, x = .ref a ∧ H2 a = some (.ins C dx fs) ∧ Cls K C ∧ NoAttr K C f ∧ fs.length < 1000 ∧
  D.nx σ (upd H2 a (.ins C dx (putF f y fs)))
/-- an augmented operator on two values -/
def InOp (X : Cx) (op : Operator) (rd : V → V → Hp → VK → Prop) : Prop :=
  ∀ (pins : List (Addr × Obj)) (s : Shared) (σ : St) (H : Hp) (x y : V) (u v : Value) (Q : VK), Inv X pins σ H s → RelV x u → RelV y v → rd x y H Q → wpAny (model X.prog X.w) X.A (inplaceOp op u v) (EP X pins σ Q) X.xe s
/-- e.f op= value -/
def sFldAug (K : PySem.W.Frag) (ta tv : TE) (rd : V → V → Hp → VK → Prop) (f : Str) : TS := fun D σ H => ta σ H fun x H1 => ∃ a C dx fs v, x = .ref a ∧ H1 a = some (.ins C dx fs) ∧ Cls K C ∧ NoAttr K C f ∧ fs.lookup f = some v ∧
  tv σ H1 fun y H2 => rd v y H2 fun z H3 => ∃ dx' fs', H3 a = some (.ins C dx' fs') ∧ fs'.length < 1000 ∧ D.nx σ (upd H3 a (.ins C dx' (putF f z fs')))

section
variable {X : Cx} {o e value : Expr} {f : Str} {pos pos' tpos : Pos} {ta tv : TE}
def rAdd : V → V → Hp → VK → Prop := fun x y H Q => ∃ i j, x = .int i ∧ y = .int j ∧ Q (.int (i + j)) H
def rSub : V → V → Hp → VK → Prop := fun x y H Q => ∃ i j, x = .int i ∧ y = .int j ∧ Q (.int (i - j)) H
end

/-! ### isinstance -/
section
variable {X : Cx} {pins : List (Addr × Obj)} {σ : St} {H : Hp} {s : Shared} {A : Around} {E : Value → Shared → Prop} {Q : Value → Shared → Prop} {c : Value} {b : Bool}
/-- the type of a value, as the fragment's deciders take it; for an instance its class -/
inductive TyOf (K : PySem.W.Frag) (H : Hp) : V → Value → Prop where
  | non : TyOf K H .non (.type "NoneType")
  | bl (x : Bool) : TyOf K H (.bl x) (.type "bool")
  | int (i : Int) : TyOf K H (.int i) (.type "int")
  | str (x : Str) : TyOf K H (.str x) (.type "str")
  | flt (x : UInt64) : TyOf K H (.flt x) (.type "float")
  | lst {a : Addr} {xs : List V} (e : H a = some (.lst xs)) : TyOf K H (.ref a) (.type "list")
  | frz {a : Addr} {o : Obj} {xs : List V} (e : H a = some (.frz o (.lst xs))) : TyOf K H (.ref a) (.type "list")
  | tup {a : Addr} {xs : List V} (e : H a = some (.tup xs)) : TyOf K H (.ref a) (.type "tuple")
  | dK {a : Addr} {kvs : List (Key × V)} (e : H a = some (.dK kvs)) : TyOf K H (.ref a) (.type "dict")
  | dT {a : Addr} {kvs : List (List Key × V)} (e : H a = some (.dT kvs)) : TyOf K H (.ref a) (.type "dict")
  | ins {a C dx : Addr} {fs : List (Str × V)} (e : H a = some (.ins C dx fs)) (cl : Cls K C) (ha : PySem.W.findIn K (.ref C) "__class__" = some (some (.builtin "object.__class__")))
      (hn : PySem.W.specialIn K (.builtin "object.__class__") "__get__" = some (some (.builtin "getset_descriptor.__get__"))) (htk : PySem.W.takesIn K (.builtin "object.__class__") = some true)
      (hm : PySem.W.mroIn K C (.type "object") = some true) : TyOf K H (.ref a) (.ref C)
end
end L2

namespace L2
open PySem PySem.Spec PyProof.Rows

/-! ### room -/
structure Room (k : Nat) (A : Around) : Prop where
  hd : A.handled = none
  dp : A.depth + 3 * k + 5 < recursionLimit
  un : A.units + 16 * k + 200 < cLine
theorem Room.mono {j k : Nat} {A : Around} (r : Room k A) (h : j ≤ k) : Room j A := ⟨r.hd, by have := r.dp; omega, by have := r.un; omega⟩
theorem Room.deeper {k : Nat} {A : Around} (r : Room (k + 1) A) (env : Env) : Room k (A.deeper env) :=
  ⟨r.hd, by have := r.dp; show A.depth + 1 + 3 * k + 5 < _; omega, by have := r.un; show A.units + 3 + 16 * k + 200 < _; omega⟩
theorem make_depth {A : Around} {C : Addr} {us : List Value} {kw : List (Str × Value)} : (A.under (.builtin "type.__call__" ⟨.ref C :: us, kw⟩)).depth = A.depth + 1 := by
  first | rfl | simp [Around.under, Code.weight, Code.isCreation, Code.isGuard, Code.isCaller, Code.frames, Code.isFrame, guardIds]
theorem make_units {A : Around} {C : Addr} {us : List Value} {kw : List (Str × Value)} : (A.under (.builtin "type.__call__" ⟨.ref C :: us, kw⟩)).units = A.units + 1 := by
  first | rfl | simp [Around.under, Code.cUnits, Code.frames, Code.isFrame]
theorem Room.make {k : Nat} {A : Around} (r : Room (k + 1) A) (C : Addr) (us : List Value) (kw : List (Str × Value)) : Room k (A.under (.builtin "type.__call__" ⟨.ref C :: us, kw⟩)) :=
  ⟨r.hd, by have := r.dp; rw [make_depth]; omega, by have := r.un; rw [make_units]; omega⟩
theorem Room.depth {k : Nat} {A : Around} (r : Room k A) : A.depth < recursionLimit := by have := r.dp; omega
theorem Room.units {k : Nat} {A : Around} (r : Room k A) : A.units + 64 < cLine := by have := r.un; omega
theorem Room.units0 {k : Nat} {A : Around} (r : Room k A) : A.units < cLine := by have := r.un; omega

/-! ### argument lists and displays -/
def tNil : TA := fun _ H Q => Q [] H
def tCons (ta : TE) (tr : TA) : TA := fun σ H Q => ta σ H fun x H1 => tr σ H1 fun xs H2 => Q (x :: xs) H2
section
variable {X : Cx} {e : Expr} {es : List Expr} {te : TE} {t : TA} {pos : Pos}
theorem pa_nil : PA X [] tNil := fun _ _ _ _ H Q I h => Calls.spliced_nil ⟨[], H, I, .nil, h⟩
theorem pa_cons (ha : PE X e te) (hr : PA X es t) (hs : starEach (e :: es) X.env = (false, eval e X.env) :: starEach es X.env := by rfl) : PA X (e :: es) (tCons te t) := by
  intro pos pins s σ H Q I h
  rw [hs]
  show wpAny _ _ (spliced ((false, eval e X.env) :: backTo pos (starEach es X.env))) _ _ s
  refine Calls.spliced_cons (thn (ha pins s σ H _ I h) fun u s1 ⟨x, H1, I1, r1, q1⟩ => ?_)
  exact thn (hr pos pins s1 σ H1 _ I1 q1) fun us s2 ⟨xs, H2, I2, r2, q2⟩ => ⟨x :: xs, H2, I2, .cons r1 r2, q2⟩

/-- a tuple, a list of written items -/
def tTup (t : TA) : TE := fun σ H Q => t σ H fun xs H1 => xs.length ≤ sizeLine ∧ ∀ p, H1 p = none → Q (.ref p) (upd H1 p (.tup xs))
def tLst (t : TA) : TE := fun σ H Q => t σ H fun xs H1 => xs.length ≤ sizeLine ∧ ∀ p, H1 p = none → Q (.ref p) (upd H1 p (.lst xs))
end

/-! ### what a def promises -/
/-- a def's promise: the bound arguments in the parameters' order, the heap, the wanted end, the wanted exception -/
abbrev Sp := List V → Hp → VK → XK → Prop
/-- how an exception lies behind a call (file 08 gives it): the callers' frames, abstract heap and state ahead of the call, the wish, the exception, the state -/
abbrev CXT := List Env → Hp → Shared → XK → Value → Shared → Prop

/-- the state at a call -/
structure Env0 (P : Program) (w : World) (K : PySem.W.Frag) (mg : Str → Option Value) (base : Heap) (A : Around) (outer : List Env) (s : Shared) (H : Hp) : Prop where
  frames : A.frames = some outer
  mod : Mod K mg base
  bs : ∀ b o, base.get? b = some o → s.heap.get? b = some o ∧ H b = none
  bsz : base.objs.size ≤ s.heap.objs.size
  funs : s.heap.FunFrames base outer
  frf : ∀ b ∈ frs outer, H b = none
  hok : HOk P w H s.heap
  bare : AllBare s.gens
/-- a call's end -/
def CE (outer : List Env) (P : Program) (w : World) (H : Hp) (s : Shared) (Q : VK) (u : Value) (s' : Shared) : Prop :=
  ∃ v H', s'.os = s.os ∧ AllBare s'.gens ∧ Un (frs outer) [] H H' s.heap s'.heap ∧ HOk P w H' s'.heap ∧ RelV v u ∧ Q v H'
def CR (CX : CXT) (outer : List Env) (P : Program) (w : World) (H : Hp) (s : Shared) (Q : VK) (E : XK) (r : Result) (s' : Shared) : Prop :=
  match r with
  | .ok (.ret u) => CE outer P w H s Q u s'
  | .ok _ => False
  | .error e => CX outer H s E e s'
structure FnOk (P : Program) (w : World) (K : PySem.W.Frag) (mg : Str → Option Value) (base : Heap) (CX : CXT) (k : Nat) (f : Addr) (fd : FuncData) (ps : List Str) (sp : Sp) : Prop where
  len : ∀ vs H Q E, sp vs H Q E → vs.length = ps.length
  run : ∀ (A : Around) (outer : List Env) (s : Shared) (H : Hp) (args : Args) (us : List Value) (vs : List V) (Q : VK) (E : XK), Room k A → Env0 P w K mg base A outer s H → BindsTo s fd args (ps.zip us) → Vals vs us → sp vs H Q E →
    codeAny (model P w) A (.call (.ref f) args) (CR CX outer P w H s Q E) s
theorem FnOk.mono {P : Program} {w : World} {K : PySem.W.Frag} {mg : Str → Option Value} {base : Heap} {CX : CXT} {j k : Nat} {f : Addr} {fd : FuncData} {ps : List Str} {sp : Sp} (F : FnOk P w K mg base CX j f fd ps sp) (h : j ≤ k) :
    FnOk P w K mg base CX k f fd ps sp := ⟨F.len, fun A outer s H args us vs Q E hr => F.run A outer s H args us vs Q E (hr.mono h)⟩
/-- a weaker promise -/
theorem FnOk.imp {P : Program} {w : World} {K : PySem.W.Frag} {mg : Str → Option Value} {base : Heap} {CX : CXT} {k : Nat} {f : Addr} {fd : FuncData} {ps : List Str} {sp sp' : Sp} (F : FnOk P w K mg base CX k f fd ps sp)
    (h : ∀ vs H Q E, sp' vs H Q E → sp vs H Q E) : FnOk P w K mg base CX k f fd ps sp' :=
  ⟨fun vs H Q E q => F.len vs H Q E (h _ _ _ _ q), fun A outer s H args us vs Q E hr he hb hv hs => F.run A outer s H args us vs Q E hr he hb hv (h _ _ _ _ hs)⟩

theorem Env0.make {P : Program} {w : World} {K : PySem.W.Frag} {mg : Str → Option Value} {base : Heap} {A : Around} {outer : List Env} {s : Shared} {H : Hp} (e : Env0 P w K mg base A outer s H) (C : Addr) (us : List Value) (kw : List (Str × Value)) :
    Env0 P w K mg base (A.under (.builtin "type.__call__" ⟨.ref C :: us, kw⟩)) outer s H := ⟨by first | exact e.frames | (simpa [Around.under, Code.envs, Code.isFrame, pushEnvs] using e.frames), e.mod, e.bs, e.bsz, e.funs, e.frf, e.hok, e.bare⟩
section
variable {X : Cx} {pins : List (Addr × Obj)} {σ : St} {H : Hp} {s s' : Shared}
/-- from a body: what a callee wants -/
theorem Inv.env0 (I : Inv X pins σ H s) : Env0 X.prog X.w X.K X.mg X.base X.A X.stack s H :=
  ⟨I.ok.frames, I.ok.mod, I.bs, Nat.le_trans I.ok.bsz I.sz, I.stack, I.stkFree, I.hok, I.bare⟩
/-- behind a call -/
theorem Inv.after {Q : VK} {u : Value} (I : Inv X pins σ H s) (h : CE X.stack X.prog X.w H s Q u s') : EP X pins σ Q u s' := by
  obtain ⟨v, H', os, bare, un, hok, r, q⟩ := h
  obtain ⟨hh, g, d, t, os'⟩ := s'
  obtain rfl : os' = s.os := os
  exact ⟨v, H', I.call (h' := hh) (g' := g) (d' := d) (t' := t) (ch := []) un hok bare (fun b z => absurd z (by simp)), r, q⟩
end

/-! ### calls -/
/-- f(..): the written arguments, then the defaults dvs; E: what is wanted of an exception -/
def tCall (sp : Sp) (dvs : List V) (E : XK) (t : TA) : TE := fun σ H Q => t σ H fun vs H1 => sp (vs ++ dvs) H1 Q E
/-- o.m(..) of an instance of the class at C -/
def tMeth (C : Addr) (m : Str) (sp : Sp) (dvs : List V) (E : XK) (ta : TE) (t : TA) : TE := fun σ H Q => ta σ H fun x H1 => ∃ a dx fs, x = .ref a ∧ H1 a = some (.ins C dx fs) ∧ fs.lookup m = none ∧
  t σ H1 fun vs H2 => sp (x :: (vs ++ dvs)) H2 Q E
/-- C(..): a new instance and its dict, then __init__ -/
def tMake (C : Addr) (sp : Sp) (dvs : List V) (E : XK) (t : TA) : TE := fun σ H Q => t σ H fun vs H1 => ∀ x dx, H1 x = none → H1 dx = none → dx ≠ x →
  sp (.ref x :: (vs ++ dvs)) (upd (upd H1 dx (.own x)) x (.ins C dx [])) (fun v H2 => v = .non ∧ Q (.ref x) H2) E

/-- how the parameters are bound: us the positional arguments, kw the keywords' values by name, ds the defaults that fill up -/
def Binds (K : PySem.W.Frag) (fd : FuncData) (ps : List Str) (ds : List Value) : Prop :=
  ∀ (s : Shared) (us : List Value), K.In s.heap → (us ++ ds).length = ps.length → BindsTo s fd ⟨us, []⟩ (ps.zip (us ++ ds))
/-- every parameter is given -/
theorem Binds.all {K : PySem.W.Frag} {fd : FuncData} {ps : List Str} (h : ∀ us : List Value, us.length = ps.length → bindArgs fd ⟨us, []⟩ = pure (ps.zip us)) : Binds K fd ps [] := fun s us _ hl => by
  rw [List.append_nil] at hl ⊢
  exact .of_eq (h us hl)

/-- an exception of a callee reaches what this body wants of exceptions -/
def Passes (CX : CXT) (X : Cx) (E : XK) : Prop := ∀ (pins : List (Addr × Obj)) (σ : St) (H : Hp) (s : Shared) (e : Value) (s' : Shared), Inv X pins σ H s → CX X.stack H s E e s' → X.xe e s'

section
variable {X : Cx} {CX : CXT} {k : Nat} {f C : Addr} {fd : FuncData} {ps : List Str} {sp : Sp} {dvs : List V} {ds : List Value} {E : XK} {x m : Str} {p pos apos : Pos} {e o : Expr} {es : List Expr} {ta : TE} {t : TA}

/-- the callee runs -/
theorem run_fn {pins : List (Addr × Obj)} {σ : St} {H : Hp} {s : Shared} {Q : VK} {us : List Value} {vs : List V} (F : FnOk X.prog X.w X.K X.mg X.base CX k f fd ps sp) (hr : Room k X.A) (hb : Binds X.K fd ps ds) (hd : Vals dvs ds) (hx : Passes CX X E)
    (I : Inv X pins σ H s) (r : Vals vs us) (h : sp (vs ++ dvs) H Q E) : wpAny (model X.prog X.w) X.A (call (.ref f) us) (EP X pins σ Q) X.xe s := by
  have r2 : Vals (vs ++ dvs) (us ++ ds) := r.append hd
  have hl : (us ++ ds).length = ps.length := by rw [← r2.length]; exact F.len _ _ _ _ h
  refine wpAny_call (codeAny_mono (F.run X.A X.stack s H ⟨us, []⟩ (us ++ ds) (vs ++ dvs) Q E hr I.env0 (hb s us I.kIn hl) r2 h) fun r s' hq => ?_)
  cases r with
  | error e => exact hx pins σ H s e s' I hq
  | ok fl =>
    cases fl with
    | ret u => exact I.after hq
    | next => exact False.elim hq
    | brk => exact False.elim hq
    | cont => exact False.elim hq

theorem pe_call (F : FnOk X.prog X.w X.K X.mg X.base CX k f fd ps sp) (hr : Room k X.A) (hg : Gl X x) (hm : X.mg x = some (.ref f)) (hk : PySem.W.keepIn X.K (.ref f) = true) (hb : Binds X.K fd ps ds) (hd : Vals dvs ds) (hx : Passes CX X E)
    (ha : PA X (e :: es) t) (hdb : (x == ("__debug__" : Str)) = false := by decide) (he : starEach (e :: es) X.env = (false, eval e X.env) :: starEach es X.env := by rfl) (hpl : (backTo pos (starEach es X.env)).any (·.1) = false := by rfl) :
    PE X (.Call (.Name x p) (e :: es) [] pos) (tCall sp dvs E t) := by
  intro pins s σ H Q I h
  refine wpAny_Call_Name_kw (ld_glob I hg hm ?_ hdb)
  refine PySem.W.callWith_K (h₀ := X.base) I.ok.mod.kin hk (thn (ha pos pins s σ H _ I h) fun us s1 ⟨vs, H1, I1, r, q⟩ => ⟨I1.kIn, ?_⟩) he hpl
  exact run_fn F hr hb hd hx I1 r q
/-- what a class must have to be made -/
structure Mk (K : PySem.W.Frag) (C f : Addr) : Prop where
  makes : PySem.W.makesIn K C = true
  init : PySem.W.findIn K (.ref C) "__init__" = some (some (.ref f))
  fn : PySem.W.isFn K (.ref f) = true
  kp : PySem.W.keepIn K (.ref C) = true

end

/-! ### keywords -/
/-- the values of the keywords, from the left -/
def PK (X : Cx) (kws : List Keyword) (t : TA) : Prop :=
  ∀ (pos : Pos) (pins : List (Addr × Obj)) (s : Shared) (σ : St) (H : Hp) (Q : List V → Hp → Prop), Inv X pins σ H s → t σ H Q → wpAny (model X.prog X.w) X.A (evalAll ((backToKw pos (keywordEach kws X.env)).map (·.2))) (AP X pins σ Q) X.xe s
section
variable {X : Cx} {CX : CXT} {k : Nat} {f C : Addr} {fd : FuncData} {ps ks : List Str} {sp : Sp} {E : XK} {x m : Str} {p pos apos kpos : Pos} {e o : Expr} {es : List Expr} {kws : List Keyword} {te ta : TE} {t tk : TA} {nm : Option Str}
/-- how a call with keywords binds: g puts the positional values us and the keywords' values ws (names ks) in the parameters' order, defaults among them -/
structure KBinds (K : PySem.W.Frag) (fd : FuncData) (ps ks : List Str) (g : List Value → List Value → List Value) (gV : List V → List V → List V) : Prop where
  to : ∀ (s : Shared) (us ws : List Value), K.In s.heap → (g us ws).length = ps.length → BindsTo s fd ⟨us, ks.zip ws⟩ (ps.zip (g us ws))
  rel : ∀ {vs : List V} {us : List Value} {zs : List V} {ws : List Value}, Vals vs us → Vals zs ws → Vals (gV vs zs) (g us ws)
def tCallK (sp : Sp) (gV : List V → List V → List V) (E : XK) (t tk : TA) : TE := fun σ H Q => t σ H fun vs H1 => tk σ H1 fun zs H2 => sp (gV vs zs) H2 Q E
variable {g : List Value → List Value → List Value} {gV : List V → List V → List V}
end

/-! ### a def's body keeps its promise -/
/-- names: the parameters first -/
structure FnScope (N P : List Str) (sc : Scope) : Prop where
  kind : sc.kind = .function
  co : sc.isCoroutine = false
  gen : sc.isGenerator = false
  nd : N.Nodup
  pre : N.take P.length = P
  par : ∀ x ∈ P, sc.names.lookup x = some .local ∨ sc.names.lookup x = some .cell
  nofree : ∀ y ∈ sc.names, y.2 ≠ .free

theorem bindL_out {kindOf : Str → Option NameKind} {x : Str} : ∀ {binds : List (Str × Value)} {m : Str → Option Value}, (∀ v, (x, v) ∉ binds) → bindL kindOf binds m x = m x
  | [], _, _ => rfl
  | (n, v) :: r, m, h => by
    unfold bindL
    rw [bindL_out fun w hw => h w (List.mem_cons_of_mem _ hw)]
    split
    · have : x ≠ n := by rintro rfl; exact h v List.mem_cons_self
      simp [this]
    · rfl
theorem bindC_out {kindOf : Str → Option NameKind} {x : Str} : ∀ {binds : List (Str × Value)} {m : Str → Option Value}, (∀ v, (x, v) ∉ binds) → bindC kindOf binds m x = m x
  | [], _, _ => rfl
  | (n, v) :: r, m, h => by
    unfold bindC
    rw [bindC_out fun w hw => h w (List.mem_cons_of_mem _ hw)]
    split
    · rfl
    · have : x ≠ n := by rintro rfl; exact h v List.mem_cons_self
      simp [this]
theorem bindL_get {kindOf : Str → Option NameKind} {x : Str} {v : Value} : ∀ {P : List Str} {vs : List Value} {i : Nat} {m : Str → Option Value}, P.Nodup → P[i]? = some x → vs[i]? = some v → kindOf x = some .local →
    bindL kindOf (P.zip vs) m x = some v
  | [], _, _, _, _, h, _, _ => by simp at h
  | _ :: _, [], _, _, _, _, h, _ => by simp at h
  | p :: P, w :: vs, 0, m, nd, h1, h2, hk => by
    simp at h1 h2; subst h1; subst h2
    show bindL kindOf ((p, w) :: P.zip vs) m p = _
    unfold bindL
    rw [bindL_out fun v hv => (List.nodup_cons.mp nd).1 (List.of_mem_zip hv).1, if_pos hk]
    simp
  | p :: P, w :: vs, i + 1, m, nd, h1, h2, hk => by
    show bindL kindOf ((p, w) :: P.zip vs) m x = _
    unfold bindL
    exact bindL_get (i := i) (List.nodup_cons.mp nd).2 (by simpa using h1) (by simpa using h2) hk
theorem bindC_get {kindOf : Str → Option NameKind} {x : Str} {v : Value} : ∀ {P : List Str} {vs : List Value} {i : Nat} {m : Str → Option Value}, P.Nodup → P[i]? = some x → vs[i]? = some v → kindOf x ≠ some .local →
    bindC kindOf (P.zip vs) m x = some v
  | [], _, _, _, _, h, _, _ => by simp at h
  | _ :: _, [], _, _, _, _, h, _ => by simp at h
  | p :: P, w :: vs, 0, m, nd, h1, h2, hk => by
    simp at h1 h2; subst h1; subst h2
    show bindC kindOf ((p, w) :: P.zip vs) m p = _
    unfold bindC
    rw [bindC_out fun v hv => (List.nodup_cons.mp nd).1 (List.of_mem_zip hv).1, if_neg hk]
    simp
  | p :: P, w :: vs, i + 1, m, nd, h1, h2, hk => by
    show bindC kindOf ((p, w) :: P.zip vs) m x = _
    unfold bindC
    exact bindC_get (i := i) (List.nodup_cons.mp nd).2 (by simpa using h1) (by simpa using h2) hk

/-- the names' values at the entry -/
def start (N : List Str) (vs : List V) : St := vs.map some ++ List.replicate (N.length - vs.length) none

/-- the context of a def's body, at its entry; an exception leaves the frame, then lies as CX says -/
def cxOf (CX : CXT) (P : Program) (w : World) (K : PySem.W.Frag) (mg : Str → Option Value) (base : Heap) (N : List Str) (qual : Str) (scope : Scope) (f : Addr) (cd : Value) (A : Around) (outer : List Env) (s : Shared) (H : Hp) (E : XK) : Cx where
  prog := P
  w := w
  K := K
  mg := mg
  base := base
  A := A.deeper (envOfC qual scope s.heap.objs.size f cd)
  N := N
  s₀ := s
  H₀ := H
  env := envOfC qual scope s.heap.objs.size f cd
  outer := outer
  stack := envOfC qual scope s.heap.objs.size f cd :: outer
  ex := []
  calm := true
  fn := fun _ => true
  pn := []
  xe := fun e s' => wpAny (model P w) (A.deeper (envOfC qual scope s.heap.objs.size f cd)) (leaving (envOfC qual scope s.heap.objs.size f cd) e) (fun _ s'' => CX outer H s E e s'') (fun e' s'' => CX outer H s E e' s'') s'

theorem cell_has {sc : Scope} {n : Nat} {x : Str} (h : sc.names.lookup x = some .cell) : ∃ c, (cellsFrom n sc.names []).lookup x = some c := by
  have q := PySem.W.cellsFrom_some sc.names n [] (.inl h)
  exact Option.isSome_iff_exists.mp q

theorem inv_start {CX : CXT} {P : Program} {w : World} {K : PySem.W.Frag} {mg : Str → Option Value} {base : Heap} {N ps : List Str} {qual : Str} {scope : Scope} {f : Addr} {cd : Value} {A : Around} {outer : List Env} {s s1 : Shared} {H : Hp} {E : XK} {us : List Value} {vs : List V}
    (S : FnScope N ps scope) (hd : A.handled = none) (e0 : Env0 P w K mg base A outer s H) (hl : vs.length = ps.length) (r : Vals vs us)
    (x : InCallC s s.heap.objs.size (bindL (envOfC qual scope s.heap.objs.size f cd).kindOf (ps.zip us) fun _ => none) (cellsFrom (s.heap.objs.size + 1) scope.names []) (bindC (envOfC qual scope s.heap.objs.size f cd).kindOf (ps.zip us) fun _ => none) s1) :
    Inv (cxOf CX P w K mg base N qual scope f cd A outer s H E) [] (start N vs) H s1 := by
  have hpl : ps.length ≤ N.length := by have := congrArg List.length S.pre; rw [List.length_take] at this; omega
  obtain ⟨h1, tk, rfl, hk⟩ := x.done
  have noA : ∀ b : Addr, b ∉ (cxOf CX P w K mg base N qual scope f cd A outer s H E).ex := fun b z => absurd (show b ∈ ([] : List Addr) from z) (by simp)
  refine ⟨⟨e0.mod, S.kind, rfl, rfl, Nat.le_refl _, fun y z c h1 h2 => ?_, fun y hy => ?_, fun y c _ h => ?_, fun _ => hd, Around.frames_deeper e0.frames, .inr ⟨rfl, rfl⟩, fun b z => absurd z (noA b), e0.bs, e0.bsz, fun b _ _ => noA b, fun b z => absurd z (noA b), e0.funs, e0.frf⟩,
    rfl, e0.bare, Un.kept hk, ⟨_, x.toInCall.ns, fun i y v h1 h2 h3 => ?_⟩, fun y c h => ⟨_, x.cell y c h⟩, e0.hok.fresh (Nat.le_refl _), fun y c h => ?_, fun p hp => absurd (show p ∈ ([] : List (Addr × Obj)) from hp) (by simp), e0.hok.kept hk, ?_⟩
  · exact name_of_addr x.apart (PySem.mem_of_lookup h1) (PySem.mem_of_lookup h2)
  · have hy : scope.names.lookup y = some .cell ∨ scope.names.lookup y = some .free := hy
    rcases hy with hy | hy
    · exact cell_has hy
    · exact absurd rfl (S.nofree _ (PySem.mem_of_lookup hy))
  · exact Nat.le_of_lt (x.above y c (PySem.mem_of_lookup h))
  · have hi : i < vs.length := by
      unfold start at h2
      by_cases hi : i < vs.length
      · exact hi
      · rw [List.getElem?_append_right (by simpa using hi)] at h2
        rw [List.getElem?_replicate] at h2
        split at h2 <;> cases h2
    have ha : vs[i]? = some v := by
      unfold start at h2
      rw [List.getElem?_append_left (by simpa using hi), List.getElem?_map] at h2
      cases e : vs[i]? with
      | none => rw [e] at h2; cases h2
      | some a => rw [e] at h2; cases h2; rfl
    obtain ⟨u, hu, rv⟩ := r.get ha
    have hp : ps[i]? = some y := by
      rw [← S.pre, List.getElem?_take_of_lt (by omega)]; exact h1
    have ndP : ps.Nodup := by rw [← S.pre]; exact S.nd.sublist (List.take_sublist _ _)
    refine ⟨u, rv, ?_⟩
    rcases S.par y (List.mem_of_getElem? hp) with k | k
    · exact .inl ⟨k, bindL_get ndP hp hu k⟩
    · obtain ⟨c, e⟩ := cell_has (n := s.heap.objs.size + 1) k
      refine .inr ⟨.inl k, c, e, ?_⟩
      have q := x.cell y c e
      rw [bindC_get ndP hp hu (by show scope.names.lookup y ≠ _; rw [k]; decide)] at q
      exact q
  · exact e0.hok.fresh (Nat.le_of_lt (x.above y c (PySem.mem_of_lookup h)))
  · unfold start
    show _ = N.length
    rw [List.length_append, List.length_map, List.length_replicate]
    omega

/-- THE RULE: a def (or a method) of the text, by its body. The body's reading t is chosen for each entry; it is run at the parameters' values -/
theorem fn_of {CX : CXT} {P : Program} {w : World} {K : PySem.W.Frag} {mg : Str → Option Value} {base : Heap} {k : Nat} {f : Addr} {name qual : Str} {params : Arguments} {body : List Stmt} {scope : Scope} {dV kV doc pm cdv ct oc : Value} {an od : Option Addr}
    {osl : Array (Option Value)} {N ps : List Str} {sp : Sp} (lk : K.lookup f = some ⟨oc, od, .func (PySem.W.fnOf name qual params body scope dV kV doc pm an cdv ct), osl⟩) (hcd : PySem.W.codeIn K cdv qual = true) (S : FnScope N ps scope)
    (len : ∀ vs H Q E, sp vs H Q E → vs.length = ps.length)
    (hbody : ∀ (A : Around) (outer : List Env) (s : Shared) (H : Hp) (vs : List V) (Q : VK) (E : XK), Room k (A.deeper (envOfC qual scope s.heap.objs.size f cdv)) → sp vs H Q E →
      ∃ t, PSs (cxOf CX P w K mg base N qual scope f cdv A outer s H E) body t ∧ t { nx := fun _ H' => Q .non H', rt := Q } (start N vs) H) :
    FnOk P w K mg base CX (k + 1) f (PySem.W.fnOf name qual params body scope dV kV doc pm an cdv ct) ps sp := by
  refine ⟨len, fun A outer s H args us vs Q E hr e0 hb r hsp => ?_⟩
  have hl := len _ _ _ _ hsp
  have KX : K.In s.heap := e0.mod.kin.keeps fun b o e => (e0.bs b o e).1
  have lim : s.heap.NoLimit := e0.mod.nolimit.keeps fun b o e => (e0.bs b o e).1
  have hkind : ∀ y ∈ ps.zip us, scope.names.lookup y.1 = some .local ∨ (scope.names.lookup y.1 = some .cell ∧ ((cellsFrom (s.heap.objs.size + 1) scope.names []).lookup y.1).isSome = true) := fun ⟨n, v⟩ hy => by
    rcases S.par n (List.of_mem_zip hy).1 with q | q
    · exact .inl q
    · exact .inr ⟨q, PySem.W.cellsFrom_some _ _ _ (.inl q)⟩
  refine codeAny_call_function hr.depth (KX _ _ lk) rfl S.co S.gen rfl (PySem.W.codeRec_of KX hcd) (hb _ _ _ _ ?_)
  refine wpAny_newFunctionEnv_cells S.kind hkind fun env he s1 x => ?_
  subst he
  refine ⟨lim.keeps x.toInCall.keep, codeAny_func ?_⟩
  obtain ⟨t, ht, hq⟩ := hbody A outer s H vs Q E (hr.deeper _) hsp
  have I : Inv (cxOf CX P w K mg base N qual scope f cdv A outer s H E) [] (start N vs) H s1 := inv_start S hr.hd e0 hl r x
  refine wpAny_mono (ht [] s1 (start N vs) H _ I hq) (fun fl s' hs => ?_) fun e s' hs => hs
  have fin : ∀ {σ' : St} {H' : Hp} {v : V} {u : Value}, Inv (cxOf CX P w K mg base N qual scope f cdv A outer s H E) [] σ' H' s' → RelV v u → Q v H' → CE outer P w H s Q u s' :=
    fun {σ' H' v u} J rv q => ⟨v, H', J.os, J.bare, J.base, J.hok, rv, q⟩
  cases fl with
  | ret u =>
    obtain ⟨v, σ', H', J, rv, q⟩ := hs
    exact fin J rv q
  | next =>
    obtain ⟨σ', H', J, q⟩ := hs
    exact fin (v := V.non) (u := Value.none) J rfl q
  | brk =>
    obtain ⟨_, _, _, q⟩ := hs
    exact False.elim q
  | cont =>
    obtain ⟨_, _, _, q⟩ := hs
    exact False.elim q
end L2

namespace L2
open PySem PySem.Spec PyProof.Rows
section
variable {X : Cx} {x : Str} {p pos : Pos} {e : Expr} {es : List Expr} {t : TA} {id T : String} {r : List V → Hp → VK → Prop}

def tCB (r : List V → Hp → VK → Prop) (t : TA) : TE := fun σ H Q => t σ H fun vs H1 => r vs H1 Q
/-- f(e, ..), f a built-in function -/
theorem pe_callB (hc : CallR X (.builtin id) r) (hg : Gl X x) (hm : X.mg x = none) (hv : bootBuiltins x = some (.builtin id)) (ha : PA X (e :: es) t) (hn : x ≠ "__name__" := by decide) (hdb : (x == ("__debug__" : Str)) = false := by decide)
    (he : starEach (e :: es) X.env = (false, eval e X.env) :: starEach es X.env := by rfl) (hpl : (backTo pos (starEach es X.env)).any (·.1) = false := by rfl) : PE X (.Call (.Name x p) (e :: es) [] pos) (tCB r t) := by
  intro pins s σ H Q I h
  refine wpAny_Call_Name_kw (ld_blt I hg hm hv ?_ hn hdb)
  exact PyProof.Rows.callWith_builtin1 (thn (ha pos pins s σ H _ I h) fun us s1 ⟨vs, H1, I1, r1, q1⟩ => hc pins s1 σ H1 vs us Q I1 r1 q1) he hpl
/-- T(e, ..), T a built-in type -/
theorem pe_callTy (hc : CallR X (.type T) r) (hg : Gl X x) (hm : X.mg x = none) (hv : bootBuiltins x = some (.type T)) (ha : PA X (e :: es) t) (hn : x ≠ "__name__" := by decide) (hdb : (x == ("__debug__" : Str)) = false := by decide)
    (he : starEach (e :: es) X.env = (false, eval e X.env) :: starEach es X.env := by rfl) (hpl : (backTo pos (starEach es X.env)).any (·.1) = false := by rfl) : PE X (.Call (.Name x p) (e :: es) [] pos) (tCB r t) := by
  intro pins s σ H Q I h
  refine wpAny_Call_Name_kw (ld_blt I hg hm hv ?_ hn hdb)
  exact PyProof.Rows.callWith_type1 (thn (ha pos pins s σ H _ I h) fun us s1 ⟨vs, H1, I1, r1, q1⟩ => hc pins s1 σ H1 vs us Q I1 r1 q1) he hpl
end
end L2

namespace HT
open PySem PyProof.Rows

/-- t < u of tuples of ints -/
def lexLt : List Int → List Int → Bool
  | [], [] => false
  | [], _ :: _ => true
  | _ :: _, [] => false
  | x :: xs, y :: ys => if x = y then lexLt xs ys else decide (x < y)
section
open PySem.SeqAt
open PySem.AutoSeq1 (wpAny_loadPart')
open PySem.MeetsSeq PySem.MeetsSeq2 PySem.MeetsSeq3

end

section
variable {prog : Program} {w : World} {A : Around} {E : Value → Shared → Prop} {s : Shared}

/-! ### t[a:b], not the whole -/
/-- a slice's bound as a place among n (d where it is left out) -/
def sIx (n d : Nat) : Option Int → Nat
  | none => d
  | some v => if v < 0 then (v + (n : Int)).toNat else min v.toNat n
theorem sIx_none (n d : Nat) : sIx n d none = d := rfl
theorem sIx_nat (n d k : Nat) : sIx n d (some (k : Int)) = min k n := by
  show (if (k : Int) < 0 then ((k : Int) + (n : Int)).toNat else min (k : Int).toNat n) = min k n
  rw [if_neg (by omega), Int.toNat_natCast]
end
end HT

namespace L2
open PySem PySem.Spec PyProof.Rows

/-! ### the parts of a slice -/
abbrev TO := St → Hp → (Option Int → Hp → Prop) → Prop
/-- a slice's part (left out, or an int) -/
def PO (X : Cx) (e : Option Expr) (t : TO) : Prop :=
  ∀ (pins : List (Addr × Obj)) (s : Shared) (σ : St) (H : Hp) (Q : Option Int → Hp → Prop), Inv X pins σ H s → t σ H Q →
    wpAny (model X.prog X.w) X.A (evalPart e X.env) (fun u s' => ∃ o H', Inv X pins σ H' s' ∧ IsPart u o ∧ Q o H') X.xe s
def tNoPart : TO := fun _ H Q => Q none H
def tPart (t : TE) : TO := fun σ H Q => t σ H fun x H1 => ∃ i, x = .int i ∧ Q (some i) H1

section
variable {X : Cx} {e : Expr} {te : TE} {lo hi : Option Expr} {tl th : TO} {pos p2 : Pos}

theorem po_none : PO X none tNoPart := by
  intro pins s σ H Q I h
  rw [evalPart_none]
  exact wpAny_pure ⟨none, H, I, .none, h⟩
theorem po_some (h : PE X e te) : PO X (some e) (tPart te) := by
  intro pins s σ H Q I hw
  rw [evalPart_some]
  refine thn (h pins s σ H _ I hw) fun u s1 ⟨x, H1, I1, r1, q1⟩ => ?_
  obtain ⟨i, rfl, q⟩ := q1
  obtain ⟨t, rfl⟩ := r1
  exact ⟨some i, H1, I1, .int i t, q⟩

/-- what a slice of a value is, by values: the slice object stands at sl -/
def SlR (X : Cx) (r : V → Option Int → Option Int → Hp → VK → Prop) : Prop :=
  ∀ (pins : List (Addr × Obj)) (s : Shared) (σ : St) (H : Hp) (x : V) (v vl vu : Value) (lo hi : Option Int) (sl : Addr) (Q : VK), Inv X pins σ H s → RelV x v → s.heap.IsSliceOf sl vl vu .none → IsPart vl lo → IsPart vu hi → r x lo hi H Q →
    ∃ T id, typeLookup (.type T) "__getitem__" = pure (some (.builtin id)) ∧ s.TypeIs v T ∧ wpAny (model X.prog X.w) X.A (getItem v (.ref sl)) (EP X pins σ Q) X.xe s
theorem SlR.or {r r' : V → Option Int → Option Int → Hp → VK → Prop} (h : SlR X r) (h' : SlR X r') : SlR X (fun x lo hi H Q => r x lo hi H Q ∨ r' x lo hi H Q) := by
  intro pins s σ H x v vl vu lo hi sl Q I rx hs pl pu q
  rcases q with q | q
  · exact h pins s σ H x v vl vu lo hi sl Q I rx hs pl pu q
  · exact h' pins s σ H x v vl vu lo hi sl Q I rx hs pl pu q
def tSl (r : V → Option Int → Option Int → Hp → VK → Prop) (te : TE) (tl th : TO) : TE := fun σ H Q => te σ H fun x H1 => tl σ H1 fun l H2 => th σ H2 fun u H3 => r x l u H3 Q
/-- a[lo:hi], any a -/
theorem pe_slice {r : V → Option Int → Option Int → Hp → VK → Prop} (hr : SlR X r) (he : PE X e te) (hl : PO X lo tl) (hu : PO X hi th) : PE X (.Subscript e (.Slice lo hi none p2) pos) (tSl r te tl th) := by
  intro pins s σ H Q I h
  refine Subscript_ (thn (he pins s σ H _ I h) fun v s1 ⟨x, H1, I1, r1, q1⟩ => ?_)
  refine wpAny_Slice (thn (hl pins s1 σ H1 _ I1 q1) fun vl s2 ⟨l, H2, I2, pl, q2⟩ => thn (hu pins s2 σ H2 _ I2 q2) fun vu s3 ⟨u, H3, I3, pu, q3⟩ => ?_)
  rw [evalPart_none]
  refine wpAny_pure ?_
  have I4 : Inv X pins σ H3 { s3 with heap := s3.heap.push { cls := .type "slice", data := .fields #[vl, vu, .none] } } := I3.kept (t' := s3.toks) fun b ob q => Heap.get?_push_of_some _ q
  obtain ⟨T, id, hT, ht, hg⟩ := hr pins { s3 with heap := s3.heap.push { cls := .type "slice", data := .fields #[vl, vu, .none] } } σ H3 x v vl vu l u s3.heap.objs.size Q I4 r1 (Heap.IsSliceOf.new ..) pl pu q3
  show wpAny (model X.prog X.w) X.A (subscriptTail e (.Slice lo hi none p2) v (.ref s3.heap.objs.size)) (EP X pins σ Q) X.xe { s3 with heap := s3.heap.push { cls := .type "slice", data := .fields #[vl, vu, .none] } }
  exact tail_any (ops := [.ref s3.heap.objs.size, v]) ht hT hg (by with_unfolding_all rfl)

/-- the items of xs[lo:hi] -/
def cutV (xs : List V) (lo hi : Option Int) : List V := (xs.drop (HT.sIx xs.length 0 lo)).take (HT.sIx xs.length xs.length hi - HT.sIx xs.length 0 lo)
theorem cutV_length (xs : List V) (lo hi : Option Int) : (cutV xs lo hi).length ≤ xs.length := by
  unfold cutV
  rw [List.length_take, List.length_drop]
  omega
/-- t[lo:hi], not the whole of it (the whole would be t itself) -/
def rSlT (K : PySem.W.Frag) : V → Option Int → Option Int → Hp → VK → Prop := fun x lo hi H Q => ∃ a xs, x = .ref a ∧ SqT K H a xs ∧
  ¬ (HT.sIx xs.length 0 lo = 0 ∧ HT.sIx xs.length xs.length hi = xs.length) ∧ ∀ p, H p = none → Q (.ref p) (upd H p (.tup (cutV xs lo hi)))
/-! ### t < u, t + u -/
def rLtT (K : PySem.W.Frag) : R2 := fun x y H Q => ∃ a b ns ms, x = .ref a ∧ y = .ref b ∧ SqT K H a (ns.map V.int) ∧ SqT K H b (ms.map V.int) ∧ Q (.bl (HT.lexLt ns ms)) H
/-- t + u, t not empty: u empty gives t itself -/
def rCatT (K : PySem.W.Frag) : R2 := fun x y H Q => ∃ a b xs ys, x = .ref a ∧ y = .ref b ∧ SqT K H a xs ∧ SqT K H b ys ∧ xs ≠ [] ∧ xs.length + ys.length ≤ sizeLine ∧
  (ys = [] → Q (.ref a) H) ∧ (ys ≠ [] → ∀ p, H p = none → Q (.ref p) (upd H p (.tup (xs ++ ys))))
end
end L2

namespace L2
open PySem PySem.Spec PyProof.Rows

/-! ### places -/
/-- the place that an index of any sign means -/
def ixN (n : Nat) (i : Int) : Option Nat := if 0 ≤ i then (if i < n then some i.toNat else none) else if -(n : Int) ≤ i then some (i + n).toNat else none
def atI {α : Type} (xs : List α) (i : Int) : Option α := (ixN xs.length i).bind fun j => xs[j]?
theorem ixN_seq {n : Nat} {i : Int} {j : Nat} (h : ixN n i = some j) : seqIndex? i n = some j ∧ j < n ∧ -(n : Int) ≤ i ∧ i < n := by
  unfold ixN at h
  by_cases h0 : 0 ≤ i
  · rw [if_pos h0] at h
    by_cases h1 : i < n
    · rw [if_pos h1] at h
      have e : i.toNat = j := Option.some.inj h
      exact ⟨by rw [seqIndex_of h0 h1, e], by omega, by omega, h1⟩
    · rw [if_neg h1] at h; cases h
  · rw [if_neg h0] at h
    by_cases h1 : -(n : Int) ≤ i
    · rw [if_pos h1] at h
      have e : (i + n).toNat = j := Option.some.inj h
      exact ⟨by rw [seqIndex_neg (by omega) h1, e], by omega, h1, by omega⟩
    · rw [if_neg h1] at h; cases h
theorem atI_get {α : Type} {xs : List α} {i : Int} {v : α} (h : atI xs i = some v) : ∃ j, seqIndex? i xs.length = some j ∧ xs[j]? = some v ∧ j < xs.length ∧ -(xs.length : Int) ≤ i ∧ i < xs.length := by
  unfold atI at h
  cases e : ixN xs.length i with
  | none => rw [e] at h; cases h
  | some j =>
    rw [e] at h
    obtain ⟨h1, h2, h3, h4⟩ := ixN_seq e
    exact ⟨j, h1, h, h2, h3, h4⟩
theorem atI_nat {α : Type} {xs : List α} {j : Nat} {v : α} (h : xs[j]? = some v) : atI xs (j : Int) = some v := by
  have hj : j < xs.length := (List.getElem?_eq_some_iff.mp h).1
  have e : ixN xs.length (j : Int) = some j := by
    unfold ixN
    rw [if_pos (by omega), if_pos (by omega)]; simp
  unfold atI; rw [e]; exact h
/-! ### what may be subscripted -/
/-- what stands as an index of a plain subscript -/
def PlainIx (b : Expr) : Prop := ∀ o i, subscripted b false o i = operate [o, i] (getItem o i)
/-- a subscript by values -/
def IxR (X : Cx) (r : R2) : Prop :=
  ∀ (value slice : Expr) (pins : List (Addr × Obj)) (s : Shared) (σ : St) (H : Hp) (x y : V) (v u : Value) (Q : VK), Inv X pins σ H s → RelV x v → RelV y u → r x y H Q →
    subscripted slice false v u = operate [v, u] (getItem v u) → wpAny (model X.prog X.w) X.A (subscriptTail value slice v u) (EP X pins σ Q) X.xe s
/-- a call of a builtin's method by values: the receiver, the arguments -/
def MtR (X : Cx) (id : String) (r : V → List V → Hp → VK → Prop) : Prop :=
  ∀ (pins : List (Addr × Obj)) (s : Shared) (σ : St) (H : Hp) (x : V) (xs : List V) (v : Value) (us : List Value) (Q : VK), Inv X pins σ H s → RelV x v → Vals xs us → r x xs H Q →
    wpAny (model X.prog X.w) X.A (call (.builtin id) (v :: us)) (EP X pins σ Q) X.xe s
section
variable {X : Cx} {a b : Expr} {ta tb : TE} {pos : Pos}
theorem IxR.or {r r' : R2} (h : IxR X r) (h' : IxR X r') : IxR X (fun x y H Q => r x y H Q ∨ r' x y H Q) := by
  intro value slice pins s σ H x y v u Q I rx ry q hs
  rcases q with q | q
  · exact h value slice pins s σ H x y v u Q I rx ry q hs
  · exact h' value slice pins s σ H x y v u Q I rx ry q hs
theorem MtR.or {id : String} {r r' : V → List V → Hp → VK → Prop} (h : MtR X id r) (h' : MtR X id r') : MtR X id (fun x xs H Q => r x xs H Q ∨ r' x xs H Q) := by
  intro pins s σ H x xs v us Q I rx rs q
  rcases q with q | q
  · exact h pins s σ H x xs v us Q I rx rs q
  · exact h' pins s σ H x xs v us Q I rx rs q
/-- a[b] -/
theorem pe_ix {r : R2} (hr : IxR X r) (ha : PE X a ta) (hb : PE X b tb) (hs : PlainIx b) : PE X (.Subscript a b pos) (tOp r ta tb) := by
  intro pins s σ H Q I h
  exact Subscript_ (binT ha hb I h fun v u s2 x y H2 I2 rx ry q => hr a b pins s2 σ H2 x y v u Q I2 rx ry q (hs _ _))

def rIxL (K : PySem.W.Frag) : R2 := fun x y H Q => ∃ p xs i v, x = .ref p ∧ y = .int i ∧ SqL K H p xs ∧ atI xs i = some v ∧ Q v H
def rIxT (K : PySem.W.Frag) : R2 := fun x y H Q => ∃ p xs i v, x = .ref p ∧ y = .int i ∧ SqT K H p xs ∧ atI xs i = some v ∧ Q v H
def rIxS : R2 := fun x y H Q => ∃ z i c, x = .str z ∧ y = .int i ∧ z.length ≤ sizeLine ∧ atI z.cps.toList i = some c ∧ Q (.str ⟨#[c]⟩) H
theorem ix_list : IxR X (rIxL X.K) := by
  intro value slice pins s σ H x y v u Q I rx ry h hs
  obtain ⟨p, xs, i, z, rfl, rfl, hq, he, q⟩ := h
  cases rx
  obtain ⟨t, rfl⟩ := ry
  obtain ⟨its, r, pl, hz⟩ := I.list hq
  obtain ⟨j, h1, h2, h3, h4, h5⟩ := atI_get he
  obtain ⟨w, ew, rw'⟩ := r.get h2
  have hl := r.length
  have hn := line63
  have fin : EP X pins σ Q w s := ⟨z, H, I, rw', q⟩
  by_cases h0 : 0 ≤ i
  · have hj : i.toNat = j := by
      rw [seqIndex_of h0 h5] at h1
      exact Option.some.inj h1
    exact item_listR pl.isList h0 (by omega) (by rw [hj]; simpa using ew) fin hs
  · have hj : (i + (its.toArray.size : Int)).toNat = j := by
      rw [seqIndex_neg (by omega) h4] at h1
      rw [List.size_toArray, ← hl]
      exact Option.some.inj h1
    exact subscriptTail_builtinR (x := w) pl.isList.typeIs slot_list_getitem.lookup
      (wpAny_getItem_list_neg (Q := fun r s' => r = w ∧ EP X pins σ Q r s') pl.isList (by omega) (by rw [List.size_toArray] <;> omega) (by omega) (by rw [hj]; simpa using ew) ⟨rfl, fin⟩) hs
theorem ix_tup : IxR X (rIxT X.K) := by
  intro value slice pins s σ H x y v u Q I rx ry h hs
  obtain ⟨p, xs, i, z, rfl, rfl, hq, he, q⟩ := h
  cases rx
  obtain ⟨t, rfl⟩ := ry
  obtain ⟨its, r, pl, hz⟩ := I.tuple hq
  obtain ⟨j, h1, h2, h3, h4, h5⟩ := atI_get he
  obtain ⟨w, ew, rw'⟩ := r.get h2
  have hl := r.length
  have hn := line63
  have fin : EP X pins σ Q w s := ⟨z, H, I, rw', q⟩
  exact subscriptTail_builtinR (x := w) pl.typeIs slot_tuple_getitem.lookup
    (getItem_tuple (j := j) (Q := fun r s' => r = w ∧ EP X pins σ Q r s') pl (by omega) (by omega) (by rw [List.size_toArray, ← hl]; exact h1) (by simpa using ew) ⟨rfl, fin⟩) hs
/-- list, tuple or str -/
def rIx (K : PySem.W.Frag) : R2 := fun x y H Q => rIxL K x y H Q ∨ rIxT K x y H Q ∨ rIxS x y H Q
/-! ### xs[i] = v, any sign -/
theorem Inv.lst {pins : List (Addr × Obj)} {σ : St} {H : Hp} {s : Shared} {p : Addr} {xs : List V} (I : Inv X pins σ H s) (h : H p = some (.lst xs)) :
    ∃ (its : List Value) (n : Nat), Vals xs its ∧ s.heap.get? p = some { cls := .type "list", data := .seq its.toArray n } ∧ xs.length ≤ sizeLine := by
  obtain ⟨z, its, n, r, e⟩ := I.hok p _ h
  exact ⟨its, n, r, e, z⟩
def rSetL : V → V → V → Hp → (Hp → Prop) → Prop := fun o i v H Q => ∃ p xs k j, o = .ref p ∧ i = .int k ∧ H p = some (.lst xs) ∧ ixN xs.length k = some j ∧ Q (upd H p (.lst (xs.set j v)))
/-! ### slices -/
theorem slice_bounds (lo hi : Option Int) (n : Nat) : (sliceBounds lo hi none n).1 = ((HT.sIx n 0 lo : Nat) : Int) ∧ (sliceBounds lo hi none n).2.1 = ((HT.sIx n n hi : Nat) : Int) ∧ (sliceBounds lo hi none n).2.2 = 1 := by
  refine ⟨?_, ?_, rfl⟩
  · cases lo with
    | none => simp [sliceBounds, HT.sIx]
    | some i =>
      simp only [sliceBounds, HT.sIx, Option.getD_none, show (1 : Int) > 0 by decide, if_true]
      by_cases h : i < 0
      · simp only [h, if_true] <;> omega
      · simp only [h, if_false] <;> omega
  · cases hi with
    | none => simp [sliceBounds, HT.sIx]
    | some i =>
      simp only [sliceBounds, HT.sIx, Option.getD_none, show (1 : Int) > 0 by decide, if_true]
      by_cases h : i < 0
      · simp only [h, if_true] <;> omega
      · simp only [h, if_false] <;> omega
theorem slicePick_cut (its : List Value) (lo hi : Option Int) : slicePick its.toArray lo hi none = ((its.drop (HT.sIx its.length 0 lo)).take (HT.sIx its.length its.length hi - HT.sIx its.length 0 lo)).toArray := by
  obtain ⟨h1, h2, h3⟩ := slice_bounds lo hi its.toArray.size
  unfold slicePick
  rw [h1, h2, h3]
  simp only [sliceRange_one, pick_run, List.size_toArray] <;> rfl
/-- xs[lo:hi] of a list: a new list -/
def rSlL (K : PySem.W.Frag) : V → Option Int → Option Int → Hp → VK → Prop := fun x lo hi H Q => ∃ a xs, x = .ref a ∧ SqL K H a xs ∧ ∀ p, H p = none → Q (.ref p) (upd H p (.lst (cutV xs lo hi)))
theorem sl_list : SlR X (rSlL X.K) := by
  intro pins s σ H x v vl vu lo hi sl Q I rx hs pl pu h
  obtain ⟨a, xs, rfl, hx, q⟩ := h
  cases rx
  obtain ⟨its, r, ht, hz⟩ := I.list hx
  have hlen := r.length
  refine ⟨"list", _, slot_list_getitem.lookup, ht.isList.typeIs, ?_⟩
  refine wpAny_getItem_list_slice ht.isList hs pl pu .none (by simp) ?_ (by rw [List.size_toArray] <;> omega)
  rw [slicePick_cut, ← hlen]
  refine ⟨.ref s.heap.objs.size, _, I.laid (t' := s.toks) (o := .lst (cutV xs lo hi)) (fun b ob q => Heap.get?_push_of_some _ q) (Nat.le_refl _) ?_, rfl, q _ (I.hok.fresh (Nat.le_refl _))⟩
  exact ⟨Nat.le_trans (cutV_length xs lo hi) hz, _, 0, (r.drop (HT.sIx xs.length 0 lo)).take (HT.sIx xs.length xs.length hi - HT.sIx xs.length 0 lo), Heap.get?_push_size _ rfl⟩

/-! ### in, not in: flat items -/
def flatV : V → Bool
  | .non => true
  | .bl _ => true
  | .int _ => true
  | .str _ => true
  | _ => false
/-- == of flat values -/
def eqV : V → V → Bool
  | .non, .non => true
  | .bl a, .bl b => a == b
  | .bl a, .int b => (if a then 1 else 0) == b
  | .int a, .bl b => a == (if b then 1 else 0)
  | .int a, .int b => a == b
  | .str a, .str b => a == b
  | _, _ => false
theorem eqAt_V {A : Around} {s : Shared} {y x : V} {u v : Value} (ry : RelV y u) (rx : RelV x v) (fy : flatV y = true) (fx : flatV x = true) : SeqAt.EqAt A s u v (eqV y x) := by
  cases y with
  | non =>
    cases ry
    cases x with
    | non => cases rx; exact SeqAt.EqAt.same _
    | bl b => cases rx; exact SeqAt.EqAt.none_bool b
    | int b => obtain ⟨t, rfl⟩ := rx; exact SeqAt.EqAt.none_int b t
    | str b => obtain ⟨t, rfl⟩ := rx; exact SeqAt.EqAt.none_str b t
    | _ => exact absurd (show false = true from fx) Bool.false_ne_true
  | bl a =>
    cases ry
    cases x with
    | non => cases rx; exact SeqAt.EqAt.bool_none a
    | bl b => cases rx; exact SeqAt.EqAt.bool_bool a b
    | int b => obtain ⟨t, rfl⟩ := rx; exact SeqAt.EqAt.bool_int a b t
    | str b => obtain ⟨t, rfl⟩ := rx; exact SeqAt.EqAt.bool_str a b t
    | _ => exact absurd (show false = true from fx) Bool.false_ne_true
  | int a =>
    obtain ⟨t', rfl⟩ := ry
    cases x with
    | non => cases rx; exact SeqAt.EqAt.int_none a t'
    | bl b => cases rx; exact SeqAt.EqAt.int_bool a t' b
    | int b => obtain ⟨t, rfl⟩ := rx; exact SeqAt.EqAt.int_int a t' b t
    | str b => obtain ⟨t, rfl⟩ := rx; exact SeqAt.EqAt.int_str a t' b t
    | _ => exact absurd (show false = true from fx) Bool.false_ne_true
  | str a =>
    obtain ⟨t', rfl⟩ := ry
    cases x with
    | non => cases rx; exact SeqAt.EqAt.str_none a t'
    | bl b => cases rx; exact SeqAt.EqAt.str_bool a t' b
    | int b => obtain ⟨t, rfl⟩ := rx; exact SeqAt.EqAt.str_int a t' b t
    | str b => obtain ⟨t, rfl⟩ := rx; exact SeqAt.EqAt.str_str a t' b t
    | _ => exact absurd (show false = true from fx) Bool.false_ne_true
  | _ => exact absurd (show false = true from fy) Bool.false_ne_true
/-- the items' answers, read off the values (a value's own answer does not lean on its token) -/
def eqU (x : V) (u : Value) : Bool := match u with
  | .none => eqV .non x
  | .bool b => eqV (.bl b) x
  | .int i _ => eqV (.int i) x
  | .str z _ => eqV (.str z) x
  | _ => false
theorem eqU_of {x y : V} {u : Value} (r : RelV y u) (f : flatV y = true) : eqU x u = eqV y x := by
  cases y with
  | non => cases r; rfl
  | bl b => cases r; rfl
  | int i => obtain ⟨t, rfl⟩ := r; rfl
  | str z => obtain ⟨t, rfl⟩ := r; rfl
  | _ => exact absurd (show false = true from f) Bool.false_ne_true
theorem any_eqU {x : V} : ∀ {xs : List V} {us : List Value}, Vals xs us → xs.all flatV = true → us.any (eqU x) = xs.any fun y => eqV y x
  | _, _, .nil, _ => rfl
  | y :: xs, u :: us, .cons r t, f => by
    rw [List.all_cons, Bool.and_eq_true] at f
    rw [List.any_cons, List.any_cons, eqU_of r f.1, any_eqU t f.2]
theorem mem_eqAt {A : Around} {s : Shared} {x : V} {v : Value} (rx : RelV x v) (fx : flatV x = true) : ∀ {xs : List V} {us : List Value}, Vals xs us → xs.all flatV = true → ∀ u ∈ us, SeqAt.EqAt A s u v (eqU x u)
  | _, _, .nil, _ => fun u hu => by cases hu
  | y :: xs, u :: us, .cons r t, f => fun u' hu => by
    rw [List.all_cons, Bool.and_eq_true] at f
    rcases List.mem_cons.mp hu with rfl | hu
    · rw [eqU_of r f.1]; exact eqAt_V r rx f.1 fx
    · exact mem_eqAt rx fx t f.2 u' hu
def inV (x : V) (xs : List V) : Bool := xs.any fun y => eqV y x
/-- x in a list or tuple of flat items -/
def rIn (K : PySem.W.Frag) (neg : Bool) : R2 := fun x y H Q => ∃ p xs, y = .ref p ∧ (SqL K H p xs ∨ SqT K H p xs) ∧ flatV x = true ∧ xs.all flatV = true ∧ Q (.bl (if neg then !inV x xs else inV x xs)) H
theorem op_in_seq : OpR X (compareOp .In) (rIn X.K false) := by
  intro pins s σ H x y v u Q I rx ry h
  obtain ⟨p, xs, rfl, hq, fx, fs, q⟩ := h
  cases ry
  rcases hq with hq | hq
  · obtain ⟨its, r, pl, hz⟩ := I.list hq
    refine SeqAt.in_listAt (eqU x) pl.isList (fun w hw => mem_eqAt rx fx r fs w (by simpa using hw)) ⟨.bl _, H, I, rfl, ?_⟩
    rw [show its.toArray.any (eqU x) = its.any (eqU x) by simp, any_eqU r fs]
    exact q
  · obtain ⟨its, r, pl, hz⟩ := I.tuple hq
    refine SeqAt.in_tupleAt (eqU x) pl (fun w hw => mem_eqAt rx fx r fs w (by simpa using hw)) ⟨.bl _, H, I, rfl, ?_⟩
    rw [show its.toArray.any (eqU x) = its.any (eqU x) by simp, any_eqU r fs]
    exact q
theorem op_notIn_seq : OpR X (compareOp .NotIn) (rIn X.K true) := by
  intro pins s σ H x y v u Q I rx ry h
  obtain ⟨p, xs, rfl, hq, fx, fs, q⟩ := h
  cases ry
  rcases hq with hq | hq
  · obtain ⟨its, r, pl, hz⟩ := I.list hq
    refine SeqAt.notIn_listAt (eqU x) pl.isList (fun w hw => mem_eqAt rx fx r fs w (by simpa using hw)) ⟨.bl _, H, I, rfl, ?_⟩
    rw [show its.toArray.any (eqU x) = its.any (eqU x) by simp, any_eqU r fs]
    exact q
  · obtain ⟨its, r, pl, hz⟩ := I.tuple hq
    refine SeqAt.notIn_tupleAt (eqU x) pl (fun w hw => mem_eqAt rx fx r fs w (by simpa using hw)) ⟨.bl _, H, I, rfl, ?_⟩
    rw [show its.toArray.any (eqU x) = its.any (eqU x) by simp, any_eqU r fs]
    exact q
/-! ### len, list(x), tuple(x) of any list or tuple that is read -/
theorem call_len_seq : CallR X (.builtin "len") (fun xs H Q => ∃ p ys, xs = [.ref p] ∧ (SqL X.K H p ys ∨ SqT X.K H p ys) ∧ Q (.int ys.length) H) := by
  intro pins s σ H xs us Q I r h
  obtain ⟨p, ys, rfl, hq, q⟩ := h
  obtain ⟨u, rfl, rx⟩ := vals1 r
  cases rx
  have hn := line63
  rcases hq with hq | hq
  · obtain ⟨its, r', pl, hz⟩ := I.list hq
    have hlen := r'.length
    exact Calls.call_len_list pl.isList (by simp only [List.size_toArray] <;> omega) ⟨.int ys.length, H, I.tok _, ⟨s.toks + 1, by rw [List.size_toArray, hlen]⟩, q⟩
  · obtain ⟨its, r', pl, hz⟩ := I.tuple hq
    have hlen := r'.length
    exact len_tuple pl (by simp only [List.size_toArray] <;> omega) ⟨.int ys.length, H, I.tok _, ⟨s.toks + 1, by rw [List.size_toArray, hlen]⟩, q⟩
theorem CallR.or {f : Value} {r r' : List V → Hp → VK → Prop} (h : CallR X f r) (h' : CallR X f r') : CallR X f (fun xs H Q => r xs H Q ∨ r' xs H Q) := by
  intro pins s σ H xs us Q I rs q
  rcases q with q | q
  · exact h pins s σ H xs us Q I rs q
  · exact h' pins s σ H xs us Q I rs q
theorem call_tuple_of : CallR X (.type "tuple") (fun xs H Q => ∃ p ys, xs = [.ref p] ∧ ((SqL X.K H p ys ∧ ∀ l, H l = none → Q (.ref l) (upd H l (.tup ys))) ∨ (SqT X.K H p ys ∧ Q (.ref p) H))) := by
  intro pins s σ H xs us Q I r h
  obtain ⟨p, ys, rfl, h⟩ := h
  obtain ⟨u, rfl, rx⟩ := vals1 r
  cases rx
  rcases h with ⟨hq, q⟩ | ⟨hq, q⟩
  · obtain ⟨its, r', pl, hz⟩ := I.list hq
    have hlen := r'.length
    refine call_tuple_list pl.isList (fun h' kp => ?_) (by simp only [List.size_toArray] <;> omega)
    have I1 : Inv X pins σ H { s with heap := h' } := I.kept (t' := s.toks) kp
    have I2 : Inv X pins σ (upd H h'.objs.size (.tup ys)) { s with heap := h'.push { cls := .type "tuple", data := .seq its.toArray } } :=
      I1.laid (t' := s.toks) (fun b o e => Heap.get?_push_of_some _ e) (Nat.le_refl _) (show ObjOk X.prog X.w _ _ _ (.tup ys) from ⟨hz, its, r', IsTup.new _ _⟩)
    exact ⟨.ref h'.objs.size, _, I2, rfl, q _ (I1.hok.fresh (Nat.le_refl _))⟩
  · obtain ⟨its, r', pl, hz⟩ := I.tuple hq
    exact call_tuple_same pl ⟨.ref p, H, I, rfl, q⟩

/-! ### the call of a builtin's method: o.m(..) -/
/-- the value is of that builtin type -/
def tyV (K : PySem.W.Frag) (T : String) (x : V) (H : Hp) : Prop := match x with
  | .str _ => T = "str"
  | .int _ => T = "int"
  | .ref p => (T = "list" ∧ ∃ xs, SqL K H p xs) ∨ (T = "tuple" ∧ ∃ o, K.lookup p = some o ∧ o.cls = .type "tuple" ∧ o.dict = none) ∨
      (T = "dict" ∧ ((∃ kvs, H p = some (.dK kvs)) ∨ ∃ kvs, H p = some (.dT kvs))) ∨ (T = "set" ∧ ∃ S n, H p = some (.set S n))
  | _ => False
theorem tyV_is {pins : List (Addr × Obj)} {σ : St} {H : Hp} {s : Shared} {T : String} {x : V} {v : Value} (I : Inv X pins σ H s) (r : RelV x v) (ty : tyV X.K T x H) :
    s.TypeIs v T ∧ ∀ a, v = .ref a → ∃ ob, s.heap.get? a = some ob ∧ ob.dict = none := by
  cases x with
  | str z =>
    obtain ⟨t, rfl⟩ := r
    cases (show T = "str" from ty)
    exact ⟨typeIs_str s z t, fun _ e => nomatch e⟩
  | int i =>
    obtain ⟨t, rfl⟩ := r
    cases (show T = "int" from ty)
    exact ⟨typeIs_int s i t, fun _ e => nomatch e⟩
  | ref p =>
    cases r
    rcases ty with ⟨rfl, xs, hq⟩ | ⟨rfl, o, hk, hc, hd⟩ | ⟨rfl, hk⟩ | ⟨rfl, S, n, hk⟩
    · obtain ⟨its, _, pl, _⟩ := I.list hq
      refine ⟨pl.isList.typeIs, fun a e => ?_⟩
      cases e
      obtain ⟨o, n, e, c, hd, _⟩ := pl
      exact ⟨o, e, hd⟩
    · refine ⟨⟨o, I.kIn p o hk, hc⟩, fun a e => ?_⟩
      cases e
      exact ⟨o, I.kIn _ o hk, hd⟩
    · have z : ∃ o, s.heap.get? p = some o ∧ o.ExactDict := by
        rcases hk with ⟨kvs, hk⟩ | ⟨kvs, hk⟩
        · obtain ⟨_, _, _, _, o, _, _, e, ex, _⟩ := I.hok p _ hk
          exact ⟨o, e, ex⟩
        · obtain ⟨_, _, _, _, o, _, _, e, ex, _⟩ := I.hok p _ hk
          exact ⟨o, e, ex⟩
      obtain ⟨o, e, ex⟩ := z
      refine ⟨⟨o, e, ex.1⟩, fun a e2 => ?_⟩
      cases e2
      exact ⟨o, e, ex.2.1⟩
    · obtain ⟨o, _, _, _, e, ex, _⟩ := I.hok p _ hk
      refine ⟨⟨o, e, ex.1⟩, fun a e2 => ?_⟩
      cases e2
      exact ⟨o, e, ex.2.1⟩
  | _ => exact False.elim ty
def tBM0 (K : PySem.W.Frag) (T : String) (r : V → List V → Hp → VK → Prop) (to : TE) : TE := fun σ H Q => to σ H fun x H1 => tyV K T x H1 ∧ r x [] H1 Q
def tBM (K : PySem.W.Frag) (T : String) (r : V → List V → Hp → VK → Prop) (to : TE) (t : TA) : TE := fun σ H Q => to σ H fun x H1 => tyV K T x H1 ∧ t σ H1 fun xs H2 => r x xs H2 Q
variable {o e : Expr} {es : List Expr} {to : TE} {t : TA} {name : Str} {apos cpos : Pos} {T id : String} {r : V → List V → Hp → VK → Prop}
theorem pe_bm (pa : PlainAttrs T) (slot : Slot T name id) (hty : typeOf (.builtin id) = pure (.type "method_descriptor")) (hm : MtR X id r) (ho : PE X o to) (ha : PA X (e :: es) t)
    (hbase : attributeBase o name X.env (eval o X.env) = eval o X.env := by rfl)
    (hfew : ((backTo cpos (starEach (e :: es) X.env)).all (fun x => !x.1) && (backToKw cpos (keywordEach [] X.env)).all (fun x => x.1.isSome)
      && decide ((e :: es).length + ([] : List Keyword).length + (if ([] : List Keyword).isEmpty then 0 else 1) < 30)) = true := by rfl)
    (hline : (apos.endLine == cpos.line) = true := by rfl) (hs : starEach (e :: es) X.env = (false, eval e X.env) :: starEach es X.env := by rfl) (hplain : (backTo cpos (starEach es X.env)).any (·.1) = false := by rfl) :
    PE X (.Call (.Attribute o name apos) (e :: es) [] cpos) (tBM X.K T r to t) := by
  intro pins s σ H Q I h
  refine wpAny_Call_method_late hbase hfew hline rfl (thn (ho pins s σ H _ I h) fun v s1 ⟨x, H1, I1, r1, ty, q1⟩ => ?_)
  obtain ⟨h1, h2⟩ := tyV_is I1 r1 ty
  refine ⟨T, id, pa, slot, hty, h1, h2, ?_⟩
  have hA := ha cpos pins s1 σ H1 _ I1 q1
  rw [hs] at hA ⊢
  refine Calls.callWith_builtin (by show (false || (backTo cpos (starEach es X.env)).any (·.1)) = false; rw [hplain] <;> rfl) (Calls.evalArgs_plain ?_)
  exact thn hA fun us s2 ⟨vs, H2, I2, r2, q2⟩ => hm pins s2 σ H2 x vs v us Q I2 r1 r2 q2
/- xs.append(e), list.index on a module's tuple .. are MtR facts of 06m -/
end
end L2

namespace L2
open PySem PySem.Spec PyProof.Rows

def MtM (X : Cx) (id : String) (r : V → List V → Hp → VK → Prop) : Prop :=
  ∀ (pins : List (Addr × Obj)) (s : Shared) (σ : St) (H : Hp) (x : V) (xs : List V) (v : Value) (us : List Value) (Q : VK), Inv X pins σ H s → RelV x v → Vals xs us → r x xs H Q →
    wpAny (model X.prog X.w) X.A (call (.builtin id) (v :: us)) (EP X pins σ Q) X.xe s

/-! ### lists of values -/
theorem Vals.one : ∀ {x : V} {us : List Value}, Vals [x] us → ∃ u, us = [u] ∧ RelV x u
  | _, _, .cons r .nil => ⟨_, rfl, r⟩
theorem Vals.two : ∀ {x y : V} {us : List Value}, Vals [x, y] us → ∃ u v, us = [u, v] ∧ RelV x u ∧ RelV y v
  | _, _, _, .cons r (.cons q .nil) => ⟨_, _, rfl, r, q⟩
theorem Vals.zero : ∀ {us : List Value}, Vals [] us → us = []
  | _, .nil => rfl
theorem Vals.dropLast {xs : List V} {us : List Value} (h : Vals xs us) : Vals xs.dropLast us.dropLast := by
  induction h with
  | nil => exact .nil
  | cons r t ih =>
    cases t with
    | nil => exact .nil
    | cons q t' => exact .cons r ih
theorem Vals.eraseIdx : ∀ {xs : List V} {us : List Value} (i : Nat), Vals xs us → Vals (xs.eraseIdx i) (us.eraseIdx i)
  | _, _, _, .nil => .nil
  | _, _, 0, .cons _ t => t
  | _, _, i + 1, .cons r t => .cons r (Vals.eraseIdx i t)
theorem Vals.reverse {xs : List V} {us : List Value} (h : Vals xs us) : Vals xs.reverse us.reverse := by
  induction h with
  | nil => exact .nil
  | cons r t ih => rw [List.reverse_cons, List.reverse_cons]; exact Vals.append ih (.cons r .nil)
theorem Vals.rep {xs : List V} {us : List Value} (h : Vals xs us) : ∀ k : Nat, Vals (List.replicate k xs).flatten (List.replicate k us).flatten
  | 0 => .nil
  | k + 1 => by
    rw [List.replicate_succ, List.replicate_succ, List.flatten_cons, List.flatten_cons]
    exact Vals.append h (Vals.rep h k)
section
variable {X : Cx} {pins : List (Addr × Obj)} {σ : St} {H : Hp} {s : Shared} {l b : Addr} {xs ys zs : List V}

/-! ### the two steps: a tracked list is rewritten, a new list is laid -/
theorem Inv.lset {its its' : List Value} {n : Nat} {f : Array Value → Array Value} {t' : Nat} (I : Inv X pins σ H s) (hH : H l = some (.lst xs))
    (e : s.heap.get? l = some { cls := .type "list", data := .seq its.toArray n }) (hf : f its.toArray = its'.toArray) (hv : Vals ys its') (hz : ys.length ≤ sizeLine) :
    Inv X pins σ (upd H l (.lst ys)) { s with heap := s.heap.update l (Obj.mapSeq f), toks := t' } := by
  have q := PySem.IsL.update e f
  rw [hf] at q
  refine I.write (x := l) (e := l) (by rw [hH]; exact trivial) (.inl rfl) (fun b' u hb hu => (Heap.get?_update_other s.heap (Obj.mapSeq f) (Ne.symm hb)).trans hu) ⟨_, q⟩ ?_
  exact ⟨hz, its', _, hv, q⟩
theorem Inv.lnew {its : List Value} {t' : Nat} (I : Inv X pins σ H s) (hv : Vals ys its) (hz : ys.length ≤ sizeLine) :
    Inv X pins σ (upd H s.heap.objs.size (.lst ys)) { s with heap := s.heap.push { cls := .type "list", data := .seq its.toArray }, toks := t' } :=
  I.laid (fun _ _ q => Heap.get?_push_of_some _ q) (Nat.le_refl _) ⟨hz, its, 0, hv, Heap.get?_push_size _ rfl⟩
theorem Inv.fresh (I : Inv X pins σ H s) : H s.heap.objs.size = none := I.hok.fresh (Nat.le_refl _)
theorem Inv.lstM (I : Inv X pins σ H s) (hH : H l = some (.lst xs)) : xs.length ≤ sizeLine ∧ ∃ (its : List Value) (n : Nat), Vals xs its ∧ xs.length = its.length ∧ s.heap.get? l = some { cls := .type "list", data := .seq its.toArray n } := by
  obtain ⟨z, its, n, r, e⟩ := I.hok l _ hH
  exact ⟨z, its, n, r, r.length, e⟩

end

section
variable {X : Cx}

/-! ### methods -/
def rAppend : V → List V → Hp → VK → Prop := fun x vs H Q => ∃ l xs y, x = .ref l ∧ vs = [y] ∧ H l = some (.lst xs) ∧ xs.length < sizeLine ∧ Q .non (upd H l (.lst (xs ++ [y])))
theorem mt_append : MtM X "list.append" rAppend := by
  intro pins s σ H x vs v us Q I rx rv h
  obtain ⟨l, xs, y, rfl, rfl, hH, hz, q⟩ := h
  cases rx
  obtain ⟨u, rfl, ru⟩ := rv.one
  obtain ⟨z, its, n, r, hl, e⟩ := I.lstM hH
  refine call_meets F.slot_list_append ⟨_, e, rfl⟩ F.entry_list_append (F.args_list_append_2 _ _) (PySem.list_append l its.toArray n u (by rw [List.size_toArray]; omega)) ⟨e, ?_⟩
  refine ⟨.non, _, I.lset (its' := its ++ [u]) hH e (by simp) (r.append (.cons ru .nil)) ?_, rfl, q⟩
  rw [List.length_append, List.length_singleton]
  omega

def rExtend : V → List V → Hp → VK → Prop := fun x vs H Q => ∃ l b xs zs, x = .ref l ∧ vs = [.ref b] ∧ H l = some (.lst xs) ∧ H b = some (.lst zs) ∧ xs.length + zs.length ≤ sizeLine ∧ Q .non (upd H l (.lst (xs ++ zs)))
def rPop : V → List V → Hp → VK → Prop := fun x vs H Q => ∃ l xs y, x = .ref l ∧ vs = [] ∧ H l = some (.lst xs) ∧ xs[xs.length - 1]? = some y ∧ Q y (upd H l (.lst xs.dropLast))
def rPopAt : V → List V → Hp → VK → Prop := fun x vs H Q => ∃ l xs i k y, x = .ref l ∧ vs = [.int i] ∧ H l = some (.lst xs) ∧ -(2 ^ 63) ≤ i ∧ i < 2 ^ 63 ∧ seqIndex? i xs.length = some k ∧ xs[k]? = some y ∧ Q y (upd H l (.lst (xs.eraseIdx k)))
def rReverse : V → List V → Hp → VK → Prop := fun x vs H Q => ∃ l xs, x = .ref l ∧ vs = [] ∧ H l = some (.lst xs) ∧ Q .non (upd H l (.lst xs.reverse))
def rClear : V → List V → Hp → VK → Prop := fun x vs H Q => ∃ l xs, x = .ref l ∧ vs = [] ∧ H l = some (.lst xs) ∧ Q .non (upd H l (.lst []))
/-! ### list + list, list += list, list * int -/
def rCat : R2 := fun x y H Q => ∃ l b xs zs, x = .ref l ∧ y = .ref b ∧ H l = some (.lst xs) ∧ H b = some (.lst zs) ∧ xs.length + zs.length ≤ sizeLine ∧ ∀ p, H p = none → Q (.ref p) (upd H p (.lst (xs ++ zs)))
theorem op_cat : OpR X (binaryOp .Add) rCat := by
  intro pins s σ H x y v u Q I rx ry h
  obtain ⟨l, b, xs, zs, rfl, rfl, hH, hB, hz, q⟩ := h
  cases rx
  cases ry
  obtain ⟨z, its, n, r, hl, e⟩ := I.lstM hH
  obtain ⟨z2, its2, n2, r2, hl2, e2⟩ := I.lstM hB
  refine PySem.P.add_list e e2 ?_ (by rw [List.size_toArray, List.size_toArray]; omega)
  have ea : its.toArray ++ its2.toArray = (its ++ its2).toArray := by simp
  rw [ea]
  exact ⟨.ref _, _, I.lnew (t' := s.toks) (r.append r2) (by rw [List.length_append]; omega), rfl, q _ I.fresh⟩
/-- a list times an int (a negative one is nothing) -/
def rRep : R2 := fun x y H Q => ∃ l k xs, x = .ref l ∧ y = .int k ∧ H l = some (.lst xs) ∧ -(2 ^ 63) ≤ k ∧ k < 2 ^ 63 ∧ xs.length * k.toNat ≤ sizeLine ∧
  ∀ p, H p = none → Q (.ref p) (upd H p (.lst (List.replicate k.toNat xs).flatten))
/-! ### del xs[i] -/
end

/-! ### xs[a:b] = ys -/
section
variable {prog : Program} {w : World} {A : Around} {E : Value → Shared → Prop} {s : Shared}
set_option maxRecDepth 100000 in
end

section
variable {X : Cx}
end
end L2

namespace Att
open PySem PySem.W PySem.Calls PyProof.Rows

/-! ### the script -/
theorem ints_of_wellAll {P : Params} {h : Heap} : ∀ (ns : List Int) (vs : List Value), WellAll P h vs (ns.map WData.int) → IntsAre vs ns := by
  intro ns
  induction ns with
  | nil =>
    intro vs w
    rw [List.map_nil] at w
    cases w
    exact .nil
  | cons n ns ih =>
    intro vs w
    rw [List.map_cons] at w
    cases w with
    | cons a b =>
      cases a
      exact .cons _ _ (ih _ b)

theorem script_of {l : OpenLaw} {n : Nat} (hn : l.most = some n) {P : Params} {h : Heap} {args : List WData} {vals : List Value}
    (hpre : l.row.toRowW.claim.pre args = true) (hwl : WellAll P h vals args) :
    ∃ a vs ns, vals = [Value.ref a] ∧ args = [WData.list (ns.map WData.int)] ∧ h.get? a = some { cls := .type "list", data := .seq vs.toArray } ∧ IntsAre vs ns ∧ ns.length ≤ n := by
  have hsh : WShape.hasAll [] args [.list .int] = true := (pre_splitW hpre).1
  have hc : l.pre.holds [] { args := args } = true := (pre_splitW hpre).2
  obtain ⟨d, r, rfl, h1, h2⟩ := hasAllW_cons hsh
  obtain rfl := hasAllW_nil h2
  obtain ⟨xs, rfl, h3⟩ := hasW_list h1
  obtain ⟨ns, rfl⟩ := items_int h3
  have hlen : ns.length ≤ n := by
    unfold OpenLaw.pre at hc
    have h4 : (WTm.not (.lt (.lit (.int (n : Int))) (.len (.arg 0)))).holds [] { args := [.list (ns.map .int)] } = true := by
      have h4 := (holds_andW hc).1
      rw [hn] at h4
      exact h4
    have h5 := condW_of h4 (w_not (w_lt w_lit (w_len_list (w_arg rfl))))
    rw [List.length_map] at h5
    refine Nat.le_of_not_lt fun q => ?_
    have q' : (n : Int) < ((ns.length : Nat) : Int) := by omega
    first
      | (rw [decide_eq_true q'] at h5; exact absurd h5 (by decide))
      | (simp at h5; omega)
  cases hwl with
  | cons w1 w2 =>
    cases w2
    cases w1 with
    | list ho hall => exact ⟨_, _, ns, rfl, rfl, ho, ints_of_wellAll ns _ hall, hlen⟩

theorem post_true (l : OpenLaw) (args : List WData) : l.row.toRowW.claim.post args (.bool true) args = true :=
  postW_of (r := l.row.toRowW) (X := (true == true))
    (show WShape.has [] (.bool true) .bool = true by first | rfl | decide | simp [WShape.has, WShape.arms, WShape.armsAll])
    (show (WTm.eq .res (.lit (.bool true))).value [] { args := args, res := some (.bool true), after := args } = some (.bool (true == true)) from w_eq_bool (w_res rfl) w_lit) rfl

/-! ### the attachment: holds_open's last premise (the goal 'hc' behind k_head) from a wpAny of the law's body -/
/-- the same from a codeAny of the CALL (for a layer whose function contracts speak of calls) -/
theorem attach_call {l : OpenLaw} {n : Nat} {q : Program} {loose : List Str} {XP : (Str → Option Value) → Heap → Prop} {YP : World → Heap → Prop} {d : DefRec}
    (hn : l.most = some n) (hdf : d.params.defaults = [])
    (call : ∀ (w : World) (s₀ s₁ : Shared) (mg mb : Str → Option Value) (fa : Addr) (o : Obj) (pm cd doc : Value) (a : Addr) (vs : List Value) (ns : List Int),
      Ground q loose [] XP w s₀ mg mb s₁.heap → YP w s₁.heap →
      s₁.heap.get? fa = some o → o.data = .func (docDef d.name d.params d.body d.scope pm cd doc) → s₁.heap.CodeRec cd d.name → mg d.name = some (.ref fa) →
      s₁.heap.get? a = some { cls := .type "list", data := .seq vs.toArray } → IntsAre vs ns → ns.length ≤ n → s₁.gens = #[] →
      codeAny (model l.prog w) callerA (.call (.ref fa) ⟨[.ref a], []⟩) (fun r s' => r = .ok (.ret (.bool true)) ∧ OldK s₁.heap s'.heap ∧ s'.os = s₁.os ∧ AllBare s'.gens) s₁) :
    WalkO q loose XP YP l.row.toRowW d [] (fun f vs => PySem.call f vs) := by
  intro w s₀ s₁ mg mb G Y fa o pm cd doc dV kV ho hd hcd hD hmg hg args vals as hpre hlay hrd hwl hlo
  obtain rfl : dV = .none := Dflts.none hD hdf
  obtain rfl : kV = .none := Dflts.noKw hD
  obtain ⟨a, vs, ns, rfl, rfl, hobj, hints, hlen⟩ := script_of hn hpre hwl
  refine enter_call (codeAny_mono (call w s₀ s₁ mg mb fa o pm cd doc a vs ns G Y ho (fd_plain hd) hcd hmg hobj hints hlen hg) fun r s' hq => ?_)
  obtain ⟨rfl, h2, h3, h4⟩ := hq
  exact ⟨.inl ⟨.bool true, .bool true, [], rfl, fun _ => rfl, .bool true, post_true l _, fun _ => ⟨List.Pairwise.nil, fun _ hm => (nomatch hm)⟩⟩, h2, h3, h4⟩

/-! ### rules over ANY heap (no ledger) from facts about the written part K: the library's own take a ledger (News) for what they write -/
section
variable {prog : Program} {w : World} {A : Around} {E : Value → Shared → Prop} {s : Shared} {K : Frag}

/-! the whole heap as the ledger: makes every rule that writes through a ledger a rule over any heap -/
def noObjs (h : Heap) : Heap := { h with objs := #[] }
theorem noObjs_get (h : Heap) (b : Addr) : (noObjs h).get? b = none := by
  cases e : (noObjs h).get? b with
  | none => rfl
  | some o => exact absurd (Heap.lt_size e) (Nat.not_lt_zero _)
def ledger (h : Heap) (L d : Addr) : List (Addr × Obj) := (List.range h.objs.size).filterMap fun a => if a = L ∨ a = d then none else (h.get? a).map fun o => (a, o)
theorem mem_ledger {h : Heap} {L d a : Addr} {o : Obj} : (a, o) ∈ ledger h L d ↔ a ≠ L ∧ a ≠ d ∧ h.get? a = some o := by
  unfold ledger
  rw [List.mem_filterMap]
  constructor
  · rintro ⟨b, _, e⟩
    split at e
    · cases e
    · rename_i hb
      obtain ⟨o', ho, e'⟩ := Option.map_eq_some_iff.mp e
      cases e'
      exact ⟨fun q => hb (.inl q), fun q => hb (.inr q), ho⟩
  · rintro ⟨n1, n2, ho⟩
    refine ⟨a, List.mem_range.mpr (Heap.lt_size ho), ?_⟩
    rw [if_neg (show ¬ (a = L ∨ a = d) from fun q => q.elim n1 n2), ho] <;> rfl
theorem news_ledger {h : Heap} {L d : Addr} {od : Obj} (hne : d ≠ L) (ho : h.get? d = some od) : News (noObjs h) L h ([] ++ (d, od) :: ledger h L d) := by
  rintro ⟨a, o⟩ hp
  rcases List.mem_cons.mp hp with e | hp
  · cases e
    exact ⟨ho, hne, noObjs_get _ _⟩
  · obtain ⟨n1, n2, e⟩ := mem_ledger.mp hp
    exact ⟨e, n1, noObjs_get _ _⟩
theorem fr_all {h : Heap} {L : Addr} {m : Str → Option Value} (n : h.Ns L m) : Fr (noObjs h) L h m :=
  ⟨n, fun b o e => (by rw [noObjs_get] at e; cases e), Nat.zero_le _⟩
/-- x.name = v over any heap: L is any namespace of the heap (the frame's, say): its map stays, its object is not told; all else but the dict stays -/
theorem set_field {x C dx L : Addr} {ox : Obj} {m : Str → Option Value} {es es' : List DictEntry} {n n' : Nat} {name : Str} {v : Value} {Q : Unit → Shared → Prop}
    (X : K.In s.heap) (I : PySem.W.InstAt s.heap x ox C (some (dictOf es n))) (hd : ox.dict = some dx) (hL : s.heap.Ns L m) (hne : dx ≠ L)
    (hs : findIn K (.ref C) "__setattr__" = some (some (.builtin "object.__setattr__"))) (hp : plainOver K C = true) (ht : takerIn K C name = some none) (hh : hasDictIn K C = true) (hl : (getL name es).isSome = true)
    (e : (putL name (PyData.keyHash w.params name) (.str name (s.toks + 1)) v es, putN name es n) = (es', n')) (hz : es'.length ≤ 1000)
    (h : ∀ h' : Heap, h'.Ns L m → h'.get? dx = some (dictOf es' n') → (∀ b o, b ≠ dx → b ≠ L → s.heap.get? b = some o → h'.get? b = some o) → Q () { s with heap := h', toks := s.toks + 2 }) :
    wpAny (model prog w) A (setAttr (.ref x) name v) Q E s := by
  obtain ⟨e1, e2⟩ := Prod.mk.inj e
  have hdx : s.heap.get? dx = some (dictOf es n) := by
    have := I.dict
    rw [hd] at this
    exact this
  refine set_plain X I hs (osa_dict (s := { s with toks := s.toks + 1 }) (h₀ := noObjs s.heap) (L := L) (m := m) (od := dictOf es n) (od' := dictOf es' n') (es := es') (n := n') (pre := []) (post := ledger s.heap L dx)
    (fr_all hL) (news_ledger hne hdx) X I hd hp ht hh hl (fun _ q => nomatch q) (fun ⟨_, _⟩ q => (mem_ledger.mp q).2.1) (by rw [putName_dict, e1, e2]) rfl hz fun h' F' N' => ?_)
  exact h h' F'.ns (N'.get (List.Mem.head _)) fun b o n1 n2 ho => N'.get (List.Mem.tail _ (mem_ledger.mpr ⟨n2, n1, ho⟩))
end
end Att

namespace L2
open PySem PySem.Spec PyProof.Rows

theorem vals_ints : ∀ {vs : List Value} {ns : List Int}, IntsAre vs ns → Vals (ns.map V.int) vs
  | _, _, .nil => .nil
  | _, _, .cons n t h => .cons ⟨t, rfl⟩ (vals_ints h)

/-- nothing is tracked but the script, known to the object (or it is an object of the module) -/
def Only (H : Hp) : Prop := ∀ b, H b = none ∨ ∃ o xs, H b = some (.frz o (.lst xs))

/-- THE HEAD: the law's promise, at the heap behind the top. F, the promise of the law's def, may use that base is part of the heap (so K.In base, base.Ns mainGlobals mg stand in Mod) -/
theorem law_call {P : Program} {w : World} {K : PySem.W.Frag} {mg mb : Str → Option Value} {CX : CXT} {k : Nat} {fa a : Addr} {fd : FuncData} {x : Str} {sp : Sp} {s₁ : Shared} {vs : List Value} {ns : List Int}
    (KX : K.In s₁.heap) (hns : s₁.heap.Ns mainGlobals mg) (hb : s₁.heap.Ns builtinsNs mb) (hbb : ∀ x : Str, x ≠ "__name__" → mb x = bootBuiltins x) (hlim : s₁.heap.NoLimit) (hg : s₁.gens = #[])
    (ha : s₁.heap.get? a = some { cls := .type "list", data := .seq vs.toArray }) (hi : IntsAre vs ns) (hl : ns.length ≤ sizeLine) (hr : Room k callerA)
    (F : ∀ base : Heap, K.In base → base.Ns mainGlobals mg → FnOk P w K mg base CX k fa fd [x] sp) (hbind : ∀ (s : Shared) (u : Value), BindsTo s fd ⟨[u], []⟩ [(x, u)])
    (hsp : ∀ H : Hp, Only H → SqL K H a (ns.map V.int) → sp [.ref a] H (fun v _ => v = .bl true) fun _ _ _ => False)
    (hCX : ∀ H e s', CX [] H s₁ (fun _ _ _ => False) e s' → False) :
    codeAny (model P w) callerA (.call (.ref fa) ⟨[.ref a], []⟩) (fun r s' => r = .ok (.ret (.bool true)) ∧ OldK s₁.heap s'.heap ∧ s'.os = s₁.os ∧ AllBare s'.gens) s₁ := by
  have rv := vals_ints hi
  have lenV := hi.length
  -- from an abstract heap in which nothing but the script may be tracked
  have core : ∀ H : Hp, Only H → SqL K H a (ns.map V.int) → HOk P w H s₁.heap → (∀ b, H b ≠ none → b = a) → (H a ≠ none → K.lookup a = none) →
      codeAny (model P w) callerA (.call (.ref fa) ⟨[.ref a], []⟩) (fun r s' => r = .ok (.ret (.bool true)) ∧ OldK s₁.heap s'.heap ∧ s'.os = s₁.os ∧ AllBare s'.gens) s₁ := by
    intro H hO hS hok hA hK
    have base_of : ∀ {b : Addr} {o : Obj}, s₁.heap.get? b = some o → H b = none → (hidT s₁.heap H).get? b = some o := fun e n => hidT_get e n
    have noA : ∀ {b : Addr} {o : Obj} {es : Array DictEntry} {ep : Nat}, s₁.heap.get? b = some o → o.data = .dict es ep → H b = none := fun {b o es ep} e d => by
      cases q : H b with
      | none => rfl
      | some u =>
        have e' : b = a := hA b (by rw [q]; simp)
        subst e'
        rw [ha] at e; cases e
        have d' : Data.seq vs.toArray _ = Data.dict es ep := d
        cases d'
    have nsK : ∀ {b : Addr} {m : Str → Option Value}, s₁.heap.Ns b m → (hidT s₁.heap H).Ns b m := fun {b m} ⟨o, es, ep, e, d, r⟩ => ⟨o, es, ep, base_of e (noA e d), d, r⟩
    have hKb : K.In (hidT s₁.heap H) := fun b o e => base_of (KX b o e) (by
      cases q : H b with
      | none => rfl
      | some u =>
        have e' : b = a := hA b (by rw [q]; simp)
        subst e'
        rw [hK (by rw [q]; simp)] at e; cases e)
    have hM : Mod K mg (hidT s₁.heap H) := ⟨hKb, nsK hns, ⟨mb, nsK hb, hbb⟩, let ⟨mc, h1, h2⟩ := hlim; ⟨mc, nsK h1, h2⟩⟩
    have e0 : Env0 P w K mg (hidT s₁.heap H) callerA [] s₁ H := ⟨rfl, hM, fun b o e => of_hidT e, Nat.le_of_eq (hidT_size _ _), trivial, fun b hb => absurd (show b ∈ ([] : List Addr) from hb) (by simp), hok, .of_eq hg⟩
    refine codeAny_mono ((F _ hKb (nsK hns)).run callerA [] s₁ H ⟨[.ref a], []⟩ [.ref a] [.ref a] _ _ hr e0 (hbind s₁ (.ref a)) (.cons rfl .nil) (hsp H hO hS)) fun r s' h => ?_
    cases r with
    | error e => exact (hCX H e s' h).elim
    | ok fl =>
      cases fl with
      | next => exact False.elim h
      | brk => exact False.elim h
      | cont => exact False.elim h
      | ret u =>
        obtain ⟨v, H', os, bare, un, hok', r', q⟩ := h
        have q' : v = .bl true := q
        subst q'
        obtain rfl : u = Value.bool true := r'
        refine ⟨rfl, OldK.of_keep fun b o e => ?_, os, bare⟩
        cases q : H b with
        | none => exact un.keep b o e q (by intro z; exact absurd (show b ∈ ([] : List Addr) from z) (by simp)) (by simp)
        | some u =>
          rcases hO b with z | ⟨ob, xs, z⟩
          · rw [q] at z; cases z
          · have z2 := un.frzs b ob _ z
            obtain ⟨e1, _⟩ := hok b _ z
            obtain ⟨e2, _⟩ := hok' b _ z2
            rw [e] at e1; cases e1
            exact e2
  cases hk : K.lookup a with
  | some o =>
    -- the script is one of the module's own objects
    have e := KX a o hk
    rw [ha] at e
    cases e
    refine core (fun _ => none) (fun _ => .inl rfl) (.inr ⟨_, vs.toArray, _, hk, rfl, rfl, rfl, by rw [List.size_toArray, lenV]; exact hl, by simpa using rv⟩) (fun b u z => by have z' : (none : Option HO) = some u := z; cases z') (fun b z => absurd rfl z) fun z => absurd rfl z
  | none =>
    refine core (fun b => if b = a then some (.frz { cls := .type "list", data := .seq vs.toArray } (.lst (ns.map V.int))) else none) (fun b => ?_) (.inl (.inr ⟨{ cls := .type "list", data := .seq vs.toArray }, if_pos rfl⟩)) (fun b u z => ?_) (fun b z => ?_) fun _ => hk
    · by_cases hb : b = a
      · exact .inr ⟨_, _, if_pos hb⟩
      · exact .inl (if_neg hb)
    · by_cases hb : b = a
      · have z' := (if_pos hb).symm.trans z
        cases z'
        subst hb
        exact ⟨ha, by rw [List.length_map]; exact hl, vs, _, rv, ha⟩
      · have z' := (if_neg hb).symm.trans z
        cases z'
    · by_cases hb : b = a
      · exact hb
      · exact absurd (if_neg hb) z
end L2

namespace L2
open PySem PySem.Spec PyProof.Rows

abbrev KOf {K : PySem.W.Frag} {h : Heap} (_ : K.In h) : PySem.W.Frag := K

/-- the goal that k_head leaves (case hc), from the law's promise. F gives the function object fd (K's own) once, then the promise over every base -/
theorem walk_of {l : PySem.W.OpenLaw} {n k : Nat} {q : Program} {loose : List Str} {XP : (Str → Option Value) → Heap → Prop} {YP : World → Heap → Prop} {d : DefRec} {K : Params → PySem.W.Frag} {CX : World → CXT} {sp : World → Sp} {x : Str}
    (hn : l.most = some n) (hn2 : n ≤ sizeLine) (hdf : d.params.defaults = []) (hr : Room k callerA)
    (hY : ∀ (w : World) (h : Heap), YP w h → (K w.params).In h)
    (F : ∀ (w : World) (mg : Str → Option Value) (fa : Addr) (h : Heap), (K w.params).In h → h.Ns mainGlobals mg → mg d.name = some (.ref fa) →
      ∃ fd : FuncData, (∀ (s : Shared) (u : Value), BindsTo s fd ⟨[u], []⟩ [(x, u)]) ∧
        ∀ base : Heap, (K w.params).In base → base.Ns mainGlobals mg → FnOk l.prog w (K w.params) mg base (CX w) k fa fd [x] (sp w))
    (hsp : ∀ (w : World) (H : Hp) (a : Addr) (ns : List Int), ns.length ≤ n → Only H → SqL (K w.params) H a (ns.map V.int) → sp w [.ref a] H (fun v _ => v = .bl true) fun _ _ _ => False)
    (hCX : ∀ (w : World) (H : Hp) (s : Shared) (e : Value) (s' : Shared), CX w [] H s (fun _ _ _ => False) e s' → False) :
    PySem.W.WalkO q loose XP YP l.row.toRowW d [] (fun f vs => PySem.call f vs) := by
  refine Att.attach_call hn hdf fun w s₀ s₁ mg mb fa o pm cd doc a vs ns G Y ho hd hcd hmg hobj hints hlen hg => ?_
  have KX := hY w _ Y
  obtain ⟨fd, hb, hF⟩ := F w mg fa _ KX G.T.g hmg
  exact law_call KX G.T.g G.T.b G.T.builtins G.T.nolimit hg hobj hints (Nat.le_trans hlen hn2) hr hF hb (fun H hO hS => hsp w H a ns hlen hO hS) fun H e s' => hCX w H s₁ e s'
end L2

/- THE LAST THEOREM (shape; LID, My.* are yours):
   My.Adr: a structure of the addresses that your layer names (classes, functions); My.Txt K t: a structure (Prop) of the equations over K;
   My.txt_mk : {K} {implicit addresses ..} (e1 : nsIn K mainGlobals "law" = some (some (.ref f))) (e2 : K.lookup f = some ⟨oc, od, .func (fnOf "law" "law" params body scope dV kV doc pm an cdv ct), sl⟩) (e3 : codeIn K cdv "law" = true) .. : ∃ t, My.Txt K t

set_option maxRecDepth 100000 in
set_option maxHeartbeats 0 in
theorem PySem.Challenge.cw_LID_holds : PySem.Challenge.rw_LID.Holds := by
  w_on; o_law; k_head; (case hw => w_witness2)
  k_fill
  refine L2.walk_of (l := PySem.Challenge.rw_LID) (n := 63) (k := 40) (x := "script") (CX := fun w => ..) (sp := fun _ => My.sp_law) rfl (by decide) rfl ⟨rfl, by decide, by decide⟩ (fun w h Y => PySem.W.kIn_of Y) ?F ?S ?C
  case F =>
    intro w mg fa h KX G hmg
    have T : ∃ t, My.Txt (L2.KOf KX) t := by
      dsimp only [L2.KOf]                          -- K must stand as «<heap const> w.params» for k_is
      refine' My.txt_mk ?e1 ?e2 ?e3 ..
      (case e1 => PySem.W.k_is)                    -- in the order: a name -> its address -> its object -> its parts
      (case e2 => PySem.W.k_is)
      ..
    obtain ⟨t, T⟩ := T
    have e0 := hmg.symm.trans (PySem.W.mg_of KX G T.law)
    cases e0                                       -- fa is the law's own address
    exact ⟨_, fun s u => .of_eq rfl, fun base kb nb => My.law_fn T kb nb⟩     -- if «.of_eq rfl» comes too early: refine' ⟨_, ?b, fun base kb nb => My.law_fn T kb nb⟩; exact fun s u => .of_eq rfl
  case S => exact fun w H a ns hl hO hS => ..
  case C => exact ..
(the tactic k_is has no namespace: write k_is) -/

/-! SHORT WORDS over the layer: a def of the text, its body, what a loop and a test want. -/
namespace L2
open PySem PySem.Spec PyProof.Rows

/-! ### the text by places -/
/-- the j-th statement of a class's body -/
def inClass (s : Stmt) (j : Nat) : Stmt := match s with
  | .ClassDef _ _ _ body _ _ _ _ _ _ _ => body.getD j (.Pass ⟨0, 0, 0, 0⟩)
  | _ => .Pass ⟨0, 0, 0, 0⟩
def defArgs (s : Stmt) : Arguments := match s with
  | .FunctionDef _ a _ _ _ _ _ _ _ _ => a
  | _ => { posonlyargs := [], args := [], vararg := none, kwonlyargs := [], kw_defaults := [], kwarg := none, defaults := [] }
def defBody (s : Stmt) : List Stmt := match s with
  | .FunctionDef _ _ b _ _ _ _ _ _ _ => b
  | _ => []
def defScope (s : Stmt) : Scope := match s with
  | .FunctionDef _ _ _ _ _ _ sc _ _ _ => sc
  | _ => { kind := .function, names := [], isGenerator := false, isCoroutine := false }

/-! ### no exception leaves a def -/
abbrev CX0 : CXT := fun _ _ _ _ _ _ => False
abbrev E0 : XK := fun _ _ _ => False
/-! ### a def (or method) of the text as it stands behind the top -/
structure Fun (K : PySem.W.Frag) (x qual : Str) (st : Stmt) (f : Addr) (fd : FuncData) : Prop where
  ex : ∃ (oc : Value) (od : Option Addr) (kV doc pm : Value) (an : Option Addr) (cdv ct : Value) (osl : Array (Option Value)),
    fd = PySem.W.fnOf x qual (defArgs st) (defBody st) (defScope st) .none kV doc pm an cdv ct ∧ K.lookup f = some ⟨oc, od, .func fd, osl⟩ ∧ PySem.W.codeIn K cdv qual = true
  kp : PySem.W.keepIn K (.ref f) = true
section
variable {P : Program} {w : World} {K : PySem.W.Frag} {mg : Str → Option Value} {base : Heap}
/-- THE RULE for a def: its body as a term of rules, and the reading of that term -/
theorem Fun.ok {x qual : Str} {st : Stmt} {f : Addr} {fd : FuncData} {N ps : List Str} {k : Nat} {sp : Sp} (F : Fun K x qual st f fd) (S : FnScope N ps (defScope st)) (len : ∀ vs H Q E, sp vs H Q E → vs.length = ps.length)
    (hbody : ∀ (cdv : Value) (A : Around) (outer : List Env) (s : Shared) (H : Hp) (vs : List V) (Q : VK) (E : XK), Room k (A.deeper (envOfC qual (defScope st) s.heap.objs.size f cdv)) → sp vs H Q E →
      ∃ t, PSs (cxOf CX0 P w K mg base N qual (defScope st) f cdv A outer s H E).nox (defBody st) t ∧ t { nx := fun _ H' => Q .non H', rt := Q } (start N vs) H) : FnOk P w K mg base CX0 (k + 1) f fd ps sp := by
  obtain ⟨oc, od, kV, doc, pm, an, cdv, ct, osl, rfl, lk, hcd⟩ := F.ex
  refine fn_of lk hcd S len fun A outer s H vs Q E hr hsp => ?_
  obtain ⟨t, h, q⟩ := hbody cdv A outer s H vs Q E hr hsp
  exact ⟨t, h.nox, q⟩
/-- how its arguments bind (no defaults): h is «fun _ _ _ _ _ _ us hl => match us, hl with | [_, _], _ => rfl», one _ a parameter -/
theorem Fun.binds {x qual : Str} {st : Stmt} {f : Addr} {fd : FuncData} {ps : List Str} (F : Fun K x qual st f fd)
    (h : ∀ (kV doc pm : Value) (an : Option Addr) (cdv ct : Value) (us : List Value), us.length = ps.length → bindArgs (PySem.W.fnOf x qual (defArgs st) (defBody st) (defScope st) .none kV doc pm an cdv ct) ⟨us, []⟩ = pure (ps.zip us)) : Binds K fd ps [] := by
  obtain ⟨oc, od, kV, doc, pm, an, cdv, ct, osl, rfl, lk, hcd⟩ := F.ex
  exact .all (h kV doc pm an cdv ct)
theorem fun_mk {x qual : Str} {st : Stmt} {f : Addr} {oc : Value} {od an : Option Addr} {osl : Array (Option Value)} {kV doc pm cdv ct : Value} (l : K.lookup f = some ⟨oc, od, .func (PySem.W.fnOf x qual (defArgs st) (defBody st) (defScope st) .none kV doc pm an cdv ct), osl⟩)
    (c : PySem.W.codeIn K cdv qual = true) (k : PySem.W.keepIn K (.ref f) = true) : Fun K x qual st f (PySem.W.fnOf x qual (defArgs st) (defBody st) (defScope st) .none kV doc pm an cdv ct) := ⟨⟨oc, od, kV, doc, pm, an, cdv, ct, osl, rfl, l, c⟩, k⟩
end
/-! ### expressions in short: the name that stands in the i-th slot -/
section
variable {X : Cx}
theorem pv (i : Nat) {x : Str} {pos : Pos} (hN : X.N[i]? = some x := by rfl) (hv : Vis X.env.scope x := by first | exact Or.inl rfl | exact Or.inr (Or.inl rfl) | exact Or.inr (Or.inr rfl)) (hd : (x == ("__debug__" : Str)) = false := by decide)
    (hcd : (x == ("__classdict__" : Str)) = false := by decide) : PE X (.Name x pos) (tVar i) := pe_var hN hv hd hcd
end

/-! ### tests -/
theorem iteF {A B : Prop} (h : B) : if false = true then A else B := by
  rw [if_neg Bool.false_ne_true]
  exact h
theorem iteT {A B : Prop} (h : A) : if true = true then A else B := by
  rw [if_pos rfl]
  exact h
/-! ### heaps -/
/-- all that was tracked is as it was -/
def Same (H H' : Hp) : Prop := ∀ b o, H b = some o → H' b = some o
theorem Same.refl (H : Hp) : Same H H := fun _ _ h => h
theorem Same.trans {H H1 H2 : Hp} (a : Same H H1) (b : Same H1 H2) : Same H H2 := fun c o h => b c o (a c o h)
theorem Same.free {H H' : Hp} (e : Same H H') {l : Addr} (h : H' l = Option.none) : H l = Option.none := by
  cases q : H l with
  | none => rfl
  | some o =>
    rw [e l o q] at h
    cases h
theorem Same.seq {K : PySem.W.Frag} {H H' : Hp} {a : Addr} {xs : List V} (e : Same H H') (h : SqL K H a xs) : SqL K H' a xs := by
  rcases h with (h | ⟨o, h⟩) | h
  · exact .inl (.inl (e _ _ h))
  · exact .inl (.inr ⟨o, e _ _ h⟩)
  · exact .inr h

end L2

namespace TF
abbrev P2 := Int × Int
def mul (k : Int) (x y : P2) : P2 := (x.1 * y.1 + k * x.2 * y.2, x.1 * y.2 + x.2 * y.1)
def add (x y : P2) : P2 := (x.1 + y.1, x.2 + y.2)
def sub (x y : P2) : P2 := (x.1 - y.1, x.2 - y.2)
def nm (k : Int) (x : P2) : Int := x.1 * x.1 - k * x.2 * x.2
def conj (x : P2) : P2 := (x.1, -x.2)
def Kind (k : Int) : Prop := k = -2 ∨ k = -1 ∨ k = 2 ∨ k = 3
/-- x goes into y -/
def Goes (k : Int) (x y : P2) : Prop := ∃ z, y = mul k x z

theorem ext {x y : P2} (h1 : x.1 = y.1) (h2 : x.2 = y.2) : x = y := Prod.ext h1 h2
theorem mul_comm (k : Int) (x y : P2) : mul k x y = mul k y x := by
  apply ext <;> simp only [mul] <;> grind
theorem mul_assoc (k : Int) (x y z : P2) : mul k (mul k x y) z = mul k x (mul k y z) := by
  apply ext <;> simp only [mul] <;> grind
theorem mul_add (k : Int) (x y z : P2) : mul k x (add y z) = add (mul k x y) (mul k x z) := by
  apply ext <;> simp only [mul, add] <;> grind
theorem mul_sub (k : Int) (x y z : P2) : mul k x (sub y z) = sub (mul k x y) (mul k x z) := by
  apply ext <;> simp only [mul, sub] <;> grind
theorem mul_one (k : Int) (x : P2) : mul k x (1, 0) = x := by
  apply ext <;> simp only [mul] <;> grind
theorem one_mul (k : Int) (x : P2) : mul k (1, 0) x = x := by rw [mul_comm, mul_one]
theorem mul_zero (k : Int) (x : P2) : mul k x (0, 0) = (0, 0) := by
  apply ext <;> simp only [mul] <;> grind
theorem zero_mul (k : Int) (x : P2) : mul k (0, 0) x = (0, 0) := by rw [mul_comm, mul_zero]
theorem nm_mul (k : Int) (x y : P2) : nm k (mul k x y) = nm k x * nm k y := by
  simp only [nm, mul]; grind
theorem nm_conj (k : Int) (x : P2) : nm k (conj x) = nm k x := by
  simp only [nm, conj]; grind
theorem mul_conj (k : Int) (x : P2) : mul k x (conj x) = (nm k x, 0) := by
  apply ext <;> simp only [mul, conj, nm] <;> grind

theorem sq2 (n : Nat) : ∀ (a b : Int), b.natAbs ≤ n → a * a = 2 * (b * b) → b = 0 := by
  induction n with
  | zero => intro a b h _; omega
  | succ n ih =>
    intro a b hb h
    have ha : a % 2 = 0 := by
      rcases Int.emod_two_eq a with e | e
      · exact e
      · exfalso
        obtain ⟨c, rfl⟩ : ∃ c, a = 2 * c + 1 := ⟨a / 2, by omega⟩
        have : (2 * c + 1) * (2 * c + 1) = 2 * (2 * (c * c) + 2 * c) + 1 := by grind
        omega
    obtain ⟨c, rfl⟩ : ∃ c, a = 2 * c := ⟨a / 2, by omega⟩
    have h' : b * b = 2 * (c * c) := by grind
    have hbb : b % 2 = 0 := by
      rcases Int.emod_two_eq b with e | e
      · exact e
      · exfalso
        obtain ⟨d, rfl⟩ : ∃ d, b = 2 * d + 1 := ⟨b / 2, by omega⟩
        have : (2 * d + 1) * (2 * d + 1) = 2 * (2 * (d * d) + 2 * d) + 1 := by grind
        omega
    obtain ⟨d, rfl⟩ : ∃ d, b = 2 * d := ⟨b / 2, by omega⟩
    have h'' : c * c = 2 * (d * d) := by grind
    have := ih c d (by omega) h''
    omega
theorem mod3 (a : Int) (c : Int) (h : a * a = 3 * c) : a % 3 = 0 := by
  have h3 : a % 3 = 0 ∨ a % 3 = 1 ∨ a % 3 = 2 := by omega
  rcases h3 with e | e | e
  · exact e
  · exfalso
    obtain ⟨d, rfl⟩ : ∃ d, a = 3 * d + 1 := ⟨a / 3, by omega⟩
    have : (3 * d + 1) * (3 * d + 1) = 3 * (3 * (d * d) + 2 * d) + 1 := by grind
    omega
  · exfalso
    obtain ⟨d, rfl⟩ : ∃ d, a = 3 * d + 2 := ⟨a / 3, by omega⟩
    have : (3 * d + 2) * (3 * d + 2) = 3 * (3 * (d * d) + 4 * d + 1) + 1 := by grind
    omega
theorem sq3 (n : Nat) : ∀ (a b : Int), b.natAbs ≤ n → a * a = 3 * (b * b) → b = 0 := by
  induction n with
  | zero => intro a b h _; omega
  | succ n ih =>
    intro a b hb h
    have ha := mod3 a _ h
    obtain ⟨c, rfl⟩ : ∃ c, a = 3 * c := ⟨a / 3, by omega⟩
    have h' : b * b = 3 * (c * c) := by grind
    have hbb := mod3 b _ h'
    obtain ⟨d, rfl⟩ : ∃ d, b = 3 * d := ⟨b / 3, by omega⟩
    have h'' : c * c = 3 * (d * d) := by grind
    have := ih c d (by omega) h''
    omega
theorem sq_nonneg (a : Int) : 0 ≤ a * a := by
  rcases Int.le_total 0 a with h | h
  · exact Int.mul_nonneg h h
  · have := Int.mul_nonneg (show 0 ≤ -a by omega) (show 0 ≤ -a by omega)
    grind
theorem sq_zero {a : Int} (h : a * a = 0) : a = 0 := by
  rcases Int.mul_eq_zero.mp h with h | h <;> exact h
theorem nm_zero {k : Int} (hk : Kind k) {x : P2} : nm k x = 0 ↔ x = (0, 0) := by
  obtain ⟨a, b⟩ := x
  simp only [nm]
  constructor
  · intro h
    have h1 := sq_nonneg a
    have h2 := sq_nonneg b
    rcases hk with rfl | rfl | rfl | rfl
    · have e : -2 * b * b = -2 * (b * b) := by grind
      have ha : a * a = 0 := by omega
      have hb : b * b = 0 := by omega
      rw [sq_zero ha, sq_zero hb]
    · have e : -1 * b * b = -1 * (b * b) := by grind
      have ha : a * a = 0 := by omega
      have hb : b * b = 0 := by omega
      rw [sq_zero ha, sq_zero hb]
    · have hb := sq2 _ a b (Nat.le_refl _) (by grind)
      subst hb
      have ha : a * a = 0 := by grind
      rw [sq_zero ha]
    · have hb := sq3 _ a b (Nat.le_refl _) (by grind)
      subst hb
      have ha : a * a = 0 := by grind
      rw [sq_zero ha]
  · intro h
    cases h
    grind
theorem mul_eq_zero {k : Int} (hk : Kind k) {x y : P2} (h : mul k x y = (0, 0)) : x = (0, 0) ∨ y = (0, 0) := by
  have e := nm_mul k x y
  rw [h, (nm_zero hk).mpr rfl] at e
  rcases Int.mul_eq_zero.mp e.symm with e | e
  · exact .inl ((nm_zero hk).mp e)
  · exact .inr ((nm_zero hk).mp e)
theorem sub_eq_zero {x y : P2} (h : sub x y = (0, 0)) : x = y := by
  have h1 := congrArg Prod.fst h
  have h2 := congrArg Prod.snd h
  simp only [sub] at h1 h2
  exact ext (by omega) (by omega)
theorem mul_cancel {k : Int} (hk : Kind k) {x y z : P2} (hx : x ≠ (0, 0)) (h : mul k x y = mul k x z) : y = z := by
  have e : mul k x (sub y z) = (0, 0) := by
    rw [mul_sub, h]
    apply ext <;> simp only [sub] <;> omega
  rcases mul_eq_zero hk e with e | e
  · exact absurd e hx
  · exact sub_eq_zero e

/-- rounding to the nearest, a half to the greater -/
def rnd (p w : Int) : Int := (2 * p + w).fdiv (2 * w)
theorem rnd_pos {p w : Int} (hw : 0 < w) : -w ≤ 2 * (p - rnd p w * w) ∧ 2 * (p - rnd p w * w) < w := by
  have h1 := Int.mul_fdiv_add_fmod (2 * p + w) (2 * w)
  have h2 : 0 ≤ (2 * p + w).fmod (2 * w) := Int.fmod_nonneg_of_pos _ (by omega)
  have h3 : (2 * p + w).fmod (2 * w) < 2 * w := Int.fmod_lt_of_pos _ (by omega)
  have e : 2 * w * rnd p w = 2 * (rnd p w * w) := by grind
  unfold rnd at *
  omega
theorem rnd_neg {p w : Int} : rnd p w = rnd (-p) (-w) := by
  unfold rnd
  rw [← Int.neg_fdiv_neg]
  congr 1 <;> omega
theorem rnd_neg_lt {p w : Int} (hw : w < 0) : w < 2 * (p - rnd p w * w) ∧ 2 * (p - rnd p w * w) ≤ -w := by
  have h := rnd_pos (p := -p) (w := -w) (by omega)
  rw [← rnd_neg] at h
  have e : rnd p w * -w = -(rnd p w * w) := by grind
  rw [e] at h
  omega
theorem rnd_abs {p w : Int} (hw : w ≠ 0) : 4 * ((p - rnd p w * w) * (p - rnd p w * w)) ≤ w * w := by
  have key : ∀ e v : Int, -v ≤ 2 * e → 2 * e ≤ v → 4 * (e * e) ≤ v * v := by
    intro e v h1 h2
    have h := Int.mul_nonneg (show 0 ≤ v - 2 * e by omega) (show 0 ≤ v + 2 * e by omega)
    grind
  rcases Int.lt_or_gt_of_ne hw with h | h
  · obtain ⟨h1, h2⟩ := rnd_neg_lt (p := p) h
    have := key (p - rnd p w * w) (-w) (by omega) (by omega)
    grind
  · obtain ⟨h1, h2⟩ := rnd_pos (p := p) h
    exact key (p - rnd p w * w) w (by omega) (by omega)

/-- the quotient, the rest -/
def quo (k : Int) (x y : P2) : P2 := (rnd (mul k x (conj y)).1 (nm k y), rnd (mul k x (conj y)).2 (nm k y))
def rest (k : Int) (x y : P2) : P2 := sub x (mul k (quo k x y) y)
theorem quo_rest (k : Int) (x y : P2) : add (mul k (quo k x y) y) (rest k x y) = x := by
  apply ext <;> simp only [add, rest, sub] <;> omega
/-- the rest times the mirror -/
theorem rest_conj (k : Int) (x y : P2) : mul k (rest k x y) (conj y) =
    ((mul k x (conj y)).1 - (quo k x y).1 * nm k y, (mul k x (conj y)).2 - (quo k x y).2 * nm k y) := by
  have e : mul k (mul k (quo k x y) y) (conj y) = ((quo k x y).1 * nm k y, (quo k x y).2 * nm k y) := by
    rw [mul_assoc, mul_conj]
    generalize nm k y = n
    generalize quo k x y = q
    apply ext <;> simp only [mul] <;> grind
  rw [rest, mul_comm, mul_sub, mul_comm k (conj y) (mul k (quo k x y) y), e, mul_comm k (conj y) x]
  rfl
theorem rest_small {k : Int} (hk : Kind k) (x : P2) {y : P2} (hy : y ≠ (0, 0)) : 4 * (nm k (rest k x y)).natAbs ≤ 3 * (nm k y).natAbs := by
  have hn : nm k y ≠ 0 := fun h => hy ((nm_zero hk).mp h)
  have e := nm_mul k (rest k x y) (conj y)
  rw [rest_conj, nm_conj] at e
  have h1 := rnd_abs (p := (mul k x (conj y)).1) hn
  have h2 := rnd_abs (p := (mul k x (conj y)).2) hn
  have e1 : (quo k x y).1 = rnd (mul k x (conj y)).1 (nm k y) := rfl
  have e2 : (quo k x y).2 = rnd (mul k x (conj y)).2 (nm k y) := rfl
  rw [e1, e2] at e
  generalize (mul k x (conj y)).1 - rnd (mul k x (conj y)).1 (nm k y) * nm k y = u at *
  generalize (mul k x (conj y)).2 - rnd (mul k x (conj y)).2 (nm k y) * nm k y = v at *
  generalize nm k (rest k x y) = r at *
  generalize nm k y = n at *
  have e' : u * u - k * v * v = r * n := e
  have h3 := sq_nonneg u
  have h4 := sq_nonneg v
  have b1 : 4 * (r * n) ≤ 3 * (n * n) := by
    rcases hk with rfl | rfl | rfl | rfl <;> grind
  have b2 : -(3 * (n * n)) ≤ 4 * (r * n) := by
    rcases hk with rfl | rfl | rfl | rfl <;> grind
  have hn2 : 0 < n.natAbs := by omega
  have c1 : (4 * r.natAbs) * n.natAbs ≤ (3 * n.natAbs) * n.natAbs := by
    have i1 : (4 * r.natAbs) * n.natAbs = 4 * (r * n).natAbs := by rw [Int.natAbs_mul, Nat.mul_assoc]
    have i2 : (3 * n.natAbs) * n.natAbs = 3 * (n * n).natAbs := by rw [Int.natAbs_mul, Nat.mul_assoc]
    rw [i1, i2]
    have := sq_nonneg n
    omega
  exact Nat.le_of_mul_le_mul_right c1 hn2
theorem rest_lt {k : Int} (hk : Kind k) (x : P2) {y : P2} (hy : y ≠ (0, 0)) : (nm k (rest k x y)).natAbs < (nm k y).natAbs := by
  have hn : nm k y ≠ 0 := fun h => hy ((nm_zero hk).mp h)
  have := rest_small hk x hy
  omega
/-- the rest is nought just where the second goes into the first -/
theorem rest_zero_of_goes {k : Int} (hk : Kind k) {x y : P2} (hy : y ≠ (0, 0)) (h : Goes k y x) : rest k x y = (0, 0) := by
  have hn : nm k y ≠ 0 := fun h => hy ((nm_zero hk).mp h)
  obtain ⟨z, rfl⟩ := h
  have e : rest k (mul k y z) y = mul k y (sub z (quo k (mul k y z) y)) := by
    rw [rest, mul_sub, mul_comm k (quo k (mul k y z) y) y]
  have hs := rest_lt hk (mul k y z) hy
  rw [e] at hs ⊢
  rw [nm_mul, Int.natAbs_mul] at hs
  by_cases h0 : nm k (sub z (quo k (mul k y z) y)) = 0
  · rw [(nm_zero hk).mp h0, mul_zero]
  · exfalso
    have : 1 ≤ (nm k (sub z (quo k (mul k y z) y))).natAbs := by omega
    have := Nat.mul_le_mul_left (nm k y).natAbs this
    omega
theorem goes_of_rest {k : Int} {x y : P2} (h : rest k x y = (0, 0)) : Goes k y x := by
  refine ⟨quo k x y, ?_⟩
  rw [mul_comm]
  exact sub_eq_zero h
theorem rest_zero_iff {k : Int} (hk : Kind k) {x y : P2} (hy : y ≠ (0, 0)) : rest k x y = (0, 0) ↔ Goes k y x :=
  ⟨goes_of_rest, rest_zero_of_goes hk hy⟩
theorem goes_zero {k : Int} {y : P2} : Goes k (0, 0) y ↔ y = (0, 0) :=
  ⟨fun ⟨z, e⟩ => by rw [e, zero_mul], fun e => ⟨(0, 0), by rw [e, zero_mul]⟩⟩
theorem goes_refl (k : Int) (x : P2) : Goes k x x := ⟨(1, 0), (mul_one k x).symm⟩
theorem goes_nought (k : Int) (x : P2) : Goes k x (0, 0) := ⟨(0, 0), (mul_zero k x).symm⟩
theorem goes_trans {k : Int} {x y z : P2} (h1 : Goes k x y) (h2 : Goes k y z) : Goes k x z := by
  obtain ⟨a, rfl⟩ := h1
  obtain ⟨b, rfl⟩ := h2
  exact ⟨mul k a b, mul_assoc k x a b⟩
theorem goes_mul {k : Int} {x y : P2} (z : P2) (h : Goes k x y) : Goes k x (mul k z y) := by
  obtain ⟨a, rfl⟩ := h
  exact ⟨mul k z a, by rw [← mul_assoc, mul_comm k z x, mul_assoc]⟩
theorem goes_add {k : Int} {x y z : P2} (h1 : Goes k x y) (h2 : Goes k x z) : Goes k x (add y z) := by
  obtain ⟨a, rfl⟩ := h1
  obtain ⟨b, rfl⟩ := h2
  exact ⟨add a b, (mul_add k x a b).symm⟩
end TF
namespace TF
theorem rnd_bd {p w : Int} (hw : w ≠ 0) : (rnd p w).natAbs ≤ p.natAbs + 1 := by
  have key : ∀ q v : Int, 0 < v → -v ≤ 2 * (p - q * v) → 2 * (p - q * v) ≤ v → q.natAbs ≤ p.natAbs + 1 := by
    intro q v hv h1 h2
    have h3 : q.natAbs * v.natAbs = (q * v).natAbs := (Int.natAbs_mul q v).symm
    have h4 : 2 * (q * v).natAbs ≤ 2 * p.natAbs + v.natAbs := by omega
    by_cases hq : q.natAbs ≤ p.natAbs + 1
    · exact hq
    · exfalso
      have h5 := Nat.mul_le_mul_right v.natAbs (show p.natAbs + 2 ≤ q.natAbs by omega)
      have h6 := Nat.mul_le_mul_left p.natAbs (show 1 ≤ v.natAbs by omega)
      rw [Nat.add_mul] at h5
      omega
  have key2 : ∀ q v : Int, v < 0 → v ≤ 2 * (p - q * v) → 2 * (p - q * v) ≤ -v → q.natAbs ≤ p.natAbs + 1 := by
    intro q v hv h1 h2
    have h3 : q.natAbs * v.natAbs = (q * v).natAbs := (Int.natAbs_mul q v).symm
    have h4 : 2 * (q * v).natAbs ≤ 2 * p.natAbs + v.natAbs := by omega
    by_cases hq : q.natAbs ≤ p.natAbs + 1
    · exact hq
    · exfalso
      have h5 := Nat.mul_le_mul_right v.natAbs (show p.natAbs + 2 ≤ q.natAbs by omega)
      have h6 := Nat.mul_le_mul_left p.natAbs (show 1 ≤ v.natAbs by omega)
      rw [Nat.add_mul] at h5
      omega
  rcases Int.lt_or_gt_of_ne hw with h | h
  · obtain ⟨h1, h2⟩ := rnd_neg_lt (p := p) h
    exact key2 _ w h (by omega) (by omega)
  · obtain ⟨h1, h2⟩ := rnd_pos (p := p) h
    exact key _ w h (by omega) (by omega)
theorem fmod_zero_iff (a b : Int) : a.fmod b = 0 ↔ a % b = 0 := by
  constructor
  · intro h
    exact Int.emod_eq_zero_of_dvd (Int.dvd_of_fmod_eq_zero h)
  · intro h
    exact Int.fmod_eq_zero_of_dvd (Int.dvd_of_emod_eq_zero h)
end TF

namespace TF
/-! ### prime whole numbers -/
def PrimeN (n : Nat) : Prop := 1 < n ∧ ∀ d, d ∣ n → d = 1 ∨ d = n
theorem primeN_of_small {n : Nat} (h1 : 1 < n) (h : ∀ d, 2 ≤ d → d * d ≤ n → ¬ d ∣ n) : PrimeN n := by
  refine ⟨h1, fun d hd => ?_⟩
  obtain ⟨e, rfl⟩ := hd
  by_cases hd1 : d = 1
  · exact .inl hd1
  · right
    have hd0 : d ≠ 0 := by rintro rfl; simp at h1
    have he0 : e ≠ 0 := by rintro rfl; simp at h1
    by_cases he1 : e = 1
    · rw [he1, Nat.mul_one]
    · exfalso
      by_cases hle : d ≤ e
      · exact h d (by omega) (Nat.mul_le_mul_left d hle) ⟨e, rfl⟩
      · exact h e (by omega) (Nat.mul_le_mul_right e (by omega)) ⟨d, Nat.mul_comm d e⟩
theorem PrimeN.small {n : Nat} (h : PrimeN n) {d : Nat} (h2 : 2 ≤ d) (hd : d * d ≤ n) : ¬ d ∣ n := fun hv => by
  rcases h.2 d hv with e | e
  · omega
  · subst e
    have := Nat.mul_le_mul_left d h2
    have h1 := h.1
    omega
theorem PrimeN.coprime {p n : Nat} (h : PrimeN p) (hn : ¬ p ∣ n) : Nat.Coprime p n := by
  rcases h.2 (Nat.gcd p n) (Nat.gcd_dvd_left p n) with e | e
  · exact e
  · exact absurd (e ▸ Nat.gcd_dvd_right p n) hn
theorem PrimeN.dvd_mul {p a b : Nat} (h : PrimeN p) (hv : p ∣ a * b) : p ∣ a ∨ p ∣ b := by
  by_cases ha : p ∣ a
  · exact .inl ha
  · exact .inr ((h.coprime ha).dvd_of_dvd_mul_left hv)
theorem dvdI {p : Nat} {a : Int} : (p : Int) ∣ a ↔ p ∣ a.natAbs := by
  rw [← Int.natAbs_dvd_natAbs]
  simp
theorem PrimeN.dvd_mulI {p : Nat} {a b : Int} (h : PrimeN p) (hv : (p : Int) ∣ a * b) : (p : Int) ∣ a ∨ (p : Int) ∣ b := by
  rw [dvdI, Int.natAbs_mul] at hv
  rcases h.dvd_mul hv with z | z
  · exact .inl (dvdI.mpr z)
  · exact .inr (dvdI.mpr z)
theorem PrimeN.pos {p : Nat} (h : PrimeN p) : 0 < p := Nat.lt_trans Nat.zero_lt_one h.1
/-- a product that is a prime's square -/
theorem PrimeN.sq_factor {p a b : Nat} (h : PrimeN p) (e : a * b = p * p) (ha : a ≠ 1) (hb : b ≠ 1) : a = p ∧ b = p := by
  have hp := h.pos
  have h1 : p ∣ a * b := ⟨p, e⟩
  have key : ∀ a b : Nat, a * b = p * p → b ≠ 1 → p ∣ a → a = p ∧ b = p := by
    intro a b e hb hv
    obtain ⟨c, rfl⟩ := hv
    have e2 : c * b = p := by
      rw [Nat.mul_assoc] at e
      exact Nat.eq_of_mul_eq_mul_left hp e
    rcases h.2 b ⟨c, by rw [Nat.mul_comm]; exact e2.symm⟩ with z | z
    · exact absurd z hb
    · subst z
      have hc : c = 1 := Nat.eq_of_mul_eq_mul_right hp (by rw [e2, Nat.one_mul])
      rw [hc, Nat.mul_one]
      exact ⟨rfl, rfl⟩
  rcases h.dvd_mul h1 with z | z
  · exact key a b e hb z
  · obtain ⟨x, y⟩ := key b a (by rw [Nat.mul_comm]; exact e) ha z
    exact ⟨y, x⟩
theorem bezN : ∀ (n b a : Nat), b ≤ n → ∃ u v : Int, u * a + v * b = (Nat.gcd a b : Int) := by
  intro n
  induction n with
  | zero =>
    intro b a h
    have e : b = 0 := by omega
    subst e
    exact ⟨1, 0, by simp⟩
  | succ n ih =>
    intro b a h
    by_cases hb : b = 0
    · exact ih b a (by omega)
    · have hlt : a % b < b := Nat.mod_lt _ (by omega)
      obtain ⟨u, v, e⟩ := ih (a % b) b (by omega)
      refine ⟨v, u - v * ((a / b : Nat) : Int), ?_⟩
      have e1 : Nat.gcd a b = Nat.gcd b (a % b) := by rw [Nat.gcd_comm, Nat.gcd_rec, Nat.gcd_comm]
      have e2 : ((a % b : Nat) : Int) = (a : Int) - (b : Int) * ((a / b : Nat) : Int) := by
        have := Nat.div_add_mod a b
        have h3 : ((b * (a / b) + a % b : Nat) : Int) = (a : Int) := congrArg Nat.cast this
        rw [Int.natCast_add, Int.natCast_mul] at h3
        omega
      rw [e1, ← e, e2]
      grind
/-! ### units -/
def Unit (k : Int) (x : P2) : Prop := (nm k x).natAbs = 1
theorem nm_one (k : Int) : nm k (1, 0) = 1 := by simp [nm]
theorem unit_one (k : Int) : Unit k (1, 0) := by unfold Unit; rw [nm_one]; rfl
theorem Unit.mul {k : Int} {x y : P2} (hx : Unit k x) (hy : Unit k y) : Unit k (TF.mul k x y) := by
  unfold Unit at *
  rw [nm_mul, Int.natAbs_mul, hx, hy]
theorem unit_of_mul {k : Int} {x y : P2} (h : Unit k (TF.mul k x y)) : Unit k x := by
  unfold Unit at *
  rw [nm_mul, Int.natAbs_mul] at h
  exact Nat.eq_one_of_mul_eq_one_right h
theorem unit_iff_goes {k : Int} {x : P2} : Unit k x ↔ Goes k x (1, 0) := by
  constructor
  · intro h
    have h' : nm k x = 1 ∨ nm k x = -1 := by unfold Unit at h; omega
    rcases h' with e | e
    · exact ⟨conj x, by rw [mul_conj, e]⟩
    · refine ⟨(-x.1, x.2), ?_⟩
      have := mul_conj k x
      rw [e] at this
      have e1 := congrArg Prod.fst this
      have e2 := congrArg Prod.snd this
      simp only [TF.mul, conj] at e1 e2
      apply ext <;> simp only [TF.mul] <;> grind
  · rintro ⟨z, e⟩
    exact unit_of_mul (y := z) (by rw [← e]; exact unit_one k)
/-- the turned one -/
theorem Unit.inv {k : Int} {x : P2} (h : Unit k x) : ∃ y, TF.mul k x y = (1, 0) ∧ Unit k y := by
  obtain ⟨y, e⟩ := unit_iff_goes.mp h
  exact ⟨y, e.symm, unit_of_mul (y := x) (by rw [mul_comm, ← e]; exact unit_one k)⟩
theorem unit_ne_zero {k : Int} {x : P2} (h : Unit k x) : x ≠ (0, 0) := by
  rintro rfl
  simp [Unit, nm] at h
def Alike (k : Int) (x y : P2) : Prop := Goes k x y ∧ Goes k y x
theorem goes_nm {k : Int} {x y : P2} (h : Goes k x y) : (nm k x).natAbs ∣ (nm k y).natAbs := by
  obtain ⟨z, rfl⟩ := h
  rw [nm_mul, Int.natAbs_mul]
  exact ⟨_, rfl⟩
theorem nm_pos {k : Int} (hk : Kind k) {x : P2} (hx : x ≠ (0, 0)) : 0 < (nm k x).natAbs := by
  have : nm k x ≠ 0 := fun h => hx ((nm_zero hk).mp h)
  omega
/-- one goes into the other and the sizes are alike: alike -/
theorem alike_of_nm {k : Int} (hk : Kind k) {x y : P2} (hy : y ≠ (0, 0)) (h : Goes k x y) (e : (nm k x).natAbs = (nm k y).natAbs) : ∃ u, Unit k u ∧ y = TF.mul k x u := by
  obtain ⟨z, rfl⟩ := h
  refine ⟨z, ?_, rfl⟩
  have h0 : x ≠ (0, 0) := by rintro rfl; exact hy (zero_mul k z)
  have hp := nm_pos hk h0
  rw [nm_mul, Int.natAbs_mul] at e
  unfold Unit
  exact Nat.eq_of_mul_eq_mul_left hp (by rw [Nat.mul_one]; exact e.symm)
theorem Alike.unit {k : Int} (hk : Kind k) {x y : P2} (h : Alike k x y) (hy : y ≠ (0, 0)) : ∃ u, Unit k u ∧ y = TF.mul k x u := by
  refine alike_of_nm hk hy h.1 ?_
  exact Nat.dvd_antisymm (goes_nm h.1) (goes_nm h.2)
theorem alike_of_unit {k : Int} {x u : P2} (h : Unit k u) : Alike k x (TF.mul k x u) := by
  refine ⟨⟨u, rfl⟩, ?_⟩
  obtain ⟨v, e, _⟩ := h.inv
  exact ⟨v, by rw [mul_assoc, e, mul_one]⟩
theorem Alike.symm {k : Int} {x y : P2} (h : Alike k x y) : Alike k y x := ⟨h.2, h.1⟩
theorem Alike.trans {k : Int} {x y z : P2} (h : Alike k x y) (g : Alike k y z) : Alike k x z := ⟨goes_trans h.1 g.1, goes_trans g.2 h.2⟩
/-! ### greatest common divisors: any two numbers -/
theorem bezout {k : Int} (hk : Kind k) : ∀ (n : Nat) (x y : P2), (nm k y).natAbs ≤ n → ∃ g a b, g = add (TF.mul k a x) (TF.mul k b y) ∧ Goes k g x ∧ Goes k g y := by
  intro n
  induction n with
  | zero =>
    intro x y h
    have e : y = (0, 0) := (nm_zero hk).mp (by omega)
    subst e
    refine ⟨x, (1, 0), (0, 0), ?_, goes_refl k x, goes_nought k x⟩
    rw [one_mul, zero_mul]
    apply ext <;> simp [add]
  | succ n ih =>
    intro x y h
    by_cases hy : y = (0, 0)
    · exact ih x y (by rw [hy]; simp [nm])
    · obtain ⟨g, a, b, e, h1, h2⟩ := ih y (rest k x y) (by have := rest_lt hk x hy; omega)
      refine ⟨g, b, sub a (TF.mul k b (quo k x y)), ?_, ?_, h1⟩
      · rw [e]
        unfold rest
        generalize quo k x y = q
        apply ext <;> simp only [TF.mul, add, sub] <;> grind
      · rw [← quo_rest k x y]
        exact goes_add (goes_mul _ h1) h2
/-! ### numbers that part no further -/
def Irr (k : Int) (x : P2) : Prop := x ≠ (0, 0) ∧ ¬ Unit k x ∧ ∀ a b, x = TF.mul k a b → Unit k a ∨ Unit k b
def Prm (k : Int) (x : P2) : Prop := x ≠ (0, 0) ∧ ¬ Unit k x ∧ ∀ a b, Goes k x (TF.mul k a b) → Goes k x a ∨ Goes k x b
theorem Irr.prm {k : Int} (hk : Kind k) {x : P2} (h : Irr k x) : Prm k x := by
  refine ⟨h.1, h.2.1, fun a b hv => ?_⟩
  obtain ⟨g, c, d, e, h1, h2⟩ := bezout hk _ x a (Nat.le_refl _)
  obtain ⟨z, ez⟩ := h1
  rcases h.2.2 g z ez with hu | hu
  · -- g is a unit: x goes into b
    right
    obtain ⟨v, ev, _⟩ := hu.inv
    have e2 : b = add (TF.mul k (TF.mul k (TF.mul k b v) c) x) (TF.mul k (TF.mul k v d) (TF.mul k a b)) := by
      have e3 : b = TF.mul k b (TF.mul k g v) := by rw [ev, mul_one]
      rw [e] at e3
      refine e3.trans ?_
      rw [mul_comm k _ v, mul_add, mul_add]
      congr 1
      · rw [← mul_assoc, ← mul_assoc]
      · rw [← mul_assoc, mul_comm k b, mul_assoc, mul_comm k b, mul_assoc, mul_assoc]
    rw [e2]
    exact goes_add (goes_mul _ (goes_refl k x)) (goes_mul _ hv)
  · -- g is alike with x
    left
    refine goes_trans ?_ h2
    rw [ez]
    exact (alike_of_unit hu).2

/-- a size that is a prime -/
theorem irr_of_prime {k : Int} (hk : Kind k) {x : P2} (h : PrimeN (nm k x).natAbs) : Irr k x := by
  refine ⟨?_, fun hu => ?_, fun a b e => ?_⟩
  · rintro rfl
    have := h.1
    simp [nm] at this
  · have := h.1
    unfold Unit at hu
    omega
  · have e2 : (nm k x).natAbs = (nm k a).natAbs * (nm k b).natAbs := by rw [e, nm_mul, Int.natAbs_mul]
    rcases h.2 (nm k a).natAbs ⟨_, e2⟩ with z | z
    · exact .inl z
    · right
      unfold Unit
      rw [← z] at e2
      have hp : 0 < (nm k a).natAbs := by rw [z]; exact h.pos
      exact Nat.eq_of_mul_eq_mul_left hp (by rw [Nat.mul_one]; exact e2.symm)
/-- a prime that leaves the kind behind no square goes into both parts of what it goes into the size of -/
theorem inert {k : Int} {p : Nat} (hp : PrimeN p) (hns : ∀ n : Int, ¬ (p : Int) ∣ n * n - k) {x : P2} (h : (p : Int) ∣ nm k x) : (p : Int) ∣ x.1 ∧ (p : Int) ∣ x.2 := by
  have h2 : (p : Int) ∣ x.2 := by
    refine Classical.byContradiction fun hn => ?_
    have hc : Nat.Coprime p x.2.natAbs := hp.coprime fun z => hn (dvdI.mpr z)
    -- a turned one of x.2 by p
    obtain ⟨a, b, e⟩ : ∃ a b : Int, a * p + b * x.2 = 1 := by
      obtain ⟨u, v, e⟩ : ∃ u v : Int, u * (p : Int) + v * (x.2.natAbs : Int) = 1 := by
        obtain ⟨u, v, e⟩ := bezN _ x.2.natAbs p (Nat.le_refl _)
        exact ⟨u, v, by rw [e]; exact congrArg Nat.cast hc⟩
      rcases Int.natAbs_eq x.2 with z | z
      · exact ⟨u, v, by rw [← z] at e; exact e⟩
      · refine ⟨u, -v, ?_⟩
        have : (x.2.natAbs : Int) = -x.2 := by omega
        rw [this] at e
        grind
    obtain ⟨c, hc⟩ := h
    refine hns (x.1 * b) ⟨b * b * c + k * (a * a * p) - 2 * (k * a), ?_⟩
    simp only [nm] at hc
    grind
  refine ⟨?_, h2⟩
  obtain ⟨c, hc⟩ := h
  obtain ⟨d, hd⟩ := h2
  simp only [nm] at hc
  have : (p : Int) ∣ x.1 * x.1 := ⟨c + k * d * x.2, by rw [hd] at hc ⊢; grind⟩
  rcases hp.dvd_mulI this with z | z <;> exact z
theorem goes_int {k : Int} {n : Int} {x : P2} (h1 : n ∣ x.1) (h2 : n ∣ x.2) : Goes k (n, 0) x := by
  obtain ⟨a, ha⟩ := h1
  obtain ⟨b, hb⟩ := h2
  refine ⟨(a, b), ?_⟩
  apply ext
  · rw [ha]; simp only [TF.mul]; grind
  · rw [hb]; simp only [TF.mul]; grind
theorem goes_int_iff {k : Int} {n : Int} {x : P2} : Goes k (n, 0) x ↔ n ∣ x.1 ∧ n ∣ x.2 := by
  refine ⟨?_, fun h => goes_int h.1 h.2⟩
  rintro ⟨z, rfl⟩
  refine ⟨⟨z.1, ?_⟩, ⟨z.2, ?_⟩⟩ <;> simp only [TF.mul] <;> grind
theorem prm_inert {k : Int} (hk : Kind k) {p : Nat} (hp : PrimeN p) (hns : ∀ n : Int, ¬ (p : Int) ∣ n * n - k) : Prm k ((p : Int), 0) := by
  have hp1 := hp.1
  refine ⟨fun e => ?_, fun hu => ?_, fun a b hv => ?_⟩
  · have := congrArg Prod.fst e
    simp only at this
    omega
  · have e : nm k ((p : Int), 0) = ((p * p : Nat) : Int) := by simp [nm]
    unfold Unit at hu
    rw [e] at hu
    have : p * p = 1 := by omega
    have h3 := Nat.mul_le_mul_left p (show 2 ≤ p by omega)
    omega
  · have h1 := goes_nm hv
    have e : nm k ((p : Int), 0) = ((p * p : Nat) : Int) := by simp [nm]
    rw [e, nm_mul] at h1
    have h2 : (p : Int) ∣ nm k a * nm k b := dvdI.mpr (Nat.dvd_trans ⟨p, by omega⟩ h1)
    rcases hp.dvd_mulI h2 with z | z
    · exact .inl (goes_int_iff.mpr (inert hp hns z))
    · exact .inr (goes_int_iff.mpr (inert hp hns z))
end TF

namespace TF
def size (k : Int) (x : P2) : Nat := (nm k x).natAbs
/-- the size is a prime, or the square of a prime that goes into it and that leaves the kind behind no square -/
def Crit (k : Int) (x : P2) : Prop := PrimeN (size k x) ∨ ∃ p : Nat, PrimeN p ∧ size k x = p * p ∧ (∀ n : Nat, n < p → ¬ (p : Int) ∣ (n : Int) * n - k) ∧ Goes k ((p : Int), 0) x
theorem noSquare {k : Int} {p : Nat} (hp : 0 < p) (h : ∀ n : Nat, n < p → ¬ (p : Int) ∣ (n : Int) * n - k) (n : Int) : ¬ (p : Int) ∣ n * n - k := by
  intro hv
  have h0 : 0 ≤ n % (p : Int) := Int.emod_nonneg _ (by omega)
  have h1 : n % (p : Int) < p := Int.emod_lt_of_pos _ (by omega)
  obtain ⟨m, hm⟩ : ∃ m : Nat, n % (p : Int) = m := ⟨(n % (p : Int)).toNat, by omega⟩
  refine h m (by omega) ?_
  have e : n = (p : Int) * (n / p) + m := by rw [← hm]; exact (Int.mul_ediv_add_emod n p).symm
  obtain ⟨c, hc⟩ := hv
  generalize n / (p : Int) = q at e
  refine ⟨c - (p : Int) * q * q - 2 * q * m, ?_⟩
  rw [e] at hc
  grind
theorem nm_int (k n : Int) : nm k (n, 0) = n * n := by simp [nm]
theorem Prm.alike {k : Int} {x y : P2} (h : Prm k x) (a : Alike k x y) (hy : y ≠ (0, 0)) : Prm k y := by
  refine ⟨hy, fun hu => h.2.1 ?_, fun c d hv => ?_⟩
  · exact unit_iff_goes.mpr (goes_trans a.1 (unit_iff_goes.mp hu))
  · rcases h.2.2 c d (goes_trans a.1 hv) with z | z
    · exact .inl (goes_trans a.2 z)
    · exact .inr (goes_trans a.2 z)
theorem Crit.prm {k : Int} (hk : Kind k) {x : P2} (h : Crit k x) : Prm k x := by
  rcases h with h | ⟨p, hp, e, hns, hg⟩
  · exact (irr_of_prime hk h).prm hk
  · have hP := prm_inert (k := k) hk hp (noSquare hp.pos hns)
    have hx : x ≠ (0, 0) := by
      rintro rfl
      have : p * p = 0 := by rw [← e]; simp [size, nm]
      have := hp.pos
      rcases Nat.mul_eq_zero.mp ‹p * p = 0› with z | z <;> omega
    obtain ⟨u, hu, ex⟩ := alike_of_nm hk hx hg (by
      rw [nm_int]
      show _ = size k x
      rw [e]
      simp [Int.natAbs_mul])
    refine hP.alike ?_ hx
    rw [ex]
    exact alike_of_unit hu
theorem alike_size {k : Int} {x y : P2} (a : Alike k x y) : size k x = size k y := Nat.dvd_antisymm (goes_nm a.1) (goes_nm a.2)
theorem Crit.alike {k : Int} {x y : P2} (h : Crit k x) (a : Alike k x y) : Crit k y := by
  rcases h with h | ⟨p, hp, e, hns, hg⟩
  · exact .inl (by rw [← alike_size a]; exact h)
  · exact .inr ⟨p, hp, by rw [← alike_size a]; exact e, hns, goes_trans hg a.1⟩
/-! ### products of lists -/
def prodL (k : Int) : List P2 → P2
  | [] => (1, 0)
  | x :: xs => TF.mul k x (prodL k xs)
/-- as a loop makes it -/
def prodFrom (k : Int) (u : P2) : List P2 → P2
  | [] => u
  | x :: xs => prodFrom k (TF.mul k u x) xs
theorem prodL_append (k : Int) : ∀ (xs ys : List P2), prodL k (xs ++ ys) = TF.mul k (prodL k xs) (prodL k ys)
  | [], ys => (one_mul k _).symm
  | x :: xs, ys => by
    show TF.mul k x (prodL k (xs ++ ys)) = _
    rw [prodL_append k xs ys, ← mul_assoc]
    rfl
theorem prodL_erase {k : Int} : ∀ {xs : List P2} {i : Nat} {x : P2}, xs[i]? = some x → prodL k xs = TF.mul k x (prodL k (xs.eraseIdx i))
  | [], i, x, h => by simp at h
  | y :: ys, 0, x, h => by
    simp at h
    subst h
    rfl
  | y :: ys, i + 1, x, h => by
    have h' : ys[i]? = some x := by simpa using h
    show TF.mul k y (prodL k ys) = TF.mul k x (TF.mul k y (prodL k (ys.eraseIdx i)))
    rw [prodL_erase h', ← mul_assoc, mul_comm k y x, mul_assoc]
theorem Prm.dvd_prod {k : Int} {x : P2} (h : Prm k x) : ∀ {xs : List P2}, Goes k x (prodL k xs) → ∃ (i : Nat) (y : P2), xs[i]? = some y ∧ Goes k x y
  | [], hv => absurd (unit_iff_goes.mpr hv) h.2.1
  | y :: ys, hv => by
    rcases h.2.2 y _ hv with z | z
    · exact ⟨0, y, rfl, z⟩
    · obtain ⟨i, w, e, g⟩ := h.dvd_prod z
      exact ⟨i + 1, w, by simpa using e, g⟩
theorem Prm.goes_alike {k : Int} (hk : Kind k) {x y : P2} (hx : Prm k x) (hy : Prm k y) (h : Goes k x y) : Alike k x y := by
  refine ⟨h, ?_⟩
  obtain ⟨z, e⟩ := h
  rcases hy.2.2 x z (by rw [← e]; exact goes_refl k y) with g | g
  · exact g
  · exfalso
    obtain ⟨w, ew⟩ := g
    refine hx.2.1 (unit_iff_goes.mpr ⟨w, ?_⟩)
    refine (mul_cancel hk hy.1 (y := (1, 0)) ?_)
    rw [mul_one, ← mul_assoc, mul_comm k y x, mul_assoc, ← ew]
    exact e
theorem prodL_ne {k : Int} (hk : Kind k) : ∀ {xs : List P2}, (∀ x ∈ xs, x ≠ (0, 0)) → prodL k xs ≠ (0, 0)
  | [], _ => fun e => absurd (congrArg Prod.fst e) (show (1 : Int) ≠ 0 by decide)
  | x :: xs, h => fun e => by
    rcases mul_eq_zero hk e with z | z
    · exact h x List.mem_cons_self z
    · exact prodL_ne hk (fun y hy => h y (List.mem_cons_of_mem _ hy)) z
/-- a number parted is of the make itself just where it has one part -/
theorem crit_parted {k : Int} (hk : Kind k) {u : P2} {xs : List P2} (hu : Unit k u) (hxs : ∀ z ∈ xs, Crit k z) : Crit k (TF.mul k u (prodL k xs)) ↔ xs.length = 1 := by
  have al : Alike k (prodL k xs) (TF.mul k u (prodL k xs)) := by rw [mul_comm]; exact alike_of_unit hu
  constructor
  · intro h
    have hp := (h.alike al.symm).prm hk
    match xs, hxs, hp with
    | [], _, hp => exact absurd (unit_one k) hp.2.1
    | [x], _, _ => rfl
    | x :: y :: zs, hxs, hp =>
      exfalso
      have px := (hxs x List.mem_cons_self).prm hk
      have py := (hxs y (List.mem_cons_of_mem _ List.mem_cons_self)).prm hk
      obtain ⟨i, w, e, g⟩ := hp.dvd_prod (goes_refl k (prodL k (x :: y :: zs)))
      have hw := (hxs w (List.mem_of_getElem? e)).prm hk
      have aw := hp.goes_alike hk hw g
      have e2 := prodL_erase (k := k) e
      obtain ⟨v, hv, ev⟩ := aw.symm.unit hk (prodL_ne hk (fun z hz => ((hxs z hz).prm hk).1))
      have e3 : prodL k ((x :: y :: zs).eraseIdx i) = v := mul_cancel hk hw.1 (by rw [← e2]; exact ev)
      have hu' : Unit k (prodL k ((x :: y :: zs).eraseIdx i)) := by rw [e3]; exact hv
      match i, hu' with
      | 0, hu' => exact py.2.1 (unit_of_mul hu')
      | i + 1, hu' => exact px.2.1 (unit_of_mul hu')
  · intro h
    match xs, h, hxs with
    | [x], _, hxs =>
      refine (hxs x List.mem_cons_self).alike ?_
      show Alike k x (TF.mul k u (TF.mul k x (1, 0)))
      rw [mul_one, mul_comm]
      exact alike_of_unit hu
/-- a prime that leaves the kind behind a square: what it has in common with n + w is of its size -/
theorem split_prime {k : Int} (hk : Kind k) {p : Nat} (hp : PrimeN p) {n : Int} (h : (p : Int) ∣ n * n - k) {g a b : P2} (e : g = add (TF.mul k a ((p : Int), 0)) (TF.mul k b (n, 1))) (h1 : Goes k g ((p : Int), 0)) (h2 : Goes k g (n, 1)) : size k g = p := by
  have hp1 := hp.1
  have no1 : ¬ (p : Int) ∣ 1 := fun z => by
    have := Int.le_of_dvd (by decide) z
    omega
  have nv := goes_nm h1
  rw [nm_int, Int.natAbs_mul] at nv
  simp only [Int.natAbs_natCast] at nv
  obtain ⟨c, hc⟩ := nv
  show (nm k g).natAbs = p
  by_cases hg : (nm k g).natAbs = 1
  · exfalso
    obtain ⟨v, ev⟩ := unit_iff_goes.mp (show Unit k g from hg)
    -- (n, -1) = (n, -1) * g * v
    have e2 : ((n, -1) : P2) = TF.mul k ((p : Int), 0) (add (TF.mul k (n, -1) (TF.mul k a v)) (TF.mul k ((n * n - k) / p, 0) (TF.mul k b v))) := by
      have e3 : ((n * n - k) / (p : Int)) * p = n * n - k := Int.ediv_mul_cancel h
      have e4 : ((n, -1) : P2) = TF.mul k (n, -1) (TF.mul k g v) := by rw [← ev, mul_one]
      refine e4.trans ?_
      rw [e]
      generalize (n * n - k) / (p : Int) = q at e3 ⊢
      apply ext <;> simp only [TF.mul, add] <;> grind
    have := (goes_int_iff.mp ⟨_, e2⟩).2
    simp only at this
    exact no1 (by rw [← Int.dvd_neg]; exact this)
  · by_cases hcc : c = 1
    · exfalso
      subst hcc
      rw [Nat.mul_one] at hc
      have hp0 : ((p : Int), (0 : Int)) ≠ (0, 0) := fun z => by
        have := congrArg Prod.fst z
        simp only at this
        omega
      obtain ⟨u, hu, eu⟩ := alike_of_nm hk hp0 h1 (by rw [nm_int, Int.natAbs_mul]; simp only [Int.natAbs_natCast]; exact hc.symm)
      have g2 : Goes k ((p : Int), 0) (n, 1) := by
        refine goes_trans ?_ h2
        rw [eu]
        exact (alike_of_unit hu).2
      exact no1 (goes_int_iff.mp g2).2
    · exact (hp.sq_factor hc.symm hg hcc).1
end TF

namespace TF
/-- the basic unit, its turned one -/
def bu (k : Int) : P2 := if k = -2 then (-1, 0) else if k = -1 then (0, 1) else if k = 2 then (1, 1) else (2, 1)
def bi (k : Int) : P2 := if k = -2 then (-1, 0) else if k = -1 then (0, -1) else if k = 2 then (-1, 1) else (2, -1)
theorem bu_bi {k : Int} (hk : Kind k) : TF.mul k (bu k) (bi k) = (1, 0) := by rcases hk with rfl | rfl | rfl | rfl <;> decide
theorem bu_unit {k : Int} (hk : Kind k) : Unit k (bu k) := by rcases hk with rfl | rfl | rfl | rfl <;> (unfold Unit; decide)
/-- m times the factor b behind u -/
def pwF (k : Int) (b u : P2) : Nat → P2
  | 0 => u
  | n + 1 => TF.mul k (pwF k b u n) b
def pw (k : Int) (b : P2) (n : Nat) : P2 := pwF k b (1, 0) n
theorem pw_succ (k : Int) (b : P2) (n : Nat) : pw k b (n + 1) = TF.mul k (pw k b n) b := rfl
/-- the unit of a sign and times -/
def unitOf (k s t : Int) : P2 := TF.mul k (s, 0) (pw k (if t < 0 then bi k else bu k) t.natAbs)
/-! ### kinds 2 and 3: what the parts look like -/
/-- both parts of the powers of the basic unit -/
theorem pw_bu_pos {k : Int} (hk : k = 2 ∨ k = 3) : ∀ n, 0 < (pw k (bu k) n).1 ∧ (n : Int) ≤ (pw k (bu k) n).2
  | 0 => by constructor <;> simp [pw, pwF]
  | n + 1 => by
    obtain ⟨h1, h2⟩ := pw_bu_pos hk n
    rw [pw_succ]
    generalize pw k (bu k) n = x at *
    rcases hk with rfl | rfl
    · simp only [TF.mul, bu]
      have e1 : x.1 * (1 : Int) + 2 * x.2 * 1 = x.1 + 2 * x.2 := by grind
      have e2 : x.1 * (1 : Int) + x.2 * 1 = x.1 + x.2 := by grind
      simp
      omega
    · simp only [TF.mul, bu]
      simp
      omega
theorem pw_bu_mono {k : Int} (hk : k = 2 ∨ k = 3) (n : Nat) : (pw k (bu k) n).2 < (pw k (bu k) (n + 1)).2 := by
  obtain ⟨h1, h2⟩ := pw_bu_pos hk n
  rw [pw_succ]
  generalize pw k (bu k) n = x at *
  rcases hk with rfl | rfl
  · simp only [TF.mul, bu]
    simp
    omega
  · simp only [TF.mul, bu]
    simp
    omega
theorem pw_bu_lt {k : Int} (hk : k = 2 ∨ k = 3) {m n : Nat} (h : m < n) : (pw k (bu k) m).2 < (pw k (bu k) n).2 := by
  induction n with
  | zero => omega
  | succ n ih =>
    have := pw_bu_mono hk n
    by_cases e : m = n
    · subst e; exact this
    · have := ih (by omega); omega
/-! ### going down -/
theorem down3 {a b : Int} (h : (nm 3 (a, b)).natAbs = 1) (ha : 0 < a) (hb : 0 < b) : 0 < 2 * a - 3 * b ∧ 0 ≤ 2 * b - a ∧ 2 * b - a < b := by
  have e : a * a - 3 * b * b = 1 := by
    have : a * a - 3 * b * b = 1 ∨ a * a - 3 * b * b = -1 := by simp only [nm] at h; omega
    rcases this with z | z
    · exact z
    · exfalso
      have m3 := mod3 a (b * b) 
      have h3 : a % 3 = 0 ∨ a % 3 = 1 ∨ a % 3 = 2 := by omega
      have e' : a * a = 3 * (b * b) - 1 := by grind
      rcases h3 with q | q | q
      · obtain ⟨c, rfl⟩ : ∃ c, a = 3 * c := ⟨a / 3, by omega⟩
        have : 3 * c * (3 * c) = 3 * (3 * (c * c)) := by grind
        omega
      · obtain ⟨c, rfl⟩ : ∃ c, a = 3 * c + 1 := ⟨a / 3, by omega⟩
        have : (3 * c + 1) * (3 * c + 1) = 3 * (3 * (c * c) + 2 * c) + 1 := by grind
        omega
      · obtain ⟨c, rfl⟩ : ∃ c, a = 3 * c + 2 := ⟨a / 3, by omega⟩
        have : (3 * c + 2) * (3 * c + 2) = 3 * (3 * (c * c) + 4 * c + 1) + 1 := by grind
        omega
  have e' : a * a = 3 * (b * b) + 1 := by grind
  have hbb : 0 < b * b := Int.mul_pos hb hb
  have lt_of_sq : ∀ x y : Int, 0 ≤ y → x * x < y * y → x < y := fun x y hy hxy => by
    refine Int.lt_of_not_ge fun z => ?_
    have := Int.mul_le_mul z z hy (by omega)
    omega
  refine ⟨?_, ?_, ?_⟩
  · have : 3 * b < 2 * a := lt_of_sq _ _ (by omega) (by grind)
    omega
  · have : a < 2 * b + 1 := lt_of_sq _ _ (by omega) (by grind)
    omega
  · have : b < a := lt_of_sq _ _ (by omega) (by grind)
    omega
theorem down2 {a b : Int} (h : (nm 2 (a, b)).natAbs = 1) (ha : 0 < a) (hb : 0 < b) : 0 < 2 * b - a ∧ 0 ≤ a - b ∧ a - b < b := by
  have e : a * a = 2 * (b * b) + 1 ∨ a * a = 2 * (b * b) - 1 := by
    have : a * a - 2 * b * b = 1 ∨ a * a - 2 * b * b = -1 := by simp only [nm] at h; omega
    rcases this with z | z
    · left; grind
    · right; grind
  have hbb : 0 < b * b := Int.mul_pos hb hb
  have lt_of_sq : ∀ x y : Int, 0 ≤ y → x * x < y * y → x < y := fun x y hy hxy => by
    refine Int.lt_of_not_ge fun z => ?_
    have := Int.mul_le_mul z z hy (by omega)
    omega
  have h1 : a < 2 * b := by
    by_cases hb1 : b = 1
    · subst hb1
      refine Int.lt_of_not_ge fun z => ?_
      have := Int.mul_le_mul z z (by omega) (by omega)
      omega
    · have : 2 * b ≤ b * b := by
        have := Int.mul_le_mul_of_nonneg_right (show 2 ≤ b by omega) (show 0 ≤ b by omega)
        omega
      exact lt_of_sq _ _ (by omega) (by grind)
  have h2 : b < a + 1 := lt_of_sq _ _ (by omega) (by grind)
  omega
end TF

namespace TF
def rot (t : Int) : P2 := if t = 0 then (1, 0) else if t = 1 then (0, 1) else if t = 2 then (-1, 0) else (0, -1)
theorem rot_step (i : Int) : TF.mul (-1) (rot (i % 4)) (0, 1) = rot ((i + 1) % 4) := by
  have h : i % 4 = 0 ∨ i % 4 = 1 ∨ i % 4 = 2 ∨ i % 4 = 3 := by omega
  rcases h with z | z | z | z
  · have e : (i + 1) % 4 = 1 := by omega
    rw [z, e]; decide
  · have e : (i + 1) % 4 = 2 := by omega
    rw [z, e]; decide
  · have e : (i + 1) % 4 = 3 := by omega
    rw [z, e]; decide
  · have e : (i + 1) % 4 = 0 := by omega
    rw [z, e]; decide
theorem rot_pw (i : Int) : ∀ n : Nat, pwF (-1) (0, 1) (rot (i % 4)) n = rot ((i + n) % 4)
  | 0 => by show rot (i % 4) = _; simp
  | n + 1 => by
    show TF.mul (-1) (pwF (-1) (0, 1) (rot (i % 4)) n) (0, 1) = _
    rw [rot_pw i n, rot_step]
    congr 2
    omega
theorem rot_inj {i j : Int} (hi : 0 ≤ i) (hi3 : i ≤ 3) (hj : 0 ≤ j) (hj3 : j ≤ 3) (h : rot i = rot j) : i = j := by
  have a : i = 0 ∨ i = 1 ∨ i = 2 ∨ i = 3 := by omega
  have b : j = 0 ∨ j = 1 ∨ j = 2 ∨ j = 3 := by omega
  rcases a with rfl | rfl | rfl | rfl <;> rcases b with rfl | rfl | rfl | rfl <;> first | rfl | exact absurd h (by decide)
def flp (t : Int) : P2 := if t = 0 then (1, 0) else (-1, 0)
theorem flp_step (i : Int) : TF.mul (-2) (flp (i % 2)) (-1, 0) = flp ((i + 1) % 2) := by
  have h : i % 2 = 0 ∨ i % 2 = 1 := by omega
  rcases h with z | z
  · have e : (i + 1) % 2 = 1 := by omega
    rw [z, e]; decide
  · have e : (i + 1) % 2 = 0 := by omega
    rw [z, e]; decide
theorem flp_pw (i : Int) : ∀ n : Nat, pwF (-2) (-1, 0) (flp (i % 2)) n = flp ((i + n) % 2)
  | 0 => by show flp (i % 2) = _; simp
  | n + 1 => by
    show TF.mul (-2) (pwF (-2) (-1, 0) (flp (i % 2)) n) (-1, 0) = _
    rw [flp_pw i n, flp_step]
    congr 2
    omega
end TF

namespace TF
theorem pw_add (k : Int) (b : P2) (m : Nat) : ∀ n, pw k b (m + n) = TF.mul k (pw k b m) (pw k b n)
  | 0 => (mul_one k _).symm
  | n + 1 => by
    rw [← Nat.add_assoc, pw_succ, pw_succ, pw_add k b m n, mul_assoc]
/-- going down to one: kinds 2 and 3 -/
theorem pw_of_unit {k : Int} (hk : k = 2 ∨ k = 3) : ∀ (n : Nat) (a b : Int), b.natAbs ≤ n → 0 ≤ a → 0 ≤ b → Unit k (a, b) → ∃ m, pw k (bu k) m = (a, b) := by
  intro n
  induction n with
  | zero =>
    intro a b hn ha hb hu
    have e : b = 0 := by omega
    subst e
    have h : (a * a).natAbs = 1 := by simpa [Unit, nm] using hu
    rw [Int.natAbs_mul] at h
    have h1 : a.natAbs = 1 := Nat.eq_one_of_mul_eq_one_left h
    have e : a = 1 := by omega
    subst e
    exact ⟨0, rfl⟩
  | succ n ih =>
    intro a b hn ha hb hu
    by_cases h0 : b = 0
    · exact ih a b (by omega) ha hb hu
    · have ha0 : 0 < a := by
        rcases Int.lt_or_eq_of_le ha with z | z
        · exact z
        exfalso
        subst z
        have h : (k * b * b).natAbs = 1 := by simpa [Unit, nm] using hu
        rw [Int.natAbs_mul, Int.natAbs_mul] at h
        have h2 : k.natAbs * b.natAbs = 1 := Nat.eq_one_of_mul_eq_one_right h
        have := Nat.eq_one_of_mul_eq_one_right h2
        omega
      rcases hk with rfl | rfl
      · obtain ⟨h1, h2, h3⟩ := down2 hu ha0 (by omega)
        have hu' : Unit 2 (2 * b - a, a - b) := by
          have e : nm 2 (2 * b - a, a - b) = -(nm 2 (a, b)) := by simp only [nm]; grind
          unfold Unit
          rw [e, Int.natAbs_neg]
          exact hu
        obtain ⟨m, hm⟩ := ih (2 * b - a) (a - b) (by omega) (by omega) h2 hu'
        refine ⟨m + 1, ?_⟩
        rw [pw_succ, hm]
        apply ext <;> simp only [TF.mul, bu] <;> simp <;> omega
      · obtain ⟨h1, h2, h3⟩ := down3 hu ha0 (by omega)
        have hu' : Unit 3 (2 * a - 3 * b, 2 * b - a) := by
          have e : nm 3 (2 * a - 3 * b, 2 * b - a) = nm 3 (a, b) := by simp only [nm]; grind
          unfold Unit
          rw [e]
          exact hu
        obtain ⟨m, hm⟩ := ih (2 * a - 3 * b) (2 * b - a) (by omega) (by omega) h2 hu'
        refine ⟨m + 1, ?_⟩
        rw [pw_succ, hm]
        apply ext <;> simp only [TF.mul, bu] <;> simp <;> omega
theorem nm_abs (k : Int) (x : P2) : nm k ((x.1.natAbs : Int), (x.2.natAbs : Int)) = nm k x := by
  simp only [nm]
  have e1 : (x.1.natAbs : Int) * x.1.natAbs = x.1 * x.1 := Int.natAbs_mul_self
  have e2 : (x.2.natAbs : Int) * x.2.natAbs = x.2 * x.2 := Int.natAbs_mul_self
  rw [e1, Int.mul_assoc, e2, Int.mul_assoc]
/-- the size of the powers, with its sign -/
theorem nm_pw_bu {k : Int} (hk : k = 2 ∨ k = 3) : ∀ n, nm k (pw k (bu k) n) = if k = 2 ∧ n % 2 = 1 then -1 else 1
  | 0 => by simp [pw, pwF, nm]
  | n + 1 => by
    rw [pw_succ, nm_mul, nm_pw_bu hk n]
    rcases hk with rfl | rfl
    · have : n % 2 = 0 ∨ n % 2 = 1 := by omega
      rcases this with z | z
      · have z2 : (n + 1) % 2 = 1 := by omega
        simp [z, z2, bu, nm]
      · have z2 : (n + 1) % 2 = 0 := by omega
        simp [z, z2, bu, nm]
    · simp [bu, nm]
/-- kinds -1 and -2 -/
theorem pw_m1 (n : Nat) : pw (-1) (bu (-1)) n = rot ((n : Int) % 4) := by
  have h := rot_pw 0 n
  rw [Int.zero_add] at h
  exact h
theorem pw_m2 (n : Nat) : pw (-2) (bu (-2)) n = flp ((n : Int) % 2) := by
  have h := flp_pw 0 n
  rw [Int.zero_add] at h
  exact h
theorem sq_le_one {a : Int} (h : a * a ≤ 1) : a = 0 ∨ a = 1 ∨ a = -1 := by
  by_cases h1 : 2 ≤ a
  · have := Int.mul_le_mul h1 h1 (by decide) (by omega)
    omega
  · by_cases h2 : a ≤ -2
    · have := Int.mul_le_mul (show 2 ≤ -a by omega) (show 2 ≤ -a by omega) (by decide) (by omega)
      rw [Int.neg_mul_neg] at this
      omega
    · omega
theorem unit_m1 {x : P2} (hu : Unit (-1) x) : ∃ n : Nat, n ≤ 3 ∧ x = rot n := by
  obtain ⟨a, b⟩ := x
  have e : a * a + b * b = 1 := by
    have h := hu
    unfold Unit nm at h
    have h1 := sq_nonneg a
    have h2 := sq_nonneg b
    simp only [Int.neg_mul, Int.one_mul] at h
    omega
  have h1 := sq_nonneg a
  have h2 := sq_nonneg b
  rcases sq_le_one (a := a) (by omega) with rfl | rfl | rfl <;> rcases sq_le_one (a := b) (by omega) with rfl | rfl | rfl <;> first | (exfalso; omega) | exact ⟨0, by decide, rfl⟩ | exact ⟨1, by decide, rfl⟩ | exact ⟨2, by decide, rfl⟩ | exact ⟨3, by decide, rfl⟩
theorem unit_m2 {x : P2} (hu : Unit (-2) x) : ∃ n : Nat, n ≤ 1 ∧ x = flp n := by
  obtain ⟨a, b⟩ := x
  have e : a * a + 2 * (b * b) = 1 := by
    have h := hu
    unfold Unit nm at h
    have h1 := sq_nonneg a
    have h2 := sq_nonneg b
    simp only [Int.neg_mul, Int.mul_assoc] at h
    omega
  have h1 := sq_nonneg a
  have h2 := sq_nonneg b
  rcases sq_le_one (a := a) (by omega) with rfl | rfl | rfl <;> rcases sq_le_one (a := b) (by omega) with rfl | rfl | rfl <;> first | (exfalso; omega) | exact ⟨0, by decide, rfl⟩ | exact ⟨1, by decide, rfl⟩
/-- a unit is reached by the basic one, and when first -/
structure Reach (k : Int) (x : P2) (n : Nat) : Prop where
  at_ : pw k (bu k) n = x
  first : ∀ m, m < n → pw k (bu k) m ≠ x
  few : ∀ m, m ≤ n → (pw k (bu k) m).1.natAbs ≤ x.1.natAbs + x.1.natAbs + 3 * x.2.natAbs + 1 ∧ (pw k (bu k) m).2.natAbs ≤ x.2.natAbs + 1
theorem reach_big {k : Int} (hk : k = 2 ∨ k = 3) {x : P2} (hu : Unit k x) : ∃ n, Reach k ((x.1.natAbs : Int), (x.2.natAbs : Int)) n := by
  obtain ⟨n, hn⟩ := pw_of_unit hk x.2.natAbs (x.1.natAbs : Int) (x.2.natAbs : Int) (by omega) (by omega) (by omega) (by unfold Unit; rw [nm_abs]; exact hu)
  refine ⟨n, hn, fun m hm z => ?_, fun m hm => ?_⟩
  · have := pw_bu_lt hk hm
    rw [hn, z] at this
    exact absurd this (Int.lt_irrefl _)
  · have h2 : (pw k (bu k) m).2 ≤ (pw k (bu k) n).2 := by
      rcases Nat.lt_or_eq_of_le hm with z | z
      · exact Int.le_of_lt (pw_bu_lt hk z)
      · rw [z]; exact Int.le_refl _
    rw [hn] at h2
    have hp := pw_bu_pos hk m
    have e := nm_pw_bu hk m
    generalize pw k (bu k) m = y at *
    simp only at h2 ⊢
    refine ⟨?_, by omega⟩
    have h4 : y.1 * y.1 ≤ 3 * (y.2 * y.2) + 1 := by
      have h5 := sq_nonneg y.2
      unfold nm at e
      rcases hk with rfl | rfl <;> simp only [Int.mul_assoc] at e <;> split at e <;> omega
    have h6 : y.1 ≤ 2 * y.2 + 1 := by
      refine Int.not_lt.mp fun z => ?_
      have h7 := Int.mul_le_mul (show 2 * y.2 + 2 ≤ y.1 by omega) (show 2 * y.2 + 2 ≤ y.1 by omega) (by omega) (by omega)
      have h8 := sq_nonneg y.2
      have : (2 * y.2 + 2) * (2 * y.2 + 2) = 4 * (y.2 * y.2) + 8 * y.2 + 4 := by grind
      omega
    simp only [Int.natAbs_natCast]
    omega
theorem reach_m1 {x : P2} (hu : Unit (-1) x) : ∃ n, n ≤ 3 ∧ Reach (-1) x n := by
  obtain ⟨n, hn, e⟩ := unit_m1 hu
  have em : ∀ m : Nat, m ≤ 3 → pw (-1) (bu (-1)) m = rot m := fun m hm => by
    rw [pw_m1]
    congr 1
    omega
  refine ⟨n, hn, (em n hn).trans e.symm, fun m hm z => ?_, fun m hm => ?_⟩
  · rw [em m (by omega), e] at z
    have := rot_inj (by omega) (by omega) (by omega) (by omega) z
    omega
  · rw [em m (by omega)]
    have : m = 0 ∨ m = 1 ∨ m = 2 ∨ m = 3 := by omega
    subst e
    have : ∀ i : Nat, i < 4 → ∀ j : Nat, j < 4 → (rot (i : Nat)).1.natAbs ≤ (rot (j : Nat)).1.natAbs + (rot (j : Nat)).1.natAbs + 3 * (rot (j : Nat)).2.natAbs + 1 ∧ (rot (i : Nat)).2.natAbs ≤ (rot (j : Nat)).2.natAbs + 1 := by decide
    exact this m (by omega) n (by omega)
theorem reach_m2 {x : P2} (hu : Unit (-2) x) : ∃ n, n ≤ 1 ∧ Reach (-2) x n := by
  obtain ⟨n, hn, e⟩ := unit_m2 hu
  have em : ∀ m : Nat, m ≤ 1 → pw (-2) (bu (-2)) m = flp m := fun m hm => by
    rw [pw_m2]
    congr 1
    omega
  refine ⟨n, hn, (em n hn).trans e.symm, fun m hm z => ?_, fun m hm => ?_⟩
  · rw [em m (by omega), e] at z
    have h1 : m = 0 := by omega
    have h2 : n = 1 := by omega
    subst h1 h2
    exact absurd z (by decide)
  · rw [em m (by omega)]
    subst e
    have : ∀ i : Nat, i < 2 → ∀ j : Nat, j < 2 → (flp (i : Nat)).1.natAbs ≤ (flp (j : Nat)).1.natAbs + (flp (j : Nat)).1.natAbs + 3 * (flp (j : Nat)).2.natAbs + 1 ∧ (flp (i : Nat)).2.natAbs ≤ (flp (j : Nat)).2.natAbs + 1 := by decide
    exact this m (by omega) n (by omega)
end TF

namespace TF
theorem prime_div : ∀ (m n : Nat), n ≤ m → 1 < n → ∃ p, PrimeN p ∧ p ∣ n
  | 0, n, h, h1 => by omega
  | m + 1, n, h, h1 => by
    by_cases hp : ∀ d, 2 ≤ d → d < n → ¬ d ∣ n
    · refine ⟨n, ⟨h1, fun d hd => ?_⟩, Nat.dvd_refl n⟩
      have hle := Nat.le_of_dvd (by omega) hd
      have h0 : d ≠ 0 := fun z => by subst z; rw [Nat.zero_dvd] at hd; omega
      by_cases e : d = n
      · exact .inr e
      · by_cases e1 : d = 1
        · exact .inl e1
        · exact absurd hd (hp d (by omega) (by omega))
    · have ⟨d, h2⟩ := Classical.not_forall.mp hp
      have ⟨h3, h4⟩ := Classical.not_imp.mp h2
      have ⟨h5, h6⟩ := Classical.not_imp.mp h4
      have h7 := Classical.not_not.mp h6
      obtain ⟨p, hp, hd⟩ := prime_div m d (by omega) (by omega)
      exact ⟨p, hp, Nat.dvd_trans hd h7⟩
/-- the primes of a number, found from below -/
structure PrOf (whole left factor : Nat) (ps : List Nat) : Prop where
  pos : 0 < left
  dv : left ∣ whole
  f2 : 2 ≤ factor
  low : ∀ d, 2 ≤ d → d ∣ left → factor ≤ d
  prs : ∀ q ∈ ps, PrimeN q ∧ q ∣ whole
  all : ∀ q, PrimeN q → q ∣ whole → q ∈ ps ∨ q ∣ left
  len : ps.length + 2 ≤ factor
  fw : (factor - 1) * (factor - 1) ≤ whole
theorem PrOf.start {n : Nat} (h : 0 < n) : PrOf n n 2 [] := ⟨h, Nat.dvd_refl n, by decide, fun d h2 _ => h2, fun q hq => (nomatch hq), fun q _ hq => .inr hq, by decide, h⟩
theorem PrOf.prime {w l f : Nat} {ps : List Nat} (P : PrOf w l f ps) (h : f ∣ l) : PrimeN f := by
  have := P.f2
  refine ⟨by omega, fun d hd => ?_⟩
  have hle := Nat.le_of_dvd (by omega) hd
  have h0 : d ≠ 0 := fun z => by subst z; rw [Nat.zero_dvd] at hd; omega
  by_cases e1 : d = 1
  · exact .inl e1
  · have := P.low d (by omega) (Nat.dvd_trans hd h)
    exact .inr (by omega)
/-- the inner loop: f goes into left no more -/
structure PrIn (whole left factor : Nat) (ps : List Nat) : Prop where
  pos : 0 < left
  dv : left ∣ whole
  f2 : 2 ≤ factor
  low : ∀ d, 2 ≤ d → d ∣ left → factor ≤ d
  prs : ∀ q ∈ ps, PrimeN q ∧ q ∣ whole
  all : ∀ q, PrimeN q → q ∣ whole → q ∈ ps ∨ q ∣ left
  len : ps.length + 1 ≤ factor
  fw : factor * factor ≤ whole
  there : factor ∣ left → factor ∈ ps
theorem le_of_dvd_sq {f l w : Nat} (h : f * f ≤ l) (hd : l ∣ w) (hw : 0 < w) : f * f ≤ w := Nat.le_trans h (Nat.le_of_dvd hw hd)
theorem PrOf.inY {w l f : Nat} {ps : List Nat} (hw : 0 < w) (P : PrOf w l f ps) (hf : f * f ≤ l) (h : f ∣ l) : PrIn w l f (ps ++ [f]) :=
  ⟨P.pos, P.dv, P.f2, P.low, fun q hq => by
    rcases List.mem_append.mp hq with z | z
    · exact P.prs q z
    · rw [List.mem_singleton.mp z]
      exact ⟨P.prime h, Nat.dvd_trans h P.dv⟩, fun q h1 h2 => (P.all q h1 h2).imp (fun z => List.mem_append_left _ z) id, by rw [List.length_append, List.length_singleton]; have := P.len; omega, le_of_dvd_sq hf P.dv hw, fun _ => by simp⟩
theorem PrOf.inN {w l f : Nat} {ps : List Nat} (hw : 0 < w) (P : PrOf w l f ps) (hf : f * f ≤ l) (h : ¬ f ∣ l) : PrIn w l f ps :=
  ⟨P.pos, P.dv, P.f2, P.low, P.prs, P.all, by have := P.len; omega, le_of_dvd_sq hf P.dv hw, fun z => absurd z h⟩
theorem PrIn.step {w l f : Nat} {ps : List Nat} (P : PrIn w l f ps) (h : f ∣ l) : PrIn w (l / f) f ps ∧ l / f < l := by
  have hf := P.f2
  have hl := P.pos
  have e : l / f * f = l := Nat.div_mul_cancel h
  have hd : l / f ∣ l := ⟨f, e.symm⟩
  have h0 : 0 < l / f := Nat.pos_of_ne_zero fun z => by rw [z, Nat.zero_mul] at e; omega
  refine ⟨⟨h0, Nat.dvd_trans hd P.dv, hf, fun d h1 h2 => P.low d h1 (Nat.dvd_trans h2 hd), P.prs, fun q h1 h2 => ?_, P.len, P.fw, fun z => P.there (Nat.dvd_trans z hd)⟩, Nat.div_lt_self hl hf⟩
  rcases P.all q h1 h2 with z | z
  · exact .inl z
  · rw [← e] at z
    rcases h1.dvd_mul z with z | z
    · exact .inr z
    · left
      have pf : PrimeN f := by
        refine ⟨hf, fun d hd2 => ?_⟩
        have hle := Nat.le_of_dvd (by omega) hd2
        have h0 : d ≠ 0 := fun z => by subst z; rw [Nat.zero_dvd] at hd2; omega
        by_cases e1 : d = 1
        · exact .inl e1
        · have := P.low d (by omega) (Nat.dvd_trans hd2 h)
          exact .inr (by omega)
      rcases pf.2 q z with e1 | e1
      · have := h1.1; omega
      · rw [e1]; exact P.there h
theorem PrIn.out {w l f : Nat} {ps : List Nat} (P : PrIn w l f ps) (h : ¬ f ∣ l) : PrOf w l (f + 1) ps :=
  ⟨P.pos, P.dv, by have := P.f2; omega, fun d h1 h2 => by
    have := P.low d h1 h2
    have : d ≠ f := fun z => h (z ▸ h2)
    omega, P.prs, P.all, by have := P.len; omega, by simpa using P.fw⟩
theorem PrOf.lastY {w l f : Nat} {ps : List Nat} (P : PrOf w l f ps) (hf : ¬ f * f ≤ l) (h : 1 < l) : (∀ q ∈ ps ++ [l], PrimeN q ∧ q ∣ w) ∧ ∀ q, PrimeN q → q ∣ w → q ∈ ps ++ [l] := by
  have pl : PrimeN l := primeN_of_small h fun d h1 h2 h3 => hf (by
    have := P.low d h1 h3
    exact Nat.le_trans (Nat.mul_le_mul this this) h2)
  refine ⟨fun q hq => ?_, fun q h1 h2 => ?_⟩
  · rcases List.mem_append.mp hq with z | z
    · exact P.prs q z
    · rw [List.mem_singleton.mp z]
      exact ⟨pl, P.dv⟩
  · rcases P.all q h1 h2 with z | z
    · exact List.mem_append_left _ z
    · rcases pl.2 q z with e | e
      · have := h1.1; omega
      · rw [e]; simp
theorem PrOf.lastN {w l f : Nat} {ps : List Nat} (P : PrOf w l f ps) (h : ¬ 1 < l) : (∀ q ∈ ps, PrimeN q ∧ q ∣ w) ∧ ∀ q, PrimeN q → q ∣ w → q ∈ ps := by
  refine ⟨P.prs, fun q h1 h2 => ?_⟩
  rcases P.all q h1 h2 with z | z
  · exact z
  · have := Nat.le_of_dvd P.pos z
    have := h1.1
    omega
theorem gcd_prime {k : Int} (hk : Kind k) {p : Nat} (hp : PrimeN p) {y g a b : P2} (hy : p ∣ size k y) (e : g = add (TF.mul k a y) (TF.mul k b ((p : Int), 0))) (h1 : Goes k g y) (h2 : Goes k g ((p : Int), 0)) :
    size k g = p ∨ (size k g = p * p ∧ Goes k ((p : Int), 0) y) := by
  have hp1 := hp.1
  have nv := goes_nm h2
  rw [nm_int, Int.natAbs_mul] at nv
  simp only [Int.natAbs_natCast] at nv
  obtain ⟨c, hc⟩ := nv
  by_cases hg : (nm k g).natAbs = 1
  · exfalso
    obtain ⟨v, ev⟩ := unit_iff_goes.mp (show Unit k g from hg)
    obtain ⟨q, hq⟩ := dvdI.mpr hy
    -- conj y = conj y * g * v goes by p
    have e2 : conj y = TF.mul k ((p : Int), 0) (TF.mul k v (add (TF.mul k a (q, 0)) (TF.mul k b (conj y)))) := by
      have e3 : conj y = TF.mul k (conj y) (TF.mul k g v) := by rw [← ev, mul_one]
      have e4 : TF.mul k y (conj y) = ((p : Int) * q, 0) := by rw [mul_conj, hq]
      refine e3.trans ?_
      rw [e]
      have e5 : TF.mul k (conj y) (TF.mul k (add (TF.mul k a y) (TF.mul k b ((p : Int), 0))) v) = TF.mul k v (add (TF.mul k a (TF.mul k y (conj y))) (TF.mul k b (TF.mul k ((p : Int), 0) (conj y)))) := by
        apply ext <;> simp only [TF.mul, add] <;> grind
      rw [e5, e4]
      apply ext <;> simp only [TF.mul, add] <;> grind
    have d := goes_int_iff.mp ⟨_, e2⟩
    have gy : Goes k ((p : Int), 0) y := goes_int d.1 (by have := d.2; simp only [conj] at this; rw [Int.dvd_neg] at this; exact this)
    have gg : Goes k ((p : Int), 0) g := by
      rw [e]
      exact goes_add (goes_mul _ gy) (goes_mul _ (goes_refl k _))
    have := goes_nm gg
    rw [hg, nm_int, Int.natAbs_mul] at this
    simp only [Int.natAbs_natCast] at this
    have := Nat.le_of_dvd (by decide) this
    have := Nat.mul_le_mul (show 2 ≤ p by omega) (show 2 ≤ p by omega)
    omega
  · by_cases hcc : c = 1
    · right
      subst hcc
      rw [Nat.mul_one] at hc
      refine ⟨hc.symm, ?_⟩
      have hp0 : ((p : Int), (0 : Int)) ≠ (0, 0) := fun z => by
        have := congrArg Prod.fst z
        simp only at this
        omega
      obtain ⟨u, hu, eu⟩ := alike_of_nm hk hp0 h2 (by rw [nm_int, Int.natAbs_mul]; simp only [Int.natAbs_natCast]; exact hc.symm)
      refine goes_trans ?_ h1
      rw [eu]
      exact (alike_of_unit hu).2
    · exact .inl (hp.sq_factor hc.symm hg hcc).1
/-- bounds of a power by its fifth -/
theorem pow_few {s N : Nat} (h : 4 ^ s ≤ 3 ^ s * N) : 4 ^ s ≤ N ^ 5 := by
  have h1 := Nat.pow_le_pow_left h 5
  rw [Nat.mul_pow, ← Nat.pow_mul, ← Nat.pow_mul] at h1
  have h2 : (4 * 3 ^ 5) ^ s ≤ (4 ^ 5) ^ s := Nat.pow_le_pow_left (by decide) s
  rw [Nat.mul_pow, ← Nat.pow_mul, ← Nat.pow_mul, Nat.mul_comm 5 s] at h2
  have h3 := Nat.le_trans h2 h1
  rw [Nat.mul_comm (4 ^ s)] at h3
  exact Nat.le_of_mul_le_mul_left h3 (Nat.pow_pos (by decide))
theorem sq_le_sq {a b : Nat} (h : a * a ≤ b * b) : a ≤ b := by
  refine Nat.le_of_not_lt fun z => ?_
  have := Nat.mul_lt_mul'' z z
  omega
theorem pow_few2 {s p N : Nat} (h : 4 ^ s ≤ 3 ^ s * N) (hN : N ≤ 4 * (p * p)) : 2 ^ s ≤ 32 * p ^ 5 := by
  have h1 := Nat.le_trans (pow_few h) (Nat.pow_le_pow_left hN 5)
  refine sq_le_sq ?_
  rw [← Nat.mul_pow]
  refine Nat.le_trans h1 (Nat.le_of_eq ?_)
  rw [Nat.mul_pow, Nat.mul_pow, show (4 : Nat) ^ 5 = 32 * 32 by decide]
  generalize p ^ 5 = q
  rw [Nat.mul_assoc, Nat.mul_assoc, Nat.mul_left_comm q 32 q]
end TF

set_option Elab.async false
set_option linter.all false
set_option maxRecDepth 100000
namespace L2
open PySem PySem.Spec PyProof.Rows

/-! ### lists of pairs as tables -/
section
variable {κ : Type} [DecidableEq κ]
def valV (kvs : List (κ × V)) (k : κ) : Option V := (kvs.find? fun kv => decide (kv.1 = k)).map (·.2)
/-- in its place, or at the end -/
def putK (kvs : List (κ × V)) (k : κ) (v : V) : List (κ × V) :=
  if (kvs.any fun kv => decide (kv.1 = k)) = true then kvs.map (fun kv => if kv.1 = k then (kv.1, v) else kv) else kvs ++ [(k, v)]
def dropK (kvs : List (κ × V)) (k : κ) : List (κ × V) := kvs.filter fun kv => decide (kv.1 ≠ k)

theorem RelO.getD {o : Option V} {u : Option Value} {d : V} {d' : Value} (r : RelO o u) (rd : RelV d d') : RelV (o.getD d) (u.getD d') := by
  cases o with
  | none => cases u with
    | none => exact rd
    | some _ => exact (show False from r).elim
  | some _ => cases u with
    | none => exact (show False from r).elim
    | some _ => exact r

theorem KV.any {kvs : List (κ × V)} {vs : List (κ × Value)} (r : KV kvs vs) (k : κ) : (kvs.any fun kv => decide (kv.1 = k)) = vs.any fun kv => decide (kv.1 = k) := by
  unfold KV at r
  induction r with
  | nil => rfl
  | cons h t ih => rw [List.any_cons, List.any_cons, ih, h.1]
theorem KV.drop {kvs : List (κ × V)} {vs : List (κ × Value)} (r : KV kvs vs) (k : κ) : KV (dropK kvs k) (without vs k) := by
  unfold KV at r ⊢
  unfold dropK without
  induction r with
  | nil => exact .nil
  | @cons p q ps qs h t ih =>
    obtain ⟨h1, h2⟩ := h
    rw [List.filter_cons, List.filter_cons]
    by_cases e : p.1 = k
    · have a : ¬ decide (p.1 ≠ k) = true := by simp [e]
      have b : ¬ decide (q.1 ≠ k) = true := by simp [h1.symm.trans e]
      rw [if_neg a, if_neg b]; exact ih
    · have e' : ¬ q.1 = k := fun z => e (h1.trans z)
      have a : decide (p.1 ≠ k) = true := by simp [e]
      have b : decide (q.1 ≠ k) = true := by simp [e']
      rw [if_pos a, if_pos b]; exact .cons ⟨h1, h2⟩ ih
theorem KV.keys {kvs : List (κ × V)} {vs : List (κ × Value)} (r : KV kvs vs) : kvs.map (·.1) = vs.map (·.1) := by
  unfold KV at r
  induction r with
  | nil => rfl
  | cons h t ih => rw [List.map_cons, List.map_cons, ih, h.1]
theorem KV.length {kvs : List (κ × V)} {vs : List (κ × Value)} (r : KV kvs vs) : kvs.length = vs.length := Paired.length r
end


/-! ### a tracked dict, its keys ints and texts or tuples of these -/
/-- raw entries of a dict with tuple keys -/
abbrev KT (H : Hp) : List (List Key × V) → List (List Key × Addr × Value) → Prop := Paired fun p q => p.1 = q.1 ∧ H q.2.1 = some (.tup (p.1.map kV)) ∧ RelV p.2 q.2.2
theorem KT.keeps {H H' : Hp} {kvs : List (List Key × V)} {xs : List (List Key × Addr × Value)} (r : KT H kvs xs) (ht : ∀ b ys, H b = some (.tup ys) → H' b = some (.tup ys)) : KT H' kvs xs :=
  Paired.mapP r fun _ _ z => ⟨z.1, ht _ _ z.2.1, z.2.2⟩

section
variable {P : Program} {w : World} {H : Hp} {h : Heap} {a : Addr}
end

/-- what the dict at a holds at the key y -/
def DGet (H : Hp) (a : Addr) (y : V) (r : Option V) : Prop :=
  (∃ kvs k, Rd H a (.dK kvs) ∧ y = kV k ∧ r = valV kvs k) ∨ ∃ kvs k b, Rd H a (.dT kvs) ∧ y = .ref b ∧ H b = some (.tup (k.map kV)) ∧ r = valV kvs k
/-- the heap behind a[y] = v -/
def DPut (H : Hp) (a : Addr) (y v : V) (H' : Hp) : Prop :=
  (∃ kvs k, H a = some (.dK kvs) ∧ y = kV k ∧ kvs.length < sizeLine ∧ H' = upd H a (.dK (putK kvs k v))) ∨
  ∃ kvs k b, H a = some (.dT kvs) ∧ y = .ref b ∧ H b = some (.tup (k.map kV)) ∧ kvs.length < sizeLine ∧ H' = upd H a (.dT (putK kvs k v))
theorem DGet.k {H : Hp} {a : Addr} {kvs : List (Key × V)} {k : Key} (e : H a = some (.dK kvs)) : DGet H a (kV k) (valV kvs k) := .inl ⟨kvs, k, .inl e, rfl, rfl⟩
theorem DGet.t {H : Hp} {a b : Addr} {kvs : List (List Key × V)} {k : List Key} (e : H a = some (.dT kvs)) (eb : H b = some (.tup (k.map kV))) : DGet H a (.ref b) (valV kvs k) := .inr ⟨kvs, k, b, .inl e, rfl, eb, rfl⟩
theorem DPut.k {H : Hp} {a : Addr} {kvs : List (Key × V)} {k : Key} {v : V} (e : H a = some (.dK kvs)) (hl : kvs.length < sizeLine) : DPut H a (kV k) v (upd H a (.dK (putK kvs k v))) := .inl ⟨kvs, k, e, rfl, hl, rfl⟩
theorem DPut.t {H : Hp} {a b : Addr} {kvs : List (List Key × V)} {k : List Key} {v : V} (e : H a = some (.dT kvs)) (eb : H b = some (.tup (k.map kV))) (hl : kvs.length < sizeLine) :
    DPut H a (.ref b) v (upd H a (.dT (putK kvs k v))) := .inr ⟨kvs, k, b, e, rfl, eb, hl, rfl⟩


section
variable {X : Cx} {pins : List (Addr × Obj)} {σ : St} {H : Hp} {s : Shared} {a : Addr} {y v : V} {u r : Value} {o : Option V} {A : Around} {E : Value → Shared → Prop}

end

section
variable {X : Cx} {pins : List (Addr × Obj)} {σ : St} {H : Hp} {s : Shared} {a : Addr} {kvs : List (Key × V)} {k : Key} {u : Value} {A : Around} {E : Value → Shared → Prop}
end


/-! ### readings and rules -/
/-- the element of a subscription, not a slice -/
def NoSl (i : Expr) : Prop := ∀ ov iv, subscripted i false ov iv = operate [ov, iv] (getItem ov iv)
theorem subD_of {prog : Program} {w : World} {A : Around} {E : Value → Shared → Prop} {s : Shared} {env : Env} {value slice : Expr} {pos : Pos} {T id : String} {Q : Value → Shared → Prop}
    (hl : typeLookup (.type T) "__getitem__" = pure (some (.builtin id))) (hs : NoSl slice)
    (h : wpAny (model prog w) A (eval value env) (fun o s₁ => wpAny (model prog w) A (eval slice env) (fun i s₂ => s₂.TypeIs o T ∧ wpAny (model prog w) A (getItem o i) Q E s₂) E s₁) E s) :
    wpAny (model prog w) A (eval (.Subscript value slice pos) env) Q E s := by
  refine Subscript_ (wpAny_mono h (fun o s₁ h₁ => wpAny_mono h₁ (fun i s₂ h₂ => ?_) fun _ _ x => x) fun _ _ x => x)
  obtain ⟨hT, h₂⟩ := h₂
  unfold subscriptTail
  refine wpAny_bind ?_
  rw [getitemInPython_of_ne hT.not_modules]
  refine wpAny_bind (wpAny_specialOf hT hl ?_)
  have fin : wpAny (model prog w) A (subscripted slice false o i) (fun r s₃ => wpAny (model prog w) A (letTemporaryGo value o r >>= fun _ => pure r) Q E s₃) E s₂ := by
    rw [hs o i]
    exact wpAny_operating (wpAny_mono h₂ (fun r s₃ h₃ => wpAny_bind (wpAny_letTemporaryGo (wpAny_pure h₃))) fun _ _ x => x)
  first
    | exact wpAny_pure (wpAny_bind fin)
    | exact wpAny_bind (wpAny_pure (wpAny_bind fin))
    | exact wpAny_bind fin

/-- d[y] -/
def tDGet (td ty : TE) : TE := fun σ H Q => td σ H fun x H1 => ty σ H1 fun y H2 => ∃ a v, x = .ref a ∧ DGet H2 a y (some v) ∧ Q v H2
/-- y in d, y not in d -/
def tDIn (ty td : TE) : TE := fun σ H Q => ty σ H fun y H1 => td σ H1 fun x H2 => ∃ a o, x = .ref a ∧ DGet H2 a y o ∧ Q (.bl o.isSome) H2
def tDNotIn (ty td : TE) : TE := fun σ H Q => ty σ H fun y H1 => td σ H1 fun x H2 => ∃ a o, x = .ref a ∧ DGet H2 a y o ∧ Q (.bl (!o.isSome)) H2
/-- d[y] = v -/
def sDPut (td ty tv : TE) : TS := fun D σ H => tv σ H fun v H1 => td σ H1 fun x H2 => ty σ H2 fun y H3 => ∃ a H4, x = .ref a ∧ DPut H3 a y v H4 ∧ D.nx σ H4
/-- d[y] op= v -/
def sDAug (td ty tv : TE) (rd : V → V → Hp → VK → Prop) : TS := fun D σ H => td σ H fun x H1 => ty σ H1 fun y H2 => ∃ a v, x = .ref a ∧ DGet H2 a y (some v) ∧
  tv σ H2 fun y2 H3 => rd v y2 H3 fun z H4 => ∃ H5, DPut H4 a y z H5 ∧ D.nx σ H5
/-- del d[y] -/
def sDDel (td ty : TE) : TS := fun D σ H => td σ H fun x H1 => ty σ H1 fun y H2 => ∃ a kvs k, x = .ref a ∧ H2 a = some (.dK kvs) ∧ y = kV k ∧ (valV kvs k).isSome = true ∧ D.nx σ (upd H2 a (.dK (dropK kvs k)))

section
variable {X : Cx} {o i e value : Expr} {pos pos' tpos : Pos} {td ty tv : TE}
end


/-! ### displays -/
/-- {}, to be a dict of the kind that is wanted -/
def tDNewK : TE := fun _ H Q => ∀ p, H p = none → Q (.ref p) (upd H p (.dK []))
def tDNewT : TE := fun _ H Q => ∀ p, H p = none → Q (.ref p) (upd H p (.dT []))
section
variable {X : Cx} {pos : Pos}
end

/-- the pairs of a display, from the left -/
def tPairs : List (TE × TE) → St → Hp → (List (V × V) → Hp → Prop) → Prop
  | [], _, H, Q => Q [] H
  | (tk, tv) :: r, σ, H, Q => tk σ H fun x H1 => tv σ H1 fun y H2 => tPairs r σ H2 fun ps H3 => Q ((x, y) :: ps) H3
abbrev VV : List (V × V) → List (Value × Value) → Prop := Paired fun p q => RelV p.1 q.1 ∧ RelV p.2 q.2
def PPs (X : Cx) (pos : Pos) (keys : List (Option Expr)) (values : List Expr) (trs : List (TE × TE)) : Prop :=
  ∀ (pins : List (Addr × Obj)) (s : Shared) (σ : St) (H : Hp) (Q : List (V × V) → Hp → Prop), Inv X pins σ H s → tPairs trs σ H Q →
    wpAny (model X.prog X.w) X.A (evalPairs (pairTrees keys values X.env pos)) (fun vs s' => ∃ ps H', Inv X pins σ H' s' ∧ VV ps vs ∧ Q ps H') X.xe s
def mergeK (kvs more : List (Key × V)) : List (Key × V) := more.foldl (fun acc kv => putK acc kv.1 kv.2) kvs
/-- {k: v, ..} with keys ints and texts; the new dict stands empty while the pairs are made -/
def tDisp (trs : List (TE × TE)) : TE := fun σ H Q => ∀ p, H p = none → tPairs trs σ (upd H p (.dK [])) fun ps H2 => H2 p = some (.dK []) ∧ ∃ kvs : List (Key × V), ps = kvs.map (fun kv => (kV kv.1, kv.2)) ∧ kvs.length ≤ 15 ∧ Q (.ref p) (upd H2 p (.dK (mergeK [] kvs)))
/-! ### methods -/
/-- a method call o.m(e) of a built-in, with one argument: what must be seen of the text -/
structure M1 (X : Cx) (o : Expr) (m : Str) (apos : Pos) (e : Expr) (cpos : Pos) : Prop where
  base : attributeBase o m X.env (eval o X.env) = eval o X.env
  few : ((backTo cpos (starEach [e] X.env)).all (fun x => !x.1) && (backToKw cpos (keywordEach [] X.env)).all (fun x => x.1.isSome)
    && decide (([e] : List Expr).length + ([] : List Keyword).length + (if ([] : List Keyword).isEmpty then 0 else 1) < 30)) = true
  line : (apos.endLine == cpos.line) = true
  trees : backTo cpos (starEach [e] X.env) = [(false, eval e X.env)]
structure M2 (X : Cx) (o : Expr) (m : Str) (apos : Pos) (e f : Expr) (cpos : Pos) : Prop where
  base : attributeBase o m X.env (eval o X.env) = eval o X.env
  few : ((backTo cpos (starEach [e, f] X.env)).all (fun x => !x.1) && (backToKw cpos (keywordEach [] X.env)).all (fun x => x.1.isSome)
    && decide (([e, f] : List Expr).length + ([] : List Keyword).length + (if ([] : List Keyword).isEmpty then 0 else 1) < 30)) = true
  line : (apos.endLine == cpos.line) = true
  trees : backTo cpos (starEach [e, f] X.env) = [(false, eval e X.env), (false, eval f X.env)]

/-- a is a dict, whatever its keys -/
def IsD (H : Hp) (a : Addr) : Prop := (∃ kvs, Rd H a (.dK kvs)) ∨ ∃ kvs, Rd H a (.dT kvs)
section
variable {X : Cx} {pins : List (Addr × Obj)} {σ : St} {H : Hp} {s : Shared} {a : Addr} {y d : V} {u r : Value} {o : Option V} {A : Around} {E : Value → Shared → Prop}
end

def tDGet1 (td ty : TE) : TE := fun σ H Q => td σ H fun x H1 => ∃ a, x = .ref a ∧ IsD H1 a ∧ ty σ H1 fun y H2 => ∃ o, DGet H2 a y o ∧ Q (o.getD .non) H2
def tDGet2 (td ty tx : TE) : TE := fun σ H Q => td σ H fun x H1 => ∃ a, x = .ref a ∧ IsD H1 a ∧ ty σ H1 fun y H2 => tx σ H2 fun z H3 => ∃ o, DGet H3 a y o ∧ Q (o.getD z) H3
/-- d.pop(k): there; d.pop(k, x): there or not -/
def tDPop1 (td ty : TE) : TE := fun σ H Q => td σ H fun x H1 => ∃ a, x = .ref a ∧ IsD H1 a ∧ ty σ H1 fun y H2 => ∃ kvs k v, H2 a = some (.dK kvs) ∧ y = kV k ∧ valV kvs k = some v ∧ Q v (upd H2 a (.dK (dropK kvs k)))
def tDPop2 (td ty tx : TE) : TE := fun σ H Q => td σ H fun x H1 => ∃ a, x = .ref a ∧ IsD H1 a ∧ ty σ H1 fun y H2 => tx σ H2 fun z H3 => ∃ kvs k, H3 a = some (.dK kvs) ∧ y = kV k ∧
  (∀ v, valV kvs k = some v → Q v (upd H3 a (.dK (dropK kvs k)))) ∧ (valV kvs k = none → Q z H3)
section
variable {X : Cx} {o e f : Expr} {apos cpos : Pos} {td ty tx : TE}
end

/-! ### dict(d): a copy -/
section
variable {X : Cx} {pins : List (Addr × Obj)} {σ : St} {H : Hp} {s : Shared} {a : Addr} {kvs : List (Key × V)} {A : Around} {E : Value → Shared → Prop}
end


section
variable {X : Cx} {pins : List (Addr × Obj)} {σ : St} {H : Hp} {s : Shared} {a : Addr} {y : V} {u : Value} {A : Around} {E : Value → Shared → Prop}
end
end L2

set_option Elab.async false
set_option linter.all false
set_option maxRecDepth 100000
set_option maxHeartbeats 4000000
namespace L3
open PySem PySem.Spec PyProof.Rows L2
abbrev P2 := TF.P2
/-! ### ints -/
/-- an int of no great length -/
def Fi (i : Int) : Prop := Builtin.Int.intBits i ≤ 20000000
theorem Fi.mulOk {i j : Int} (a : Fi i) (b : Fi j) : IntMulOk i j := .of_le a b (by decide)
theorem fi_of {i : Int} {n : Nat} (h : i.natAbs < 2 ^ n) (hn : n ≤ 20000000) : Fi i := Nat.le_trans (intBits_le_iff.mpr h) hn
section
variable {X : Cx} {a b c : Expr} {ta tb tc : TE} {pos : Pos}
theorem op_mulF : OpR X (binaryOp .Mult) (rI (fun i j => IntMulOk i j) fun i j => .int (i * j)) := opI fun _ _ _ _ _ _ _ hc q => mul_int q hc
theorem op_divF : OpR X (binaryOp .FloorDiv) (rI (fun _ j => j ≠ 0 ∧ j.natAbs.log2 < 9000) fun i j => .int (i.fdiv j)) := opI fun _ _ _ _ _ _ _ hc q => floordiv_int hc.1 q (.inl (PyProof.noPylong_of_log2 hc.2))

/-! ### numbers of two parts -/
theorem SqT.same {K : PySem.W.Frag} {H H' : Hp} {a : Addr} {xs : List V} (e : Same H H') (h : SqT K H a xs) : SqT K H' a xs := by
  rcases h with (h | ⟨o, h⟩) | h
  · exact .inl (.inl (e _ _ h))
  · exact .inl (.inr ⟨o, e _ _ h⟩)
  · exact .inr h
theorem Same.up {H : Hp} {p : Addr} {o : HO} (h : H p = none) : Same H (upd H p o) := fun b u e => by
  rw [upd_ne (ne_of_none e h)]
  exact e
/-- v is the pair x -/
def NumV (K : PySem.W.Frag) (H : Hp) (v : V) (x : P2) : Prop := ∃ p, v = .ref p ∧ SqT K H p [.int x.1, .int x.2]
theorem NumV.same {K : PySem.W.Frag} {H H' : Hp} {v : V} {x : P2} (e : Same H H') (h : NumV K H v x) : NumV K H' v x := by
  obtain ⟨p, rfl, h⟩ := h
  exact ⟨p, rfl, SqT.same e h⟩
/-- x[0], x[1] of a number -/
def tN0 (K : PySem.W.Frag) (ta : TE) : TE := fun σ H Q => ta σ H fun x H1 => ∃ n, NumV K H1 x n ∧ Q (.int n.1) H1
def tN1 (K : PySem.W.Frag) (ta : TE) : TE := fun σ H Q => ta σ H fun x H1 => ∃ n, NumV K H1 x n ∧ Q (.int n.2) H1
theorem PE.mono {e : Expr} {t t' : TE} (h : PE X e t) (hm : ∀ σ H Q, t' σ H Q → t σ H Q) : PE X e t' := fun pins s σ H Q I q => h pins s σ H Q I (hm σ H Q q)
/-- the reading may ask less, where what is asked of the value is kept -/
def MonoT (t : TE) : Prop := ∀ σ H (Q Q' : VK), (∀ v H', Q v H' → Q' v H') → t σ H Q → t σ H Q'
theorem pe_n0 {j p2} (ha : PE X a ta) (hs : PlainIx (.Constant (.int 0) j p2) := by intro o i; with_unfolding_all rfl) : PE X (.Subscript a (.Constant (.int 0) j p2) pos) (tN0 X.K ta) := by
  intro pins s σ H Q I h
  refine Subscript_ (thn (ha pins s σ H _ I h) fun v s1 ⟨x, H1, I1, r1, n, ⟨p, ex, hq⟩, q1⟩ => ?_)
  refine thn (pe_int (i := 0) (j := j) (pos := p2) pins s1 σ H1 (fun y H2 => y = .int 0 ∧ H2 = H1) I1 ⟨rfl, rfl⟩) fun u s2 ⟨y, H2, I2, r2, e1, e2⟩ => ?_
  subst e1 e2
  exact ix_tup a _ pins s2 σ H2 x (.int 0) v u Q I2 r1 r2 ⟨p, _, 0, .int n.1, ex, rfl, hq, rfl, q1⟩ (hs _ _)
theorem pe_n1 {j p2} (ha : PE X a ta) (hs : PlainIx (.Constant (.int 1) j p2) := by intro o i; with_unfolding_all rfl) : PE X (.Subscript a (.Constant (.int 1) j p2) pos) (tN1 X.K ta) := by
  intro pins s σ H Q I h
  refine Subscript_ (thn (ha pins s σ H _ I h) fun v s1 ⟨x, H1, I1, r1, n, ⟨p, ex, hq⟩, q1⟩ => ?_)
  refine thn (pe_int (i := 1) (j := j) (pos := p2) pins s1 σ H1 (fun y H2 => y = .int 1 ∧ H2 = H1) I1 ⟨rfl, rfl⟩) fun u s2 ⟨y, H2, I2, r2, e1, e2⟩ => ?_
  subst e1 e2
  exact ix_tup a _ pins s2 σ H2 x (.int 1) v u Q I2 r1 r2 ⟨p, _, 1, .int n.2, ex, rfl, hq, rfl, q1⟩ (hs _ _)
/-- (a, b) of two ints -/
def tPair (K : PySem.W.Frag) (t : TA) : TE := fun σ H Q => t σ H fun xs H1 => ∃ i j, xs = [.int i, .int j] ∧ ∀ v H', Same H1 H' → NumV K H' v (i, j) → Q v H'
/-- a new tuple, a new list -/
def tTupS (t : TA) : TE := fun σ H Q => t σ H fun xs H1 => xs.length ≤ sizeLine ∧ ∀ p H', Same H1 H' → H' p = some (.tup xs) → Q (.ref p) H'
def tLstS (t : TA) : TE := fun σ H Q => t σ H fun xs H1 => xs.length ≤ sizeLine ∧ ∀ p H', Same H1 H' → H1 p = none → H' p = some (.lst xs) → Q (.ref p) H'
variable {es : List Expr} {t : TA}
theorem pe_tupS {x1} (h : PA X es t) : PE X (.Tuple es x1 pos) (tTupS t) := by
  intro pins s σ H Q I hq
  refine wpAny_Tuple_spliced (thn (h pos pins s σ H _ I hq) fun us s1 ⟨xs, H1, I1, r, z, q⟩ => ⟨by rw [← r.length]; exact z, ?_⟩)
  have hf : H1 s1.heap.objs.size = none := I1.hok.fresh (Nat.le_refl _)
  refine ⟨.ref s1.heap.objs.size, upd H1 s1.heap.objs.size (.tup xs), I1.laid (t' := s1.toks) (fun b u e => Heap.get?_push_of_some _ e) (Nat.le_refl _) ?_, rfl, q _ _ (Same.up hf) upd_same⟩
  exact ⟨z, us, r, ⟨_, Heap.get?_push_size _ rfl, rfl, _, rfl⟩⟩
theorem pe_lstS (h : PA X es t) : PE X (.List es pos) (tLstS t) := by
  intro pins s σ H Q I hq
  refine wpAny_List_spliced (thn (h pos pins s σ H _ I hq) fun us s1 ⟨xs, H1, I1, r, z, q⟩ => ⟨by rw [← r.length]; exact z, ?_⟩)
  have hf : H1 s1.heap.objs.size = none := I1.hok.fresh (Nat.le_refl _)
  refine ⟨.ref s1.heap.objs.size, upd H1 s1.heap.objs.size (.lst xs), I1.laid (t' := s1.toks) (fun b u e => Heap.get?_push_of_some _ e) (Nat.le_refl _) ?_, rfl, q _ _ (Same.up hf) hf upd_same⟩
  exact ⟨z, us, 0, r, Heap.get?_push_size _ rfl⟩
theorem pe_pair {x1} (h : PA X es t) : PE X (.Tuple es x1 pos) (tPair X.K t) := by
  intro pins s σ H Q I hq
  refine wpAny_Tuple_spliced (thn (h pos pins s σ H _ I hq) fun us s1 ⟨xs, H1, I1, r, i, j, e, q⟩ => ?_)
  subst e
  have z : [V.int i, V.int j].length ≤ sizeLine := by show 2 ≤ sizeLine; decide
  refine ⟨by rw [← r.length]; exact z, ?_⟩
  have hf : H1 s1.heap.objs.size = none := I1.hok.fresh (Nat.le_refl _)
  refine ⟨.ref s1.heap.objs.size, upd H1 s1.heap.objs.size (.tup [.int i, .int j]), I1.laid (t' := s1.toks) (fun b u e => Heap.get?_push_of_some _ e) (Nat.le_refl _) ?_, rfl, q _ _ (Same.up hf) ⟨_, rfl, SqT.of upd_same⟩⟩
  exact ⟨z, us, r, ⟨_, Heap.get?_push_size _ rfl, rfl, _, rfl⟩⟩

/-! ### == and != of numbers -/
def rEqN (K : PySem.W.Frag) (neg : Bool) : R2 := fun x y H Q => ∃ m n, NumV K H x m ∧ NumV K H y n ∧ Q (.bl (if neg then !decide (m = n) else decide (m = n))) H
theorem vals_ints2 {i j : Int} {us : List Value} (r : Vals [.int i, .int j] us) : ∃ t u, us = [.int i t, .int j u] := by
  obtain ⟨a, b, rfl, ⟨t, rfl⟩, ⟨u, rfl⟩⟩ := vals2 r
  exact ⟨t, u, rfl⟩
theorem eq2 {A : Around} {s : Shared} {a b c d : Int} {t u t' u' : Tok} : ∀ j (h1 : j < #[Value.int a t, Value.int b u].size) (h2 : j < #[Value.int c t', Value.int d u'].size),
    SeqAt.EqAt A s #[Value.int a t, Value.int b u][j] #[Value.int c t', Value.int d u'][j] (if j = 0 then a == c else b == d) := by
  intro j h1 h2
  match j, h1, h2 with
  | 0, _, _ => exact SeqAt.EqAt.int_int a t c t'
  | 1, _, _ => exact SeqAt.EqAt.int_int b u d u'
theorem eq2_bool (a b c d : Int) (t u t' u' : Tok) : ((List.range (min #[Value.int a t, Value.int b u].size #[Value.int c t', Value.int d u'].size)).all (fun j => if j = 0 then a == c else b == d) && #[Value.int a t, Value.int b u].size == #[Value.int c t', Value.int d u'].size) = decide ((a, b) = ((c, d) : P2)) := by
  rw [Bool.eq_iff_iff]
  simp [List.range, List.range.loop]
theorem op_eqN (hu : X.A.units < cLine) : OpR X (compareOp .Eq) (rEqN X.K false) := by
  intro pins s σ H x y v u Q I rx ry h
  obtain ⟨⟨a, b⟩, ⟨c, d⟩, ⟨p, rfl, hp⟩, ⟨q, rfl, hq⟩, k⟩ := h
  cases rx
  cases ry
  obtain ⟨its, r1, p1, _⟩ := I.tuple hp
  obtain ⟨its2, r2, p2, _⟩ := I.tuple hq
  obtain ⟨t, u, rfl⟩ := vals_ints2 r1
  obtain ⟨t', u', rfl⟩ := vals_ints2 r2
  exact SeqAt.eq_tupleAt p1 p2 hu eq2 ⟨.bl _, H, I, rfl, by rw [eq2_bool]; exact k⟩
theorem op_neN (hu : X.A.units < cLine) : OpR X (compareOp .NotEq) (rEqN X.K true) := by
  intro pins s σ H x y v u Q I rx ry h
  obtain ⟨⟨a, b⟩, ⟨c, d⟩, ⟨p, rfl, hp⟩, ⟨q, rfl, hq⟩, k⟩ := h
  cases rx
  cases ry
  obtain ⟨its, r1, p1, _⟩ := I.tuple hp
  obtain ⟨its2, r2, p2, _⟩ := I.tuple hq
  obtain ⟨t, u, rfl⟩ := vals_ints2 r1
  obtain ⟨t', u', rfl⟩ := vals_ints2 r2
  exact SeqAt.RcNeAt.tuples p1 p2 hu eq2 _ _ _ _ ⟨.bl _, H, I, rfl, by rw [eq2_bool]; exact k⟩

/-! ### isinstance(x, T), T a built-in type -/
inductive TyK (K : PySem.W.Frag) (H : Hp) : V → String → Prop where
  | non : TyK K H .non "NoneType"
  | bl (x : Bool) : TyK K H (.bl x) "bool"
  | int (i : Int) : TyK K H (.int i) "int"
  | str (x : Str) : TyK K H (.str x) "str"
  | lst {a : Addr} {xs : List V} (e : SqL K H a xs) : TyK K H (.ref a) "list"
  | tup {a : Addr} {xs : List V} (e : SqT K H a xs) : TyK K H (.ref a) "tuple"
def rIsI (K : PySem.W.Frag) : List V → Hp → VK → Prop := fun xs H Q => ∃ x t c b, xs = [x, .ty c] ∧ TyK K H x t ∧ PySem.W.kitOne K (.type t) (.type c) = some b ∧ Q (.bl b) H
/-! ### range(a, b, c) -/
/-- lo, lo + c, .. (n of them) -/
def Itc (lo c : Int) (n : Nat) : It := ⟨fun i _ => i < n, fun i H x H' => H' = H ∧ x = .int (lo + i * c), fun i _ => n ≤ i⟩
variable {tg : Expr}
def iRng3 (ta : TA) : TI := fun σ H R => ta σ H fun vs H1 => ∃ (i j c : Int) (n : Nat), vs = [.int i, .int j, .int c] ∧ c ≠ 0 ∧ c.natAbs < 1073741824 ∧ Builtin.Range.small i j c = true ∧ Builtin.Range.rangeSize i j c = (n : Int) ∧ R (Itc i c n) H1
end
theorem bt_len : bootBuiltins "len" = some (.builtin "len") := by decide +kernel
theorem bt_abs : bootBuiltins "abs" = some (.builtin "abs") := by decide +kernel
theorem bt_isinstance : bootBuiltins "isinstance" = some (.builtin "isinstance") := by decide +kernel
theorem bt_tuple : bootBuiltins "tuple" = some (.type "tuple") := by decide +kernel
theorem sz1 : 1 ≤ sizeLine := by decide
theorem sz2 : 2 ≤ sizeLine := by decide
theorem sz3 : 3 ≤ sizeLine := by decide
theorem sz4 : 4 ≤ sizeLine := by decide
theorem cutV_all {xs : List V} {n : Nat} (h : xs.length ≤ n) : cutV xs none (some (n : Int)) = xs := by
  unfold cutV
  rw [HT.sIx_nat, HT.sIx_none, Nat.min_eq_right h]
  simp
theorem ifF {c : Bool} {A B : Prop} (hc : c = false) (h : B) : if c = true then A else B := by subst hc; exact iteF h
theorem ifT {c : Bool} {A B : Prop} (hc : c = true) (h : A) : if c = true then A else B := by subst hc; exact iteT h
theorem if2 {c : Bool} {A B : Prop} (h1 : c = true → A) (h2 : c = false → B) : if c = true then A else B := by
  cases c
  · exact iteF (h2 rfl)
  · exact iteT (h1 rfl)
theorem kind_fi {k : Int} (h : TF.Kind k) : Builtin.Int.intBits k ≤ 64 := by rcases h with rfl | rfl | rfl | rfl <;> decide
theorem mulOk3 {k b d : Int} (hk : TF.Kind k) (hb : Fi b) (hd : Fi d) : IntMulOk (k * b) d := .of_le (intBits_mul_le (kind_fi hk) hb) hd (by decide)
def FiN (x : P2) : Prop := Fi x.1 ∧ Fi x.2
/-- both parts at most m -/
def Bd (m : Nat) (x : P2) : Prop := x.1.natAbs ≤ m ∧ x.2.natAbs ≤ m
theorem Bd.fi {m n : Nat} {x : P2} (h : Bd m x) (hm : m < 2 ^ n) (hn : n ≤ 20000000) : FiN x := ⟨fi_of (Nat.lt_of_le_of_lt h.1 hm) hn, fi_of (Nat.lt_of_le_of_lt h.2 hm) hn⟩
theorem Bd.mul {k : Int} (hk : TF.Kind k) {m n : Nat} {x y : P2} (hx : Bd m x) (hy : Bd n y) : Bd (4 * (m * n)) (TF.mul k x y) := by
  have a1 := Nat.mul_le_mul hx.1 hy.1
  have a2 := Nat.mul_le_mul hx.2 hy.2
  have a3 := Nat.mul_le_mul hx.1 hy.2
  have a4 := Nat.mul_le_mul hx.2 hy.1
  rw [← Int.natAbs_mul] at a1 a2 a3 a4
  have e : k * x.2 * y.2 = k * (x.2 * y.2) := Int.mul_assoc _ _ _
  constructor
  · show (x.1 * y.1 + k * x.2 * y.2).natAbs ≤ 4 * (m * n)
    rw [e]
    generalize x.1 * y.1 = u at *
    generalize x.2 * y.2 = v at *
    generalize m * n = q at *
    rcases hk with rfl | rfl | rfl | rfl <;> omega
  · show (x.1 * y.2 + x.2 * y.1).natAbs ≤ 4 * (m * n)
    generalize x.1 * y.2 = u at *
    generalize x.2 * y.1 = v at *
    generalize m * n = q at *
    omega
theorem Bd.conj {m : Nat} {x : P2} (h : Bd m x) : Bd m (TF.conj x) := ⟨h.1, by show (-x.2).natAbs ≤ m; rw [Int.natAbs_neg]; exact h.2⟩
theorem abs_if (i : Int) : (if i < 0 then -i else i) = ((i.natAbs : Nat) : Int) := by split <;> omega
/-! ### a def of the text, bound under its name -/
structure Dn (K : PySem.W.Frag) (mg : Str → Option Value) (x : Str) (st : Stmt) (f : Addr) (fd : FuncData) (ps : List Str) : Prop where
  F : Fun K x x st f fd
  b : Binds K fd ps []
  m : mg x = some (.ref f)
end L3

set_option Elab.async false
set_option linter.all false
set_option maxRecDepth 100000
set_option maxHeartbeats 4000000
namespace L4
open PySem PySem.Spec PyProof.Rows L2 L3
/-! ### exceptions of own classes under ValueError -/
abbrev bmV : List Value := [.type "ValueError", .type "Exception", .type "BaseException", .type "object"]
abbrev newV : String := "ValueError.__new__"
/-- an own class of exceptions, bound under its name -/
structure ExcC (K : PySem.W.Frag) (mg : Str → Option Value) (x : Str) (C : Addr) : Prop where
  m : mg x = some (.ref C)
  q : PySem.W.excIn K C bmV newV = true
theorem own_of {K : PySem.W.Frag} {h₀ : Heap} {mg : Str → Option Value} {x : Str} {C : Addr} (X : K.In h₀) (c : ExcC K mg x C) : OwnCls x C bmV newV mg h₀ := by
  obtain ⟨e, q⟩ := c
  refine ⟨e, ?_⟩
  unfold PySem.W.excIn at q
  split at q
  · rename_i dd cd sl ho
    split at q
    · rename_i C' bm k0 k1 k2 k3 n k5 hm hs
      simp only [Bool.and_eq_true, beq_iff_eq, Bool.not_eq_true'] at q
      obtain ⟨⟨⟨⟨⟨rfl, rfl⟩, hdel⟩, ht⟩, hok⟩, hni⟩ := q
      obtain ⟨nm, bs, mro, ns, qn, hd, sn, sub, ab, col, del⟩ := cd
      dsimp only at hm hdel hok hni
      subst hm hdel
      have hsl : sl = #[k0, k1, k2, k3, some (.builtin newV), k5] := by
        obtain ⟨l⟩ := sl
        simp only at hs
        rw [hs]
      subst hsl
      exact ⟨bm, ns, nm, qn, bs, hd, sn, sub, ab, col, dd, k0, k1, k2, k3, k5, _, X _ _ ho, .of_isNs (PySem.W.isNs_of_in X hok), PySem.W.nsMap_none_of_in X hok hni, PySem.W.tail_of_in X ht⟩
    · cases q
  · cases q
theorem there {P : Program} {w : World} {H : Hp} {h : Heap} {a : Addr} {o : HO} (x : ObjOk P w H h a o) : ∃ ob, h.get? a = some ob := by
  cases o with
  | lst xs => obtain ⟨_, _, _, _, e⟩ := x; exact ⟨_, e⟩
  | tup xs => obtain ⟨_, _, _, ob, e, _⟩ := x; exact ⟨_, e⟩
  | dK kvs => obtain ⟨_, _, _, _, o, _, _, e, _⟩ := x; exact ⟨_, e⟩
  | dT kvs => obtain ⟨_, _, _, _, o, _, _, e, _⟩ := x; exact ⟨_, e⟩
  | set S n => obtain ⟨o, _, _, _, e, _⟩ := x; exact ⟨_, e⟩
  | ins C dx fs => obtain ⟨_, _, _, e, _⟩ := x; exact ⟨_, e⟩
  | own y => obtain ⟨_, e⟩ := x; exact ⟨_, e⟩
  | xd fs => obtain ⟨_, ⟨_, _, _, e, _⟩, _⟩ := x; exact ⟨_, e⟩
  | rng lo hi => obtain ⟨_, _, _, e⟩ := x; exact ⟨_, e⟩
  | frz ob u => obtain ⟨e, _⟩ := x; exact ⟨_, e⟩
  | tbl ps => exact ⟨_, (show h.get? a = some _ from x)⟩
  | met f y => exact ⟨_, (show h.get? a = some _ from x)⟩
  | ext φ => obtain ⟨_, ⟨_, e⟩, _⟩ := x; exact ⟨_, e⟩
/-- what stays while an exception flies: B bears all that is tracked, and all that stood ahead of the call but the frames -/
structure Bears (B : Heap) (fs : List Addr) (H : Hp) (h : Heap) (H' : Hp) (h' : Heap) : Prop where
  trk : ∀ b u, H' b = some u → ∃ o, h'.get? b = some o ∧ B.get? b = some o
  old : ∀ b o, h.get? b = some o → H b = none → b ∉ fs → B.get? b = some o
  any : ∀ b o, h.get? b = some o → b ∉ fs → ∃ o', B.get? b = some o'
/-- an exception e of the class C flies out of a call -/
structure Cau (P : Program) (w : World) (outer : List Env) (H : Hp) (s : Shared) (e : Addr) (C : Value) (H' : Hp) (s' : Shared) : Prop where
  os : s'.os = s.os
  bare : AllBare s'.gens
  un : Un (frs outer) [] H H' s.heap s'.heap
  hok : HOk P w H' s'.heap
  fly : ∃ B a0, Heap.FlyingW B outer e C a0 s'.heap ∧ Bears B (frs outer) H s.heap H' s'.heap
def CX1 (P : Program) (w : World) : CXT := fun outer H s E ev s' => ∃ e C H', ev = .ref e ∧ Cau P w outer H s e C H' s' ∧ E C none H'
abbrev CXL (P : Program) (w : World) : CXT := CX1 P w
theorem cx1_false {P : Program} {w : World} {outer : List Env} {H : Hp} {s s' : Shared} {e : Value} (h : CX1 P w outer H s (fun _ _ _ => False) e s') : False := by
  obtain ⟨_, _, _, _, _, z⟩ := h
  exact z
theorem passL {P : Program} {w : World} {X : Cx} : Passes (CX1 P w) X E0 := fun _ _ _ _ _ _ _ h => (cx1_false h).elim
section
variable {X : Cx} {pins : List (Addr × Obj)} {σ : L2.St} {H H' : Hp} {s s' : Shared} {h' B : Heap} {e : Addr} {C a0 : Value}
/-- tracked things stay where B stays -/
theorem hok_of (hok : HOk X.prog X.w H' s'.heap) (c2 : ∀ b u, H' b = some u → ∃ o, s'.heap.get? b = some o ∧ B.get? b = some o) (st : B.StaysIn h') : HOk X.prog X.w H' h' := fun a o q => by
  refine (hok a o q).stay (fun b u hb r => ?_) (fun _ z => z) fun _ _ z => z
  have key : ∀ v, H' b = some v → h'.get? b = some u := fun v z => by
    obtain ⟨o', e1, e2⟩ := c2 b v z
    rw [r] at e1
    cases e1
    exact st b _ e2
  rcases hb with rfl | hb
  · exact key _ q
  · exact key _ hb
/-- the frame is left: the exception flies among the callers -/
theorem cau_left (I : Inv X pins σ H s) (hex : X.ex = []) (hst : X.stack = X.env :: X.outer) (hfr : X.env.frame = some X.env.locals) (hos : s'.os = s.os) (hb : AllBare s'.gens) (un : Un (frs X.stack) [] H H' s.heap s'.heap) (hok : HOk X.prog X.w H' s'.heap)
    (br : Bears B (frs X.stack) H s.heap H' s'.heap) (fl : Heap.FlyingW B X.outer e C a0 h') (sl : s'.heap.UpToSlots h') : Cau X.prog X.w X.outer X.H₀ X.s₀ e C H' { s' with heap := h' } := by
  have nox : ∀ b, b ∉ X.ex := fun b z => by rw [hex] at z; cases z
  have neL : ∀ b o, X.s₀.heap.get? b = some o → b ≠ X.env.locals := fun b o q => Nat.ne_of_lt (Nat.lt_of_lt_of_le (Heap.lt_size q) I.ok.above)
  have nfs : ∀ b o, X.s₀.heap.get? b = some o → b ∉ X.fs → b ∉ frs X.stack := fun b o q hb z => (List.mem_cons.mp (I.stkSub b z)).elim (neL b o q) hb
  have st := fl.1
  have old : ∀ b o, X.s₀.heap.get? b = some o → X.H₀ b = none → b ∉ X.fs → B.get? b = some o := fun b o q n hb =>
    br.old b o (I.base.keep b o q n hb (nox b)) (I.base.free b o q n (nox b)) (nfs b o q hb)
  have any : ∀ b o, X.s₀.heap.get? b = some o → b ∉ X.fs → ∃ o', B.get? b = some o' := fun b o q hb => by
    obtain ⟨o1, e1⟩ := I.base.there b o q (nox b)
    exact br.any b o1 e1 (nfs b o q hb)
  have slot : ∀ b o, X.s₀.heap.get? b = some o → X.H₀ b = none → b ∈ X.fs → ∃ sl, h'.get? b = some { o with slots := sl } := fun b o q n hb => by
    obtain ⟨sl1, e1⟩ := I.base.slot b o q n hb (nox b)
    have hin : b ∈ frs X.stack := by
      rw [hst]
      unfold frs
      rw [List.filterMap_cons, hfr]
      exact List.mem_cons_of_mem _ hb
    obtain ⟨sl2, e2⟩ := un.slot b _ e1 (I.base.free b o q n (nox b)) hin (by simp)
    obtain ⟨_, o', ho', hnf⟩ := I.ok.funs.mem hb
    rw [q] at ho'
    cases ho'
    obtain ⟨sl3, e3⟩ := sl b _ e2 hnf
    exact ⟨sl3, e3⟩
  have free : ∀ b o, X.s₀.heap.get? b = some o → X.H₀ b = none → H' b = none := fun b o q n => by
    obtain ⟨o1, e1⟩ := I.base.there b o q (nox b)
    exact un.free b o1 e1 (I.base.free b o q n (nox b)) (by simp)
  refine ⟨hos.trans I.os, hb, ⟨fun b o q n hb _ => st b o (old b o q n hb), fun b o q n hb _ => slot b o q n hb, fun b o q n _ => free b o q n, fun b o q _ => ?_, fun b xs q => un.tups b xs (I.base.tups b xs q), fun b o u q => un.frzs b o u (I.base.frzs b o u q), fun b ps q => ?_⟩, hok_of hok br.trk st, B, a0, fl, fun b u q => ?_, old, any⟩
  · by_cases hb : b ∈ X.fs
    · obtain ⟨sl, e1⟩ := slot b o q (I.ok.frf b hb) hb
      exact ⟨_, e1⟩
    · obtain ⟨o', e1⟩ := any b o q hb
      exact ⟨o', st b o' e1⟩
  · obtain ⟨m1, e1⟩ := I.base.tbls b ps q
    obtain ⟨m2, e2⟩ := un.tbls b _ e1
    exact ⟨m1 ++ m2, by rw [e2, Array.append_assoc]⟩
  · obtain ⟨o, _, e2⟩ := br.trk b u q
    exact ⟨o, st b o e2, e2⟩
end
section
variable {P : Program} {w : World} {K : PySem.W.Frag} {mg : Str → Option Value} {base : Heap} {N : List Str} {qual : Str} {scope : Scope} {f : Addr} {cd : Value} {A : Around} {outer : List Env} {s : Shared} {H : Hp} {E : XK}
/-- a callee's exception goes on to the callers -/
theorem passX : Passes (CX1 P w) (cxOf (CX1 P w) P w K mg base N qual scope f cd A outer s H E) E := by
  intro pins σ H1 s1 ev s' I h
  obtain ⟨e, C, H', rfl, ⟨os, bare, un, hok, B, a0, fl, br⟩, hE⟩ := h
  show wpAny _ _ (leaving _ _) _ _ _
  refine wpAny_leaves_onW (I.ok.frames) rfl fl fun h' fl' sl => ?_
  exact ⟨e, C, H', rfl, cau_left I rfl rfl rfl os bare un hok br fl' sl, hE⟩
/-- raise C(..) -/
def tRaise (E : XK) (C : Addr) (t : TA) : TS := fun _ σ H => t σ H fun xs H1 => xs.length ≤ sizeLine ∧ E (.ref C) none H1
theorem ps_raise {x : Str} {C : Addr} {e₀ : Expr} {rest : List Expr} {np cpos pos : Pos} {t : TA} (c : ExcC K mg x C) (hg : Gl (cxOf (CX1 P w) P w K mg base N qual scope f cd A outer s H E) x)
    (ha : PA (cxOf (CX1 P w) P w K mg base N qual scope f cd A outer s H E) (e₀ :: rest) t)
    (hd : (x == ("__debug__" : Str)) = false := by decide)
    (he : starEach (e₀ :: rest) (cxOf (CX1 P w) P w K mg base N qual scope f cd A outer s H E).env = (false, eval e₀ (cxOf (CX1 P w) P w K mg base N qual scope f cd A outer s H E).env) :: starEach rest (cxOf (CX1 P w) P w K mg base N qual scope f cd A outer s H E).env := by rfl)
    (hpl : (backTo cpos (starEach (e₀ :: rest) (cxOf (CX1 P w) P w K mg base N qual scope f cd A outer s H E).env)).any (·.1) = false := by rfl) :
    PS (cxOf (CX1 P w) P w K mg base N qual scope f cd A outer s H E) (.Raise (some (.Call (.Name x np) (e₀ :: rest) [] cpos)) none pos) (tRaise E C t) := by
  intro pins s1 σ H1 D I h
  obtain ⟨tl, Nn, nm, q, bs, hdct, sn, sub, ab, col, dd, k0, k1, k2, k3, k5, mN, hC, hN, hni, T⟩ := (own_of I.ok.mod.kin c).obj
  refine wpAny_Raise_call_subT (C := C) (nm := nm) (q := q) (N := Nn) (bs := bs) (bm := tl) (hdct := hdct) (sn := sn) (sub := sub) (ab := ab) (col := col) (dd := dd) (k0 := k0) (k1 := k1) (k2 := k2) (k3 := k3) (k5 := k5)
    PySem.F.excBase_ValueError (mN := mN) (T.hasType PySem.F.excBase_ValueError.hasBase) (I.ok.hd rfl) hpl hni (ld_glob I hg c.m ⟨rfl, ?_⟩ hd)
  have hA := ha cpos pins s1 σ H1 _ I h
  rw [he] at hA ⊢
  refine Calls.evalArgs_plain (thn hA fun us s2 ⟨vs, H2, I2, r, z, hE⟩ => ?_)
  refine ⟨rfl, by rw [← r.length]; exact z, I2.bk _ _ hC, hN.keeps I2.bk, T.keeps I2.bk, fun h' e mk => ?_⟩
  show wpAny _ _ (leaving _ _) _ _ _
  have hin : ∀ env ∈ (cxOf (CX1 P w) P w K mg base N qual scope f cd A outer s H E).stack, ∀ b, env.frame = some b → b ∈ frs (cxOf (CX1 P w) P w K mg base N qual scope f cd A outer s H E).stack := fun env he b hb => List.mem_filterMap.mpr ⟨env, he, hb⟩
  refine wpAny_leaves_madeW (base := PySem.W.hideAll s2.heap (frs (cxOf (CX1 P w) P w K mg base N qual scope f cd A outer s H E).stack)) I2.ok.frames rfl (fun b o q => PySem.W.of_hideAll _ q) (PySem.W.funFrames_hide I2.stack hin) mk fun h2 t fl tu nt sl => ?_
  have hok2 : HOk P w H2 h' := I2.hok.kept mk.keeps
  refine ⟨e, .ref C, H2, rfl, cau_left (s' := { s2 with heap := h' }) I2 rfl rfl rfl rfl I2.bare (Un.kept mk.keeps) hok2 ⟨fun b u q => ?_, fun b o q _ hb => PySem.W.hideAll_get _ q hb, fun b o q hb => ⟨o, PySem.W.hideAll_get _ q hb⟩⟩ fl sl, hE⟩
  obtain ⟨o, e1⟩ := there (I2.hok b u q)
  exact ⟨o, mk.keeps b o e1, PySem.W.hideAll_get _ e1 fun z => by rw [I2.stkFree b z] at q; cases q⟩
end
section
variable {P : Program} {w : World} {K : PySem.W.Frag} {mg : Str → Option Value} {base : Heap}
/-- a def whose body may raise -/
theorem _root_.L2.Fun.okX {x qual : Str} {st : Stmt} {f : Addr} {fd : FuncData} {N ps : List Str} {k : Nat} {sp : Sp} (F : Fun K x qual st f fd) (S : FnScope N ps (defScope st)) (len : ∀ vs H Q E, sp vs H Q E → vs.length = ps.length)
    (hbody : ∀ (cdv : Value) (A : Around) (outer : List Env) (s : Shared) (H : Hp) (vs : List V) (Q : VK) (E : XK), Room k (A.deeper (envOfC qual (defScope st) s.heap.objs.size f cdv)) → sp vs H Q E →
      ∃ t, PSs (cxOf (CX1 P w) P w K mg base N qual (defScope st) f cdv A outer s H E) (defBody st) t ∧ t { nx := fun _ H' => Q .non H', rt := Q } (start N vs) H) : FnOk P w K mg base (CX1 P w) (k + 1) f fd ps sp := by
  obtain ⟨oc, od, kV, doc, pm, an, cdv, ct, osl, rfl, lk, hcd⟩ := F.ex
  exact fn_of lk hcd S len fun A outer s H vs Q E hr hsp => hbody cdv A outer s H vs Q E hr hsp
/-- .. and one whose body does not -/
theorem _root_.L2.Fun.okL {x qual : Str} {st : Stmt} {f : Addr} {fd : FuncData} {N ps : List Str} {k : Nat} {sp : Sp} (F : Fun K x qual st f fd) (S : FnScope N ps (defScope st)) (len : ∀ vs H Q E, sp vs H Q E → vs.length = ps.length)
    (hbody : ∀ (cdv : Value) (A : Around) (outer : List Env) (s : Shared) (H : Hp) (vs : List V) (Q : VK) (E : XK), Room k (A.deeper (envOfC qual (defScope st) s.heap.objs.size f cdv)) → sp vs H Q E →
      ∃ t, PSs (cxOf (CX1 P w) P w K mg base N qual (defScope st) f cdv A outer s H E).nox (defBody st) t ∧ t { nx := fun _ H' => Q .non H', rt := Q } (start N vs) H) : FnOk P w K mg base (CX1 P w) (k + 1) f fd ps sp := by
  obtain ⟨oc, od, kV, doc, pm, an, cdv, ct, osl, rfl, lk, hcd⟩ := F.ex
  refine fn_of lk hcd S len fun A outer s H vs Q E hr hsp => ?_
  obtain ⟨t, h, q⟩ := hbody cdv A outer s H vs Q E hr hsp
  exact ⟨t, h.nox, q⟩
end
section
variable {X : Cx} {pins : List (Addr × Obj)} {σ : L2.St} {H H' : Hp} {s s' : Shared} {h' B : Heap} {e : Addr} {C a0 : Value}
/-- the frame's state while a callee's exception flies -/
theorem inv_fly (I : Inv X pins σ H s) (hos : s'.os = s.os) (hb : AllBare s'.gens) (un : Un (frs X.stack) [] H H' s.heap s'.heap) (hok : HOk X.prog X.w H' s'.heap) (br : Bears B (frs X.stack) H s.heap H' s'.heap)
    (st : B.StaysIn h') (sl : s'.heap.UpToSlots h') : Inv X pins σ H' { s' with heap := h' } := by
  have slot : ∀ b o, s.heap.get? b = some o → H b = none → b ∈ frs X.stack → ∃ sl, h'.get? b = some { o with slots := sl } := fun b o q n hb => by
    obtain ⟨sl2, e2⟩ := un.slot b _ q n hb (by simp)
    obtain ⟨_, o', ho', hnf⟩ := I.stack.mem hb
    rw [q] at ho'
    cases ho'
    obtain ⟨sl3, e3⟩ := sl b _ e2 hnf
    exact ⟨sl3, e3⟩
  refine I.call' (s' := { s' with heap := h' }) (ch := []) hos ⟨fun b o q n hb _ => st b o (br.old b o q n hb), fun b o q n hb _ => slot b o q n hb, un.free, fun b o q _ => ?_, un.tups, un.frzs, un.tbls⟩ (hok_of hok br.trk st) hb (fun b z => absurd z (by simp))
  by_cases hb : b ∈ frs X.stack
  · obtain ⟨sl, e1⟩ := slot b o q (I.stkFree b hb) hb
    exact ⟨_, e1⟩
  · obtain ⟨o', e1⟩ := br.any b o q hb
    exact ⟨o', st b o' e1⟩
abbrev _root_.L2.Cx.marked (X : Cx) (ev : Value) : Cx := { X with A := X.A.mark (some ev), calm := false }
theorem inv_mark (I : Inv X pins σ H s) (ev : Value) : Inv (X.marked ev) pins σ H s :=
  ⟨⟨I.ok.mod, I.ok.kind, I.ok.glob, I.ok.blt, I.ok.above, I.ok.inj, I.ok.has, I.ok.cab, (fun z => by cases z), I.ok.frames, I.ok.stk, I.ok.exf, I.ok.bs, I.ok.bsz, I.ok.noex, I.ok.exfs, I.ok.funs, I.ok.frf⟩, I.os, I.bare, I.base, I.loc, I.cell, I.free, I.freeC, I.pin, I.hok, I.len⟩
theorem inv_unmark {ev : Value} (ok : X.Ok) (I : Inv (X.marked ev) pins σ H s) : Inv X pins σ H s := ⟨ok, I.os, I.bare, I.base, I.loc, I.cell, I.free, I.freeC, I.pin, I.hok, I.len⟩
theorem sp_unmark {ev : Value} {D : Ends} {fl : Flow} (ok : X.Ok) (h : SP (X.marked ev) pins D fl s) : SP X pins D fl s := by
  cases fl with
  | next => obtain ⟨σ', H', I, q⟩ := h; exact ⟨σ', H', inv_unmark ok I, q⟩
  | brk => obtain ⟨σ', H', I, q⟩ := h; exact ⟨σ', H', inv_unmark ok I, q⟩
  | cont => obtain ⟨σ', H', I, q⟩ := h; exact ⟨σ', H', inv_unmark ok I, q⟩
  | ret u => obtain ⟨v, σ', H', I, r, q⟩ := h; exact ⟨v, σ', H', inv_unmark ok I, r, q⟩
/-- the context of a block under try: the pins of the outside stay, an exception is kept for the clauses -/
abbrev _root_.L2.Cx.tried (X : Cx) (pn : List (Addr × Obj)) (xe : Value → Shared → Prop) : Cx := { X with pn := pn, xe := xe }
theorem inv_try (I : Inv X pins σ H s) (xe : Value → Shared → Prop) : Inv (X.tried (X.pn ++ pins) xe) [] σ H s :=
  ⟨⟨I.ok.mod, I.ok.kind, I.ok.glob, I.ok.blt, I.ok.above, I.ok.inj, I.ok.has, I.ok.cab, I.ok.hd, I.ok.frames, I.ok.stk, I.ok.exf, I.ok.bs, I.ok.bsz, I.ok.noex, I.ok.exfs, I.ok.funs, I.ok.frf⟩, I.os, I.bare, I.base, I.loc, I.cell, I.free, I.freeC, by simpa using I.pin, I.hok, I.len⟩
theorem inv_untry {pins' : List (Addr × Obj)} {xe : Value → Shared → Prop} (I : Inv (X.tried (X.pn ++ pins) xe) pins' σ H s) : Inv X pins σ H s :=
  ⟨⟨I.ok.mod, I.ok.kind, I.ok.glob, I.ok.blt, I.ok.above, I.ok.inj, I.ok.has, I.ok.cab, I.ok.hd, I.ok.frames, I.ok.stk, I.ok.exf, I.ok.bs, I.ok.bsz, I.ok.noex, I.ok.exfs, I.ok.funs, I.ok.frf⟩, I.os, I.bare, I.base, I.loc, I.cell, I.free, I.freeC, fun p hp => I.pin p (List.mem_append_left _ hp), I.hok, I.len⟩
theorem sp_untry {pins' : List (Addr × Obj)} {xe : Value → Shared → Prop} {D : Ends} {fl : Flow} (h : SP (X.tried (X.pn ++ pins) xe) pins' D fl s) : SP X pins D fl s := by
  cases fl with
  | next => obtain ⟨σ', H', I, q⟩ := h; exact ⟨σ', H', inv_untry I, q⟩
  | brk => obtain ⟨σ', H', I, q⟩ := h; exact ⟨σ', H', inv_untry I, q⟩
  | cont => obtain ⟨σ', H', I, q⟩ := h; exact ⟨σ', H', inv_untry I, q⟩
  | ret u => obtain ⟨v, σ', H', I, r, q⟩ := h; exact ⟨v, σ', H', inv_untry I, r, q⟩
/-- what the clauses find -/
def Thrown (X : Cx) (pins : List (Addr × Obj)) (E' : XK) (ev : Value) (s' : Shared) : Prop :=
  ∃ e Cv H' σ' H0 sc, ev = .ref e ∧ E' Cv none H' ∧ Inv X pins σ' H0 sc ∧ Cau X.prog X.w X.stack H0 sc e Cv H' s'
theorem passT {E' : XK} : Passes (CX1 X.prog X.w) (X.tried (X.pn ++ pins) (Thrown X pins E')) E' := by
  intro pins' σ1 H1 s1 ev s2 I h
  obtain ⟨e, Cv, H', rfl, c, hE⟩ := h
  exact ⟨e, Cv, H', σ1, H1, s1, rfl, hE, inv_untry I, c⟩
/-- try: body; except C: suite -/
def tTry (E' : XK) (C : Addr) (n : Nat) (tb ts : TS) : TS := fun D σ H => tb D σ H ∧ ∀ Cv σ' H', E' Cv none H' → σ'.length = n → Cv = .ref C ∧ ts D σ' H'
end
end L4

set_option Elab.async false
set_option linter.all false
set_option maxRecDepth 100000
set_option maxHeartbeats 4000000
namespace L5
open PySem PySem.Spec PyProof.Rows L2 L3 L4
theorem test_iff {m n : P2} : (if false = true then !decide (m = n) else decide (m = n)) = true ↔ m = n := by simp
theorem mul_law (k : Int) (x y : P2) : ((x.1 * y.1 + x.2 * y.2 * k, x.2 * y.1 + x.1 * y.2) : P2) = TF.mul k x y := by
  apply TF.ext <;> simp only [TF.mul] <;> grind
theorem conj_law (x : P2) : ((x.1, 0 - x.2) : P2) = TF.conj x := by
  apply TF.ext <;> simp only [TF.conj] <;> omega
theorem _root_.L3.FiN.conj {x : P2} (h : FiN x) : FiN (TF.conj x) := ⟨h.1, intBits_neg_le h.2⟩
/-- what a division asks of its numbers -/
structure DivOk (k : Int) (x y : P2) : Prop where
  hk : TF.Kind k
  hx : Bd (2 ^ 1000) x
  hy : Bd (2 ^ 1000) y
  ne : y ≠ (0, 0)
theorem DivOk.fx {k : Int} {x y : P2} (d : DivOk k x y) : FiN x := d.hx.fi (n := 1001) (Nat.pow_lt_pow_right (by decide) (by decide)) (by decide)
theorem DivOk.fy {k : Int} {x y : P2} (d : DivOk k x y) : FiN y := d.hy.fi (n := 1001) (Nat.pow_lt_pow_right (by decide) (by decide)) (by decide)
theorem _root_.L3.Bd.nm {k : Int} (hk : TF.Kind k) {m : Nat} {x : P2} (hx : Bd m x) : (TF.nm k x).natAbs ≤ 4 * (m * m) := by
  have h := (hx.mul hk hx.conj).1
  rw [TF.mul_conj] at h
  exact h
theorem DivOk.nz {k : Int} {x y : P2} (d : DivOk k x y) : TF.nm k y ≠ 0 := fun h => d.ne ((TF.nm_zero d.hk).mp h)
theorem DivOk.small {k : Int} {x y : P2} (d : DivOk k x y) : (TF.nm k y).natAbs < 2 ^ 8000 := by
  have h := d.hy.nm d.hk
  have e : 4 * (2 ^ 1000 * 2 ^ 1000) = 2 ^ 2002 := by rw [← Nat.pow_add, show (4 : Nat) = 2 ^ 2 by rfl, ← Nat.pow_add]
  rw [e] at h
  exact Nat.lt_of_le_of_lt h (Nat.pow_lt_pow_right (by decide) (by decide))
theorem log_ok {d : Int} (h0 : d ≠ 0) (h : d.natAbs < 2 ^ 8000) : 2 * d ≠ 0 ∧ (2 * d).natAbs.log2 < 9000 := by
  refine ⟨by omega, (Nat.log2_lt (by omega)).mpr ?_⟩
  have e : (2 : Nat) ^ 9000 = 2 ^ 8000 * 2 ^ 1000 := by rw [← Nat.pow_add]
  have e1 : (2 : Nat) ≤ 2 ^ 1000 := Nat.le_trans (by decide) (Nat.pow_le_pow_right (by decide) (show 1 ≤ 1000 by decide))
  rw [e]
  have := Nat.mul_le_mul_left (2 ^ 8000) e1
  generalize (2 : Nat) ^ 8000 = m at *
  generalize (2 : Nat) ^ 1000 = l at *
  omega
theorem DivOk.bq {k : Int} {x y : P2} (d : DivOk k x y) : Bd (2 ^ 2003) (TF.quo k x y) := by
  have h := d.hx.mul d.hk d.hy.conj
  have e : 4 * (2 ^ 1000 * 2 ^ 1000) = 2 ^ 2002 := by rw [← Nat.pow_add, show (4 : Nat) = 2 ^ 2 by rfl, ← Nat.pow_add]
  have e2 : 2 ^ 2003 = 2 ^ 2002 * 2 := Nat.pow_succ 2 2002
  have e3 : 1 ≤ 2 ^ 2002 := Nat.one_le_two_pow
  have h1 := TF.rnd_bd (p := (TF.mul k x (TF.conj y)).1) d.nz
  have h2 := TF.rnd_bd (p := (TF.mul k x (TF.conj y)).2) d.nz
  have h3 := h.1
  have h4 := h.2
  rw [e] at h3 h4
  unfold TF.quo Bd
  dsimp only
  rw [e2]
  generalize (2 : Nat) ^ 2002 = m at *
  omega
theorem DivOk.fq {k : Int} {x y : P2} (d : DivOk k x y) : FiN (TF.quo k x y) := d.bq.fi (n := 2004) (Nat.pow_lt_pow_right (by decide) (by decide)) (by decide)
theorem eq_of_test {m n : P2} (h : (if false = true then !decide (m = n) else decide (m = n)) = true) : m = n := by simpa using h
theorem ne_of_test {m n : P2} (h : (if false = true then !decide (m = n) else decide (m = n)) = false) : m ≠ n := by simpa using h
theorem add_neg (x y : P2) : TF.add x (-y.1, -y.2) = TF.sub x y := by
  apply TF.ext <;> simp only [TF.add, TF.sub] <;> omega
/-- a statement behind which one word is kept -/
def tJ (t : TS) : TS := fun D σ H => ∃ J : L2.St → Hp → Prop, (∀ σ H, J σ H → D.nx σ H) ∧ t { D with nx := J } σ H
theorem ps_J {X : Cx} {st : Stmt} {t : TS} (h : PS X st t) : PS X st (tJ t) := by
  intro pins s σ H D I q
  obtain ⟨J, hJ, q⟩ := q
  refine thn (h pins s σ H _ I q) fun f s1 z => ?_
  cases f with
  | next => obtain ⟨σ', H', I', z⟩ := z; exact ⟨σ', H', I', hJ _ _ z⟩
  | brk => exact z
  | cont => exact z
  | ret u => exact z
theorem _root_.L3.Bd.mono {m n : Nat} {x : P2} (h : Bd m x) (hm : m ≤ n) : Bd n x := ⟨Nat.le_trans h.1 hm, Nat.le_trans h.2 hm⟩
theorem _root_.L3.Bd.sub {m n : Nat} {x y : P2} (hx : Bd m x) (hy : Bd n y) : Bd (m + n) (TF.sub x y) := by
  obtain ⟨h1, h2⟩ := hx
  obtain ⟨h3, h4⟩ := hy
  unfold TF.sub Bd
  dsimp only
  omega
theorem DivOk.br {k : Int} {x y : P2} (d : DivOk k x y) : Bd (2 ^ 3006) (TF.rest k x y) := by
  have h := d.hx.sub (d.bq.mul d.hk d.hy)
  refine h.mono ?_
  have e : 4 * (2 ^ 2003 * 2 ^ 1000) = 2 ^ 3005 := by rw [← Nat.pow_add, show (4 : Nat) = 2 ^ 2 by rfl, ← Nat.pow_add]
  have e2 : 2 ^ 3006 = 2 ^ 3005 * 2 := Nat.pow_succ 2 3005
  have e3 : 2 ^ 1000 ≤ 2 ^ 3005 := Nat.pow_le_pow_right (by decide) (by decide)
  rw [e, e2]
  generalize (2 : Nat) ^ 3005 = m at *
  generalize (2 : Nat) ^ 1000 = l at *
  omega
theorem DivOk.fn {k : Int} {x y : P2} (d : DivOk k x y) : Fi (TF.nm k y) := fi_of d.small (by decide)
theorem bl_ne {b c : Bool} (h : b = c) : (!decide (V.bl b = V.bl c)) = false := by subst h; simp
end L5

set_option Elab.async false
set_option linter.all false
set_option maxRecDepth 100000
set_option maxHeartbeats 4000000
namespace L6
open PySem PySem.Spec PyProof.Rows L2 L3 L4 L5
/-! ### [elt for x in range(a)], what elt names besides x stands in cells -/
abbrev _root_.L2.Cx.comp (X : Cx) (sc : Scope) (cl : List (Str × Addr)) (C : Addr) (Nc : List Str) (s₀ : Shared) (H₀ : Hp) (fp : List Addr) (pn : List (Addr × Obj)) : Cx :=
  { X with env := compEnvC sc cl C X.env, N := Nc, s₀ := s₀, H₀ := H₀, outer := X.stack, ex := fp, fn := fun _ => false, pn := pn, xe := fun _ _ => False }
def tLCR (fx : List Nat) (ta : TA) (te : TE) : TE := fun σ H Q => ta σ H fun vs H1 => ∃ n : Nat, vs = [.int n] ∧ n < sizeLine ∧ ∃ (vals : List V) (W : Nat → List V → Hp → Prop), vals.length = fx.length ∧
  (∀ (j i : Nat) (v : V), fx[j]? = some i → vals[j]? = some v → σ[i]? = some (some v)) ∧ (∀ (i : Nat) xs Hc D ys zs, Hc D = some (.lst ys) → W i xs Hc → W i xs (upd Hc D (.lst zs))) ∧ (∀ H2, Same H1 H2 → W 0 [] H2) ∧
  (∀ (i : Nat) xs Hc, i < n → Same H1 Hc → W i xs Hc → te (some (.int i) :: vals.map some) Hc fun v H' => Same Hc H' ∧ W (i + 1) (xs ++ [v]) H') ∧
  (∀ p xs H', Same H1 H' → H1 p = none → H' p = some (.lst xs) → W n xs H' → Q (.ref p) H')
section
variable {X : Cx}
structure CompOk (X : Cx) (sc : Scope) (cl : List (Str × Addr)) (x : Str) (Nc : List Str) (fx : List Nat) : Prop where
  clos : closureFor sc X.env = pure cl
  sub : ∀ n c, cl.lookup n = some c → X.env.cells.lookup n = some c
  ncell : ∀ y ∈ sc.names, y.2 ≠ .cell
  kind : sc.kind = .function
  names : ∀ y ∈ sc.names, y.2 = .local → sc.names.lookup y.1 = some .local
  loc : sc.names.lookup x = some .local
  has : ∀ y, ((relabel sc X.env).names.lookup y = some .cell ∨ (relabel sc X.env).names.lookup y = some .free) → ∃ c, cl.lookup y = some c
  nd : Nc.Nodup
  head : Nc[0]? = some x
  len : Nc.length = fx.length + 1
  slot : ∀ (j i : Nat) (y : Str), fx[j]? = some i → Nc[j + 1]? = some y → X.N[i]? = some y ∧ X.env.kindOf y = some .cell ∧ (relabel sc X.env).names.lookup y = some .cell
theorem comp_start {sc : Scope} {cl : List (Str × Addr)} {x : Str} {Nc : List Str} {fx : List Nat} (ok : CompOk X sc cl x Nc fx) {pins : List (Addr × Obj)} {σ : L2.St} {H H3 : Hp} {s : Shared} {h1 : Heap} {tk : Nat} {m : Str → Option Value} {C : Addr} {fp : List Addr} {vals : List V}
    (I : Inv X pins σ H s) (hC : s.heap.objs.size ≤ C) (hns : h1.Ns C m) (hn3 : H3 C = none) (un : Un (frs X.stack) fp H H3 s.heap h1) (hk : ∀ b o, s.heap.get? b = some o → h1.get? b = some o) (hfree : ∀ b o, s.heap.get? b = some o → H b = none → H3 b = none) (hok : HOk X.prog X.w H3 h1) (hf : ∀ b ∈ fp, FpOk X pins H b) (hex : X.ex = [])
    (hl : vals.length = fx.length) (hv : ∀ (j i : Nat) (v : V), fx[j]? = some i → vals[j]? = some v → σ[i]? = some (some v)) (hlt : ∀ b ∈ fp, b < s.heap.objs.size) :
    Inv (X.comp sc cl C Nc s H fp (X.pn ++ pins)) [] (none :: vals.map some) H3 { s with heap := h1, toks := tk } := by
  have neC : ∀ b o, s.heap.get? b = some o → b ≠ C := fun b o e => Nat.ne_of_lt (Nat.lt_of_lt_of_le (Heap.lt_size e) hC)
  refine ⟨⟨I.ok.mod, ok.kind, I.ok.glob, I.ok.blt, hC, fun y z c h1 h2 => I.ok.inj y z c (ok.sub _ _ h1) (ok.sub _ _ h2), ok.has, (fun y c h _ => by cases h), I.ok.hd, I.ok.frames, .inl rfl, fun b hb => ⟨Nat.ne_of_lt (Nat.lt_of_lt_of_le (hlt b hb) hC), fun y c e => (hf b hb).2.2.2.2.1 y c (ok.sub _ _ e)⟩, I.bs, Nat.le_trans I.ok.bsz I.sz, fun b o e hb => ?_, fun b hb z => ?_, I.stack, I.stkFree⟩,
    rfl, I.bare, un, ⟨m, hns, fun i y v h1 h2 h3 => ?_⟩, fun y c e => ?_, hn3, fun y c e => ?_, fun p hp => ?_, hok, ?_⟩
  · rcases (hf b hb).2.2.2.1 with z | z
    · rw [hex] at z; cases z
    · exact absurd (Nat.lt_of_lt_of_le (Heap.lt_size e) (Nat.le_trans I.ok.bsz z)) (Nat.lt_irrefl _)
  · exact (List.mem_cons.mp (I.stkSub b z)).elim (hf b hb).2.1 (hf b hb).2.2.1
  · cases i with
    | zero => cases h2
    | succ j =>
      have hj : (vals.map some)[j]? = some (some v) := h2
      rw [List.getElem?_map] at hj
      cases e : vals[j]? with
      | none => rw [e] at hj; cases hj
      | some v' =>
        rw [e] at hj
        cases hj
        have hlt' : j < fx.length := by
          rw [← hl]
          exact (List.getElem?_eq_some_iff.mp e).1
        have ei : fx[j]? = some fx[j] := List.getElem?_eq_getElem hlt'
        obtain ⟨a1, a2, a3⟩ := ok.slot j _ y ei h1
        obtain ⟨m', hn', hl'⟩ := I.loc
        obtain ⟨u, r, lk⟩ := hl' _ y v a1 (hv j _ v ei e) (.inr (.inl a2))
        refine ⟨u, r, .inr ⟨.inl a3, ?_⟩⟩
        rcases lk with ⟨k1, _⟩ | ⟨_, c, c1, c2⟩
        · rw [a2] at k1; cases k1
        · obtain ⟨c', e'⟩ := ok.has y (.inl a3)
          have := ok.sub _ _ e'
          rw [c1] at this
          cases this
          exact ⟨c, e', c2.keeps hk⟩
  · obtain ⟨v, z⟩ := I.cell y c (ok.sub _ _ e)
    exact ⟨v, z.keeps hk⟩
  · obtain ⟨v, o, ho, _⟩ := I.cell y c (ok.sub _ _ e)
    exact hfree c o ho (I.freeC y c (ok.sub _ _ e))
  · rw [List.append_nil] at hp
    obtain ⟨e, n, ne, nf, d⟩ := I.pin p hp
    exact ⟨hk _ _ e, hfree _ _ e n, neC _ _ e, fun z => (List.mem_cons.mp (I.stkSub _ z)).elim ne nf, d⟩
  · show (none :: vals.map some).length = Nc.length
    rw [List.length_cons, List.length_map, hl, ok.len]
theorem comp_run {elt iter : Expr} {x : Str} {px pos : Pos} {sc : Scope} {te : TE} {cl : List (Str × Addr)} {Nc : List Str} {fx : List Nat} (hc : X.calm = true) (hex : X.ex = []) (ok : CompOk X sc cl x Nc fx)
    (he : ∀ s₀ H₀ C fp pn, PE (X.comp sc cl C Nc s₀ H₀ fp pn) elt te) {pins : List (Addr × Obj)} {σ : L2.St} {H1 : Hp} {s2 : Shared} {it : Addr} {n : Nat} {Q : VK} {vals : List V} {W : Nat → List V → Hp → Prop} (I : Inv X pins σ H1 s2) (hn : n < sizeLine)
    (st : IsRangeIter s2.heap it (0 + ((0 : Nat) : Int) * 1) ((n : Int) - ((0 : Nat) : Int)) 1) (hit : FpOk X pins H1 it) (hl : vals.length = fx.length) (hv : ∀ (j i : Nat) (v : V), fx[j]? = some i → vals[j]? = some v → σ[i]? = some (some v))
    (hst : ∀ (i : Nat) xs Hc D ys zs, Hc D = some (.lst ys) → W i xs Hc → W i xs (upd Hc D (.lst zs))) (h0 : ∀ H2, Same H1 H2 → W 0 [] H2)
    (step : ∀ (i : Nat) xs Hc, i < n → Same H1 Hc → W i xs Hc → te (some (.int i) :: vals.map some) Hc fun v H' => Same Hc H' ∧ W (i + 1) (xs ++ [v]) H')
    (fin : ∀ p xs H', Same H1 H' → H1 p = none → H' p = some (.lst xs) → W n xs H' → Q (.ref p) H') :
    wpAny (model X.prog X.w) X.A (newList []) (fun acc s₃ => wpAny (model X.prog X.w) X.A (newFunctionEnv sc X.env.globals cl [] X.env.qual none .none (some X.env)) (fun cenv s₄ =>
      codeAny (model X.prog X.w) X.A (.compStart (.ListComp elt [⟨.Name x px, iter, [], 0⟩] sc pos) 0 (.ref it) acc { cenv with scope := relabel sc X.env }) (compPost (model X.prog X.w) X.A X.xe none (EP X pins σ Q) acc cenv.locals) s₄) X.xe s₃) X.xe s2 := by
  refine wpAny_newObj_type (wpAny_newFunctionEnv ok.ncell (by intro y hy; simp at hy) (fun h₁ hns₁ hsb₁ => ?_) ok.kind)
  dsimp only at hns₁ hsb₁ ⊢
  generalize hH2 : s2.heap.push { cls := .type "list", dict := none, data := .seq ([] : List Value).toArray } = H2 at hns₁ hsb₁ ⊢
  have hC : H2.objs.size = s2.heap.objs.size + 1 := by rw [← hH2, Heap.size_push]
  have hDC : s2.heap.objs.size ≠ H2.objs.size := by rw [hC]; exact Nat.ne_of_lt (Nat.lt_succ_self _)
  have hCle : s2.heap.objs.size ≤ H2.objs.size := by rw [hC]; exact Nat.le_succ _
  have below : ∀ b, b < s2.heap.objs.size → b ≠ H2.objs.size ∧ b ≠ s2.heap.objs.size := fun b hb => ⟨by rw [hC]; exact Nat.ne_of_lt (Nat.lt_succ_of_lt hb), Nat.ne_of_lt hb⟩
  have old : ∀ b o, s2.heap.get? b = some o → h₁.get? b = some o := fun b o e => hsb₁.extBut b o (below b (Heap.lt_size e)).1 (Heap.get?_push_of_some _ (hH2 ▸ Heap.get?_push_of_some _ e))
  have hacc : h₁.get? s2.heap.objs.size = some { cls := .type "list", data := .seq ([] : List Value).toArray } := hsb₁.extBut _ _ hDC (Heap.get?_push_of_some _ (hH2 ▸ Heap.get?_push_size _ rfl))
  have fD : H1 s2.heap.objs.size = none := I.hok.fresh (Nat.le_refl _)
  have fC : H1 H2.objs.size = none := I.hok.fresh hCle
  have itlt : it < s2.heap.objs.size := Heap.lt_size st
  have hok1 : HOk X.prog X.w (upd H1 s2.heap.objs.size (.lst [])) h₁ := I.hok.laid old (Nat.le_refl _) ⟨Nat.zero_le _, [], 0, .nil, hacc⟩
  have I0 := comp_start (tk := s2.toks + ([] : List (Str × Value)).length) (C := H2.objs.size) (fp := [it]) (H3 := upd H1 s2.heap.objs.size (.lst [])) ok I hCle hns₁ (by rw [upd_ne hDC.symm]; exact fC) (Un.laid old (Nat.le_refl _) fD) old
    (fun b o e nb => by rw [upd_ne (below b (Heap.lt_size e)).2]; exact nb) hok1 (fun b hb => by obtain rfl := List.mem_singleton.mp hb; exact hit) hex hl hv (fun b hb => by obtain rfl := List.mem_singleton.mp hb; exact itlt)
  have st1 : IsRangeIter h₁ it (0 + ((0 : Nat) : Int) * 1) ((n : Int) - ((0 : Nat) : Int)) 1 := old _ _ st
  have WR := Walks.range (prog := X.prog) (w := X.w) (I.ok.hd hc) it 0 1 n
  have hitc : ∀ {pns : List (Addr × Obj)} {Hc : Hp}, Hc it = none → (∀ p ∈ pns, p.1 ≠ it) → FpOk (X.comp sc cl H2.objs.size Nc s2 H1 [it] (X.pn ++ pins)) pns Hc it := fun {pns Hc} h1 h2 =>
    ⟨h1, (below it itlt).1, fun z => (List.mem_cons.mp (I.stkSub it z)).elim hit.2.1 hit.2.2.1, .inl (List.mem_singleton.mpr rfl), fun y c e => hit.2.2.2.2.1 y c (ok.sub _ _ e), fun p hp => (List.mem_append.mp hp).elim (fun z => hit.2.2.2.2.2 p z) (h2 p)⟩
  have loop : ∀ s₃ : Shared, s₃ = { s2 with heap := h₁, toks := s2.toks + ([] : List (Str × Value)).length } →
      codeAny (model X.prog X.w) X.A (.compLoop (.ListComp elt [⟨.Name x px, iter, [], 0⟩] sc pos) 0 (.ref it) (.ref s2.heap.objs.size) (compEnvC sc cl H2.objs.size X.env))
        (compPost (model X.prog X.w) X.A X.xe none (EP X pins σ Q) (.ref s2.heap.objs.size) H2.objs.size) s₃ := by
    rintro s₃ rfl
    refine codeAny_compLoop_list (fun k s => ∃ (i : Nat) (o : Option V) (xs : List V) (Hc : Hp), k = n - i ∧ i ≤ n ∧ xs.length = i ∧ Inv (X.comp sc cl H2.objs.size Nc s2 H1 [it] (X.pn ++ pins)) [] (o :: vals.map some) Hc s ∧ IsRangeIter s.heap it (0 + (i : Int) * 1) ((n : Int) - (i : Int)) 1 ∧ Hc it = none ∧ Hc s2.heap.objs.size = some (.lst xs) ∧ Same H1 Hc ∧ W i xs Hc) ?_ n
      ⟨0, none, [], _, rfl, Nat.zero_le _, rfl, I0, st1, by rw [upd_ne (below it itlt).2]; exact hit.1, upd_same, Same.up fD, h0 _ (Same.up fD)⟩
    rintro k s3 ⟨i, o, xs, Hc, rfl, hi, hxl, Ic, st3, fi, hD, sm, w⟩
    by_cases hlt : i < n
    · refine WR.item i s3 _ _ hlt st3 fun v h' tk hv' st' kk => ?_
      obtain ⟨t, rfl⟩ := hv'
      obtain ⟨f0, f1, f2, f3, f4, f5⟩ := hitc (pns := []) fi (fun _ z => nomatch z)
      have I4 : Inv (X.comp sc cl H2.objs.size Nc s2 H1 [it] (X.pn ++ pins)) [] (o :: vals.map some) Hc { s3 with heap := h', toks := tk } := Ic.turned (fun b o hb e => kk b o (by simpa using hb) e) f0 f1 f3 f4 f5
      have I4p := I4.pinned (fp := [it]) (fun b hb => by obtain rfl := List.mem_singleton.mp hb; exact hitc fi (fun _ z => nomatch z)) (fun b hb => by
        obtain rfl := List.mem_singleton.mp hb
        exact ⟨_, st', fun v z => by
          have z' : Data.fields _ = Data.cell v := z
          cases z'⟩)
      show wpAny _ _ (assign (.Name x px) _ _) _ _ _
      refine wpAny_assign_Name (store_ok (X := X.comp sc cl H2.objs.size Nc s2 H1 [it] (X.pn ++ pins)) (v := .int (0 + (i : Int) * 1)) I4p ok.nd ok.head (.inl (lookup_relabel_local ok.loc)) ⟨t, rfl⟩ (fun s5 I5 => ?_) (.inr (lookup_relabel_local ok.loc)))
      have ei : (0 + (i : Int) * 1) = (i : Int) := by omega
      have I5' : Inv (X.comp sc cl H2.objs.size Nc s2 H1 [it] (X.pn ++ pins)) ([] ++ pinsAt [it] h') (some (.int (i : Int)) :: vals.map some) Hc s5 := by
        have z := I5
        rw [ei] at z
        exact z
      refine wpAny_mono (he s2 H1 H2.objs.size [it] (X.pn ++ pins) _ s5 _ Hc _ I5' (step i xs Hc hlt sm w)) (fun u s6 q6 => ?_) (fun _ _ z => z.elim)
      obtain ⟨y, H6, I6, r6, sm6, w6⟩ := q6
      have hD6 := sm6 _ _ hD
      refine wpAny_mono (mt_append (X := X.comp sc cl H2.objs.size Nc s2 H1 [it] (X.pn ++ pins)) _ s6 _ H6 (.ref s2.heap.objs.size) [y] (.ref s2.heap.objs.size) [u] (fun v H7 => v = .non ∧ H7 = upd H6 s2.heap.objs.size (.lst (xs ++ [y]))) I6 rfl (.cons r6 .nil) ⟨_, xs, y, rfl, rfl, hD6, by omega, rfl, rfl⟩) (fun u7 s7 q7 => ?_) (fun _ _ z => z.elim)
      obtain ⟨v7, H7, I7, r7, rfl, rfl⟩ := q7
      have pin7 := I7.pin (it, _) (List.mem_append_right _ (mem_pinsAt (List.mem_singleton.mpr rfl) st'))
      refine ⟨n - (i + 1), by omega, i + 1, _, xs ++ [y], _, rfl, hlt, by rw [List.length_append, hxl]; rfl, I7.unpinned (pins := []), ?_, pin7.2.1, upd_same, ?_, hst _ _ _ _ _ _ hD6 w6⟩
      · exact pin7.1
      · intro b u e
        rw [upd_ne (ne_of_none e fD)]
        exact sm6 _ _ (sm _ _ e)
    · have e : i = n := by omega
      subst e
      refine WR.done s3 _ _ st3 fun h' tk kk => ?_
      obtain ⟨f0, f1, f2, f3, f4, f5⟩ := hitc (pns := []) fi (fun _ z => nomatch z)
      have I4 : Inv (X.comp sc cl H2.objs.size Nc s2 H1 [it] (X.pn ++ pins)) [] (o :: vals.map some) Hc { s3 with heap := h', toks := tk } := Ic.turned (fun b o hb e => kk b o (by simpa using hb) e) f0 f1 f3 f4 f5
      obtain ⟨m4, hn4, _⟩ := id I4.loc
      refine ⟨m4, hn4, fun h'' sb => ?_⟩
      have kp : ∀ b o, b ≠ H2.objs.size → h'.get? b = some o → h''.get? b = some o := fun b o hb e => (sb.2 b hb).trans e
      have hokc : HOk X.prog X.w Hc h'' := fun b u e => by
        refine (I4.hok b u e).stay (fun c v hc q => kp c v ?_ q) (fun _ q => q) fun _ _ q => q
        have hfc : Hc H2.objs.size = none := I4.free
        rintro rfl
        rcases hc with z | z
        · rw [← z, hfc] at e; cases e
        · rw [hfc] at z; cases z
      have un4 : Un (frs X.stack) [it] H1 Hc s2.heap h' := I4.base
      have neC : ∀ b o, s2.heap.get? b = some o → b ≠ H2.objs.size := fun b o e => (below b (Heap.lt_size e)).1
      have un5 : Un (frs X.stack) [it] H1 Hc s2.heap h'' := ⟨fun b o e nb hb hx => kp b o (neC b o e) (un4.keep b o e nb hb hx), fun b o e nb hb hx => by
        obtain ⟨sl, e1⟩ := un4.slot b o e nb hb hx
        exact ⟨sl, kp b _ (neC b o e) e1⟩, un4.free, fun b o e hx => by
        obtain ⟨o', e1⟩ := un4.there b o e hx
        exact ⟨o', kp b _ (neC b o e) e1⟩, un4.tups, un4.frzs, un4.tbls⟩
      have I9 : Inv X pins σ Hc { s3 with heap := h'', toks := tk } := I.call' (s' := { s3 with heap := h'', toks := tk }) (ch := [it]) I4.os un5 hokc I4.bare (fun b hb => by
        obtain rfl := List.mem_singleton.mp hb
        exact ⟨hit.2.2.2.1, hit.2.1, hit.2.2.2.2.1, hit.2.2.2.2.2⟩)
      exact ⟨.ref s2.heap.objs.size, Hc, I9, rfl, fin _ xs Hc sm fD hD w⟩
  exact codeAny_compStart_list (loop _ rfl) (WR.self 0 _ _ _ st1 (loop _ rfl))
theorem pe_lcr {elt a : Expr} {x : Str} {px p rpos pos : Pos} {sc : Scope} {ta : TA} {te : TE} {cl : List (Str × Addr)} {Nc : List Str} {fx : List Nat} (hg : Gl X "range") (hm : X.mg "range" = none) (hc : X.calm = true) (hex : X.ex = [])
    (ha : PA X [a] ta) (ok : CompOk X sc cl x Nc fx) (he : ∀ s₀ H₀ C fp pn, PE (X.comp sc cl C Nc s₀ H₀ fp pn) elt te) (hs : starEach [a] X.env = [(false, eval a X.env)] := by rfl)
    (hfs : ∀ v, foldedSetIterable (.Call (.Name "range" p) [a] [] rpos) X.env v = pure v := by intro _; rfl) :
    PE X (.ListComp elt [⟨.Name x px, .Call (.Name "range" p) [a] [] rpos, [], 0⟩] sc pos) (tLCR fx ta te) := by
  intro pins s σ H Q I h
  rw [eval_ListComp]
  refine wpAny_comprehension_free (use := none) rfl hfs ok.clos ok.kind ok.names ?_
  show wpAny _ _ (eval (.Call (.Name "range" p) [a] [] rpos) X.env) _ _ s
  refine Call_ (ld_blt I hg hm boot_range (PyProof.Rows.callWith_type1 (thn (ha rpos pins s σ H _ I h) fun us s1 ⟨vs, H1, I1, r1, q1⟩ => ?_) hs rfl))
  obtain ⟨n, e, hn, vals, W, hl, hv, hst, h0, step, fin⟩ := q1
  subst e
  obtain ⟨u, rfl, t, rfl⟩ := vals1 r1
  have hs16 : sizeLine = 16777216 := sizeLine_eq
  refine call_range_1 ?_
  refine wpAny_pyIter_range (IsRange.new ..) (small_one (by omega) (by omega) (by omega) (by omega)) ?_
  have Ia : ∀ tk, Inv X pins σ H1 { s1 with heap := s1.heap.push { cls := .type "range", data := .fields #[.int 0 s1.toks, .int n t, .int 1 (s1.toks + 1)] }, toks := tk } := fun tk => I1.kept fun b o e => Heap.get?_push_of_some _ e
  dsimp only
  refine comp_run hc hex ok he (W := W) (n := n) ?_ hn ?_ ?_ hl hv hst h0 step fin
  · exact (Ia 0).kept fun b o e => Heap.get?_push_of_some _ e
  · have e1 : (0 : Int) + ((0 : Nat) : Int) * 1 = 0 := by simp
    have e2 : (n : Int) - ((0 : Nat) : Int) = Builtin.Range.rangeSize 0 n 1 := by rw [rangeSize_one]; split <;> omega
    rw [e1, e2]
    exact Heap.get?_push_size _ rfl
  · exact (Ia 0).fpOk (Nat.le_refl _) (I1.hok.fresh (by rw [Heap.size_push]; exact Nat.le_succ _))
end
theorem ix_tupK {X : Cx} {K : PySem.W.Frag} (h : X.K = K) : IxR X (rIxT K) := by subst h; exact ix_tup
end L6

set_option Elab.async false
set_option linter.all false
set_option maxRecDepth 100000
set_option maxHeartbeats 4000000
set_option exponentiation.threshold 300
namespace L7
open PySem PySem.Spec PyProof.Rows L2 L3 L4 L5 L6
theorem rnd_half {p w : Int} (hw : w ≠ 0) : 2 * (p - TF.rnd p w * w).natAbs ≤ w.natAbs := by
  rcases Int.lt_or_gt_of_ne hw with h | h
  · obtain ⟨h1, h2⟩ := TF.rnd_neg_lt (p := p) h
    omega
  · obtain ⟨h1, h2⟩ := TF.rnd_pos (p := p) h
    omega
theorem half_bd {e f c d N r : Int} {m : Nat} {k : Int} (hk : TF.Kind k) (hN : N ≠ 0) (he : 2 * e.natAbs ≤ N.natAbs) (hf : 2 * f.natAbs ≤ N.natAbs) (hc : c.natAbs ≤ m) (hd : d.natAbs ≤ m) (h : r * N = e * c + k * (f * d)) : r.natAbs ≤ 2 * m := by
  have h1 := congrArg Int.natAbs h
  rw [Int.natAbs_mul] at h1
  have h2 : (e * c + k * (f * d)).natAbs ≤ (e * c).natAbs + 3 * (f * d).natAbs := by
    generalize e * c = a
    generalize f * d = b
    rcases hk with rfl | rfl | rfl | rfl <;> omega
  rw [Int.natAbs_mul, Int.natAbs_mul] at h2
  have h3 := Nat.mul_le_mul he hc
  have h4 := Nat.mul_le_mul hf hd
  have h5 : 2 * (r.natAbs * N.natAbs) ≤ 4 * (N.natAbs * m) := by
    rw [h1]
    have e1 : 2 * e.natAbs * c.natAbs = 2 * (e.natAbs * c.natAbs) := Nat.mul_assoc _ _ _
    have e2 : 2 * f.natAbs * d.natAbs = 2 * (f.natAbs * d.natAbs) := Nat.mul_assoc _ _ _
    rw [e1] at h3
    rw [e2] at h4
    generalize e.natAbs * c.natAbs = A at *
    generalize f.natAbs * d.natAbs = B at *
    generalize N.natAbs * m = M at *
    omega
  have h6 : r.natAbs * N.natAbs ≤ (2 * m) * N.natAbs := by
    have e3 : 2 * m * N.natAbs = 2 * (N.natAbs * m) := by rw [Nat.mul_assoc, Nat.mul_comm m]
    rw [e3]
    omega
  exact Nat.le_of_mul_le_mul_right h6 (by omega)
theorem rest_bd {k : Int} (hk : TF.Kind k) (x : P2) {y : P2} {m : Nat} (hy : y ≠ (0, 0)) (hb : Bd m y) : Bd (2 * m) (TF.rest k x y) := by
  have hn : TF.nm k y ≠ 0 := fun h => hy ((TF.nm_zero hk).mp h)
  have e := TF.rest_conj k x y
  have h1 := rnd_half (p := (TF.mul k x (TF.conj y)).1) hn
  have h2 := rnd_half (p := (TF.mul k x (TF.conj y)).2) hn
  have e3 : TF.mul k (TF.mul k (TF.rest k x y) (TF.conj y)) y = ((TF.rest k x y).1 * TF.nm k y, (TF.rest k x y).2 * TF.nm k y) := by
    rw [TF.mul_assoc, TF.mul_comm k (TF.conj y), TF.mul_conj]
    apply TF.ext <;> simp only [TF.mul] <;> grind
  rw [e] at e3
  have e1 : (TF.quo k x y).1 = TF.rnd (TF.mul k x (TF.conj y)).1 (TF.nm k y) := rfl
  have e2 : (TF.quo k x y).2 = TF.rnd (TF.mul k x (TF.conj y)).2 (TF.nm k y) := rfl
  rw [e1, e2] at e3
  generalize (TF.mul k x (TF.conj y)).1 - TF.rnd (TF.mul k x (TF.conj y)).1 (TF.nm k y) * TF.nm k y = u at *
  generalize (TF.mul k x (TF.conj y)).2 - TF.rnd (TF.mul k x (TF.conj y)).2 (TF.nm k y) * TF.nm k y = v at *
  generalize TF.rest k x y = r at *
  have a1 := congrArg Prod.fst e3
  have a2 := congrArg Prod.snd e3
  simp only [TF.mul] at a1 a2
  constructor
  · refine half_bd hk hn h1 h2 hb.1 hb.2 ?_
    rw [← a1]
    grind
  · refine half_bd (k := -1) (.inr (.inl rfl)) hn h1 (f := -v) (by rw [Int.natAbs_neg]; exact h2) hb.2 hb.1 ?_
    rw [← a2]
    grind
/-- the two rows of the division with factors, behind t turns -/
structure Euc (k : Int) (x y : P2) (t : Nat) (u0 u1 u2 l0 l1 l2 : P2) : Prop where
  ht : t ≤ 241
  eu : u0 = TF.add (TF.mul k u1 x) (TF.mul k u2 y)
  el : l0 = TF.add (TF.mul k l1 x) (TF.mul k l2 y)
  dv : ∀ d, TF.Goes k d u0 → TF.Goes k d l0 → TF.Goes k d x ∧ TF.Goes k d y
  nl : 4 ^ t * (TF.nm k l0).natAbs ≤ 3 ^ t * 2 ^ 94
  bu : Bd (2 ^ t * 2 ^ 46) u0
  bl : Bd (2 ^ t * 2 ^ 46) l0
  c1 : Bd (2 ^ (578 * t)) u1
  c2 : Bd (2 ^ (578 * t)) u2
  c3 : Bd (2 ^ (578 * t)) l1
  c4 : Bd (2 ^ (578 * t)) l2
theorem turns_few {t n : Nat} (h : 4 ^ t * n ≤ 3 ^ t * 2 ^ 94) (hn : 0 < n) : t ≤ 240 := by
  refine Nat.le_of_not_lt fun hlt => ?_
  obtain ⟨j, rfl⟩ : ∃ j, t = 240 + j := ⟨t - 240, by omega⟩
  have a : (3 : Nat) ^ 240 * 2 ^ 94 < 4 ^ 240 := by decide +kernel
  have b : (3 : Nat) ^ j ≤ 4 ^ j := Nat.pow_le_pow_left (by decide) j
  have c : 0 < (4 : Nat) ^ j := Nat.pow_pos (by decide)
  rw [Nat.pow_add, Nat.pow_add] at h
  have h1 : 4 ^ 240 * 4 ^ j ≤ 3 ^ 240 * 3 ^ j * 2 ^ 94 := Nat.le_trans (Nat.le_mul_of_pos_right _ hn) h
  have e : 3 ^ 240 * 3 ^ j * 2 ^ 94 = 3 ^ 240 * 2 ^ 94 * 3 ^ j := by rw [Nat.mul_assoc, Nat.mul_comm (3 ^ j), ← Nat.mul_assoc]
  rw [e] at h1
  have h2 := Nat.mul_le_mul_left (3 ^ 240 * 2 ^ 94) b
  have h3 := Nat.mul_lt_mul_of_pos_right a c
  omega
theorem nl_step {t n r B : Nat} (h1 : 4 * r ≤ 3 * n) (h2 : 4 ^ t * n ≤ 3 ^ t * B) : 4 ^ (t + 1) * r ≤ 3 ^ (t + 1) * B := by
  have e1 : 4 ^ (t + 1) * r = 4 ^ t * (4 * r) := by rw [Nat.pow_succ, Nat.mul_assoc]
  have e2 : 3 ^ (t + 1) * B = 3 * (3 ^ t * B) := by rw [Nat.pow_succ, Nat.mul_comm (3 ^ t) 3, Nat.mul_assoc]
  have h3 := Nat.mul_le_mul_left (4 ^ t) h1
  have e3 : 4 ^ t * (3 * n) = 3 * (4 ^ t * n) := by rw [← Nat.mul_assoc, Nat.mul_comm (4 ^ t) 3, Nat.mul_assoc]
  rw [e1, e2]
  rw [e3] at h3
  generalize 4 ^ t * n = A at *
  generalize 3 ^ t * B = C at *
  omega
theorem pw1 {t B : Nat} : 2 ^ t * B ≤ 2 ^ (t + 1) * B := by
  rw [Nat.pow_succ, Nat.mul_assoc]
  exact Nat.mul_le_mul_left _ (by omega)
theorem pw2 {t B : Nat} : 2 * (2 ^ t * B) ≤ 2 ^ (t + 1) * B := by
  rw [Nat.pow_succ, Nat.mul_comm (2 ^ t) 2, Nat.mul_assoc]
  exact Nat.le_refl _
end L7

set_option Elab.async false
set_option linter.all false
set_option maxRecDepth 100000
set_option maxHeartbeats 4000000
namespace L8
open PySem PySem.Spec PyProof.Rows L2 L3 L4 L5 L6 L7
/-! ### lists of numbers -/
structure NumsV (K : PySem.W.Frag) (H : Hp) (vs : List V) (ps : List P2) : Prop where
  len : vs.length = ps.length
  at_ : ∀ (i : Nat) v x, vs[i]? = some v → ps[i]? = some x → NumV K H v x
theorem NumsV.same {K : PySem.W.Frag} {H H' : Hp} {vs : List V} {ps : List P2} (h : NumsV K H vs ps) (s : Same H H') : NumsV K H' vs ps := ⟨h.len, fun i v x e1 e2 => (h.at_ i v x e1 e2).same s⟩
theorem NumsV.get {K : PySem.W.Frag} {H : Hp} {vs : List V} {ps : List P2} (h : NumsV K H vs ps) {i : Nat} {v : V} (e : vs[i]? = some v) : ∃ x, ps[i]? = some x ∧ NumV K H v x := by
  have hi : i < ps.length := by rw [← h.len]; exact (List.getElem?_eq_some_iff.mp e).1
  exact ⟨ps[i], List.getElem?_eq_getElem hi, h.at_ i v _ e (List.getElem?_eq_getElem hi)⟩
/-- bounds of a product that grows -/
theorem Bd.grow {k : Int} (hk : TF.Kind k) {m i : Nat} {x y : P2} (hx : Bd ((4 * m) ^ i * m) x) (hy : Bd m y) : Bd ((4 * m) ^ (i + 1) * m) (TF.mul k x y) := by
  refine (hx.mul hk hy).mono ?_
  have e : 4 * ((4 * m) ^ i * m * m) = (4 * m) ^ (i + 1) * m := by
    rw [Nat.pow_succ]
    generalize (4 * m) ^ i = a
    rw [Nat.mul_assoc a (4 * m) m, Nat.mul_assoc a m m, Nat.mul_left_comm 4 a, Nat.mul_assoc 4 m m]
  rw [e]
  exact Nat.le_refl _
/-- what is told of a number parted -/
structure Parted (k : Int) (x u : P2) (ps : List P2) : Prop where
  unit : TF.Unit k u
  crit : ∀ q ∈ ps, TF.Crit k q
  prod : TF.mul k u (TF.prodL k ps) = x
  bu : Bd (2 ^ 1000) u
  bp : ∀ q ∈ ps, Bd (2 ^ 1000) q
  len : ps.length ≤ 60
  small : ∀ q ∈ ps, TF.size k q < 2 ^ 60
/-- .. as values: a tuple of the unit and the list at l -/
structure PartedV (K : PySem.W.Frag) (H : Hp) (p l : Addr) (k : Int) (x : P2) (ps : List P2) : Prop where
  ex : ∃ u vu vs, SqT K H p [vu, .ref l] ∧ NumV K H vu u ∧ H l = some (.lst vs) ∧ NumsV K H vs ps ∧ Parted k x u ps
theorem PartedV.same {K : PySem.W.Frag} {H H' : Hp} {p l : Addr} {k : Int} {x : P2} {ps : List P2} (h : PartedV K H p l k x ps) (s : Same H H') : PartedV K H' p l k x ps := by
  obtain ⟨u, vu, vs, h1, h2, h3, h4, h5⟩ := h.ex
  exact ⟨u, vu, vs, SqT.same s h1, h2.same s, s _ _ h3, h4.same s, h5⟩
theorem SqT.updL {K : PySem.W.Frag} {H : Hp} {p : Addr} {xs : List V} {D : Addr} {ys zs : List V} (hD : H D = some (.lst ys)) (h : SqT K H p xs) : SqT K (upd H D (.lst zs)) p xs := by
  rcases h with (h | ⟨o, h⟩) | h
  · refine .inl (.inl ?_)
    rw [upd_ne (ne_of h hD (by intro z; cases z))]
    exact h
  · refine .inl (.inr ⟨o, ?_⟩)
    rw [upd_ne (ne_of h hD (by intro z; cases z))]
    exact h
  · exact .inr h
theorem _root_.L3.NumV.updL {K : PySem.W.Frag} {H : Hp} {v : V} {x : P2} {D : Addr} {ys zs : List V} (hD : H D = some (.lst ys)) (h : NumV K H v x) : NumV K (upd H D (.lst zs)) v x := by
  obtain ⟨p, rfl, h⟩ := h
  exact ⟨p, rfl, SqT.updL hD h⟩
theorem NumsV.updL {K : PySem.W.Frag} {H : Hp} {vs : List V} {ps : List P2} {D : Addr} {ys zs : List V} (hD : H D = some (.lst ys)) (h : NumsV K H vs ps) : NumsV K (upd H D (.lst zs)) vs ps := ⟨h.len, fun i v x e1 e2 => (h.at_ i v x e1 e2).updL hD⟩
theorem PartedV.updL {K : PySem.W.Frag} {H : Hp} {p l : Addr} {k : Int} {x : P2} {ps : List P2} {D : Addr} {ys zs : List V} (hD : H D = some (.lst ys)) (hne : l ≠ D) (h : PartedV K H p l k x ps) : PartedV K (upd H D (.lst zs)) p l k x ps := by
  obtain ⟨u, vu, vs, h1, h2, h3, h4, h5⟩ := h.ex
  exact ⟨u, vu, vs, SqT.updL hD h1, h2.updL hD, by rw [upd_ne hne]; exact h3, h4.updL hD, h5⟩
/-- a store into a list that was not there at H0 -/
theorem Same.updN {H0 H : Hp} {D : Addr} {o : HO} (s : Same H0 H) (hn : H0 D = none) : Same H0 (upd H D o) := fun b u e => by
  rw [upd_ne (ne_of_none e hn)]
  exact s b u e
theorem emod_dvd {p n : Nat} : ((n : Int) % (p : Int) = 0) ↔ p ∣ n := by
  rw [← Int.natCast_dvd_natCast]
  exact ⟨Int.dvd_of_emod_eq_zero, Int.emod_eq_zero_of_dvd⟩
section
variable {X : Cx}
/-- xs == [] -/
def rEqNil (K : PySem.W.Frag) : R2 := fun x y H Q => ∃ a b xs, x = .ref a ∧ y = .ref b ∧ SqL K H a xs ∧ SqL K H b [] ∧ Q (.bl xs.isEmpty) H
theorem op_eqNil (hu : X.A.units < cLine) : OpR X (compareOp .Eq) (rEqNil X.K) := by
  intro pins s σ H x y v u Q I rx ry h
  obtain ⟨a, b, xs, rfl, rfl, ha, hb, q⟩ := h
  cases rx
  cases ry
  obtain ⟨its, r1, p1, _⟩ := I.list ha
  obtain ⟨its2, r2, p2, _⟩ := I.list hb
  cases r2
  cases r1 with
  | nil => exact SeqAt.eq_listAt (e := fun _ => true) p1.isList p2.isList rfl hu (fun j h1 _ => absurd h1 (by simp)) ⟨.bl true, H, I, rfl, q⟩
  | cons r rr => exact SeqAt.eq_list_lengthsAt p1.isList p2.isList (by simp) hu ⟨.bl false, H, I, rfl, q⟩
end
theorem seT {es rest : List Expr} {k : Nat} {pos : Pos} {env : Env} : starEach (.Tuple es k pos :: rest) env = (false, eval (.Tuple es k pos) env) :: starEach rest env := rfl
theorem seC {f : Expr} {es rest : List Expr} {kw : List Keyword} {pos : Pos} {env : Env} : starEach (.Call f es kw pos :: rest) env = (false, eval (.Call f es kw pos) env) :: starEach rest env := rfl
theorem seB {a b : Expr} {op : Operator} {rest : List Expr} {pos : Pos} {env : Env} : starEach (.BinOp a op b pos :: rest) env = (false, eval (.BinOp a op b pos) env) :: starEach rest env := rfl
theorem seS {a b : Expr} {rest : List Expr} {pos : Pos} {env : Env} : starEach (.Subscript a b pos :: rest) env = (false, eval (.Subscript a b pos) env) :: starEach rest env := rfl
theorem seK {c : Const} {k : Nat} {rest : List Expr} {pos : Pos} {env : Env} : starEach (.Constant c k pos :: rest) env = (false, eval (.Constant c k pos) env) :: starEach rest env := rfl
theorem seN {x : Str} {rest : List Expr} {pos : Pos} {env : Env} : starEach (.Name x pos :: rest) env = (false, eval (.Name x pos) env) :: starEach rest env := rfl
theorem seU {a : Expr} {op : UnaryOp} {rest : List Expr} {pos : Pos} {env : Env} : starEach (.UnaryOp op a pos :: rest) env = (false, eval (.UnaryOp op a pos) env) :: starEach rest env := rfl
theorem nmEq {b : Expr} : behindInMarks .Eq b = false := nomark b
theorem nmNotEq {b : Expr} : behindInMarks .NotEq b = false := nomark b
theorem nmLt {b : Expr} : behindInMarks .Lt b = false := nomark b
theorem nmLtE {b : Expr} : behindInMarks .LtE b = false := nomark b
theorem nmGt {b : Expr} : behindInMarks .Gt b = false := nomark b
end L8

set_option Elab.async false
set_option linter.all false
set_option maxRecDepth 100000
set_option maxHeartbeats 4000000
namespace L9
open PySem PySem.Spec PyProof.Rows L2 L3 L4 L5 L6 L7 L8
/-- one of four by the kind -/
def pick4 (k : Int) (a b c d : P2) : P2 := if k = -2 then a else if k = -1 then b else if k = 2 then c else d
/-- bounds of a unit that grows -/
theorem pwF_bd {k : Int} (hk : TF.Kind k) {b u : P2} (hb : Bd 2 b) (hu : Bd 1 u) : ∀ n, Bd (8 ^ n) (TF.pwF k b u n)
  | 0 => hu
  | n + 1 => by
    refine ((pwF_bd hk hb hu n).mul hk hb).mono ?_
    rw [Nat.pow_succ]
    omega
theorem _root_.L3.Bd.fi3 {x : P2} (h : Bd (2 ^ 3000) x) : FiN x := h.fi (n := 3001) (Nat.pow_lt_pow_right (by decide) (by decide)) (by decide)
theorem bu_bd {k : Int} (hk : TF.Kind k) : Bd 2 (TF.bu k) := by rcases hk with rfl | rfl | rfl | rfl <;> exact ⟨by decide, by decide⟩
theorem bi_bd {k : Int} (hk : TF.Kind k) : Bd 2 (TF.bi k) := by rcases hk with rfl | rfl | rfl | rfl <;> exact ⟨by decide, by decide⟩
theorem sign_bd {s : Int} (hs : s = 1 ∨ s = -1) : Bd 1 ((s, 0) : P2) := by rcases hs with rfl | rfl <;> exact ⟨by decide, by decide⟩
/-- what is told of a unit -/
structure Told (k : Int) (x : P2) (s t : Int) : Prop where
  sg : s = 1 ∨ s = -1
  eq : TF.unitOf k s t = x
  m1 : k = -1 → s = 1 ∧ 0 ≤ t ∧ t ≤ 3
  m2 : k = -2 → s = 1 ∧ 0 ≤ t ∧ t ≤ 1
/-- the pair that is due -/
def pairOf (k s t : Int) : P2 := if k = -2 then (1, (t + (1 - s) / 2) % 2) else if k = -1 then (1, (t + 1 - s) % 4) else (s, t)
end L9

set_option Elab.async false
set_option linter.all false
set_option maxRecDepth 100000
set_option maxHeartbeats 4000000
namespace L10
open PySem PySem.Spec PySem.W PyProof.Rows Builtin Builtin.ObjectAttr Builtin.Getset_descriptor
/-- what is asked of an own class of exceptions so that e.__class__ is read plainly -/
structure ExcQ (K : Frag) (C : Addr) : Prop where
  ga : findIn K (.ref C) "__getattribute__" = some (some (.builtin "BaseException.__getattribute__"))
  gh : findIn K (.ref C) "__getattr__" = some none
  cl : findIn K (.ref C) "__class__" = some (some (.builtin "object.__class__"))
  be : mroIn K C (.type "BaseException") = some true
  ob : mroIn K C (.type "object") = some true
section
variable {prog : Program} {w : World} {A : Around} {E : Value → Shared → Prop} {K : Frag} {a C : Addr} {h : Heap} {g : Array GenState} {d : Drawn} {t : Nat} {os : OsState}
theorem x_get {R : Result → Shared → Prop} (X : K.In h) (q : ExcQ K C) (L0 : Looks (model prog w) h (typeOf (.ref a)) (.ref C)) (hR : R (.ok (.ret (.ref C))) ⟨h, g, d, t, os⟩) :
    codeAny (model prog w) A (.call (.builtin "getset_descriptor.__get__") ⟨[.builtin "object.__class__", .ref a, .ref C], []⟩) R ⟨h, g, d, t, os⟩ := by
  have L3 := looks_mroIn (M := model prog w) X q.ob
  refine codeAny_call_builtin F.slot_gs_get.plain F.entry_gs_get (F.slot_gs_get.check _ _ _ _ _ _ _ _ F.typeOf_object_class (F.args_gs_get _ _ _) ?_)
  unfold «getset_descriptor.__get__» descrGet; rw [dga_obj]
  refine wpAny_bind (wpAny_pure ?_)
  unfold descrGetter descrCheckInstance descrNameAndClass isInstance; simp only [KF.owner_class]
  iterate 40 try lk
  refine ⟨Code.quiet_builtin _ (by decide +kernel), codeAny_builtin F.entry_object_class ?_⟩; unfold «object.__class__» shownTypeOf
  iterate 40 try lk
  exact hR
theorem x_entry {tk : Tok} {Q : Fin → Shared → Prop} (X : K.In h) (q : ExcQ K C) (L0 : Looks (model prog w) h (typeOf (.ref a)) (.ref C)) (hQ : Q (.done (.ret (.ref C))) ⟨h, g, d, t, os⟩) :
    wpAny (model prog w) A («object.__getattribute__» ⟨[.ref a, .str "__class__" tk], []⟩) Q E ⟨h, g, d, t, os⟩ := by
  have L4 := looks_findIn (M := model prog w) X q.cl
  have f5 := F.typeOf_object_class
  have f6 := F.slot_gs_get.lookup
  have f7 := F.slot_gs_set.lookup
  repeat (any_goals (first | assumption | with_reducible refine L0.at ?_ | with_reducible refine L4.at ?_ | wp_step))
  refine x_get X q L0 ?_
  repeat (any_goals (first | assumption | wp_step))
theorem x_check {M : Model} {nv : Value} {Q : Unit → Shared → Prop} (X : K.In h) (q : ExcQ K C) (L0 : Looks M h (typeOf (.ref a)) (.ref C)) (hQ : Q () ⟨h, g, d, t, os⟩) :
    wpAny M A (checkBuiltinCall "BaseException.__getattribute__" ⟨[.ref a, nv], []⟩) Q E ⟨h, g, d, t, os⟩ := by
  have k1 : builtinKind "BaseException.__getattribute__" = some .slot := by decide +kernel
  have k2 : splitId "BaseException.__getattribute__" = some ("BaseException", "__getattribute__") := by decide +kernel
  have L1 := looks_mroIn (M := M) X q.be
  have k3 := F.args_bexc_ga (.ref a) nv
  simp only [checkBuiltinCall, k1, k2]
  refine wpAny_bind ?_
  unfold isInstance
  refine wpAny_bind (L0.at (L1.at ?_))
  repeat (first | assumption | wp_step)
theorem x_call {tk : Tok} {R : Result → Shared → Prop} (X : K.In h) (q : ExcQ K C) (L0 : Looks (model prog w) h (typeOf (.ref a)) (.ref C)) (hR : R (.ok (.ret (.ref C))) ⟨h, g, d, t, os⟩) :
    codeAny (model prog w) A (.call (.builtin "BaseException.__getattribute__") ⟨[.ref a, .str "__class__" tk], []⟩) R ⟨h, g, d, t, os⟩ :=
  codeAny_call_builtin F.attrBase_ValueError.ga.plain F.entry_bexc_ga (x_check X q L0 (x_entry X q L0 hR))
theorem x_by {tk : Tok} {fill expr : Bool} {Q : Value → Shared → Prop} (X : K.In h) (q : ExcQ K C) (L0 : Looks (model prog w) h (typeOf (.ref a)) (.ref C)) (hQ : Q (.ref C) ⟨h, g, d, t, os⟩) :
    wpAny (model prog w) A (getAttrBy (.ref a) (.str "__class__" tk) fill expr) Q E ⟨h, g, d, t, os⟩ := by
  have f3 := F.attrBase_ValueError.ga.bind (.ref a)
  have y0 : (expr && onTheHeap (Value.builtin "BaseException.__getattribute__")) = false := by cases expr <;> rfl
  have y2 : (Value.builtin "BaseException.__getattribute__" == Value.builtin "object.__getattribute__") = false := by decide +kernel
  have y1 : (onTheHeap (Value.ref C) && Value.builtin "BaseException.__getattribute__" == Value.builtin "object.__getattribute__") = false := by rw [y2]; rfl
  have L1 := looks_findIn (M := model prog w) X q.ga
  have L2 := looks_findIn (M := model prog w) X q.gh
  repeat (any_goals (first | assumption | with_reducible refine L0.at ?_ | with_reducible refine L1.at ?_ | with_reducible refine L2.at ?_ | wp_step))
  refine x_call X q L0 ?_
  repeat (any_goals (first | assumption | wp_step))
theorem x_attr {s : Shared} {Q : Option Value → Shared → Prop} (X : K.In s.heap) (q : ExcQ K C) (L0 : Looks (model prog w) s.heap (typeOf (.ref a)) (.ref C)) (hQ : Q (some (.ref C)) { s with toks := s.toks + 1 }) :
    wpAny (model prog w) A (getAttr? (.ref a) "__class__") Q E s := by
  obtain ⟨h, g, d, t, os⟩ := s
  unfold getAttr? getAttrBy?
  refine wpAny_bind (wpAny_mkText (wpAny_bind (wpAny_attempt (x_by (t := t + 1) X q L0 ?_))))
  exact wpAny_pure hQ
/-- isinstance reads an exception of the class C so -/
def AtC (a C : Addr) (h : Heap) : Prop := ∃ o, h.get? a = some o ∧ o.cls = .ref C
theorem AtC.ty {M : Model} (p : AtC a C h) : Looks M h (typeOf (.ref a)) (.ref C) := by
  obtain ⟨o, h1, h2⟩ := p
  exact h2 ▸ (Looks.ld h1).andThen .now
theorem kitx_exc (q : ExcQ K C) : KitX K (.ref a) (.ref C) (AtC a C) where
  ty := fun _ _ _ p => p.ty
  it := fun M h X _ => by
    obtain ⟨cd, hc, _⟩ := Option.bind_eq_some_iff.mp q.ob
    unfold clsIn at hc
    split at hc
    · rename_i c' d' cd' sl' ho
      intro A' Q' E' s' k z
      unfold isType loadHead
      exact wpAny_bind (wpAny_loadPart (k _ _ (X _ _ ho)) (wpAny_pure z))
    · cases hc
  ne := fun h tp dd its n sl X htp => by
    obtain ⟨cd, hc, _⟩ := Option.bind_eq_some_iff.mp q.ob
    refine Bool.eq_false_iff.mpr fun z => ?_
    have e : C = tp := Value.ref.inj (beq_iff_eq.mp z)
    subst e
    unfold clsIn at hc
    split at hc
    · rename_i c' d' cd' sl' ho
      have z := (X _ _ ho).symm.trans htp
      cases z
    · cases hc
  ca := fun X p k => x_attr X q p.ty k
end
end L10

set_option Elab.async false
set_option linter.all false
set_option maxRecDepth 100000
set_option maxHeartbeats 4000000
namespace L11
open PySem PySem.Spec PyProof.Rows L2 L3 L4 L5 L6 L7 L8 L9 L10
section
variable {X : Cx} {pins : List (Addr × Obj)} {σ : L2.St} {H H' : Hp} {s s' : Shared} {h' B : Heap} {e C : Addr} {a0 : Value}
/-- the exception e is tracked from here on -/
theorem inv_track (I : Inv X pins σ H s) (fl : Heap.FlyingW B X.stack e (.ref C) a0 s.heap) (hany : ∀ b o, X.s₀.heap.get? b = some o → b ∉ X.fs → ∃ o', B.get? b = some o') (htr : ∀ b u, H b = some u → ∃ o, B.get? b = some o)
    (hpn : ∀ p ∈ X.pn ++ pins, ∃ o', B.get? p.1 = some o') (hex : X.ex = []) : Inv X pins σ (upd H e (.ext (AtC e C))) s := by
  obtain ⟨st, hBe, _, oe, ws, _, _, _, he, ⟨hc, _⟩, hd, _⟩ := fl
  have hHe : H e = none := by
    cases q : H e with
    | none => rfl
    | some u => obtain ⟨o, z⟩ := htr e u q; rw [hBe] at z; cases z
  have nox : ∀ b, b ∉ X.ex := fun b z => by rw [hex] at z; cases z
  have ne0 : ∀ b o, X.s₀.heap.get? b = some o → X.H₀ b = none → b ≠ e := fun b o q n z => by
    subst z
    by_cases hb : b ∈ X.fs
    · obtain ⟨sl, e1⟩ := I.base.slot b o q n hb (nox b)
      obtain ⟨_, o', ho', hnf⟩ := I.ok.funs.mem hb
      rw [q] at ho'
      cases ho'
      rw [he] at e1
      cases e1
      exact hnf ws hd
    · obtain ⟨o', z⟩ := hany b o q hb
      rw [hBe] at z
      cases z
  have nn : ∀ {b : Addr} {u : HO}, H b = some u → b ≠ e := fun q => ne_of_none q hHe
  refine ⟨I.ok, I.os, I.bare, ⟨I.base.keep, I.base.slot, fun b o q n hx => ?_, I.base.there, fun b xs q => ?_, fun b o u q => ?_, fun b ps q => ?_⟩, I.loc, I.cell, ?_, fun y c q => ?_, fun p hp => ?_, fun b u q => ?_, I.len⟩
  · rw [upd_ne (ne0 b o q n)]
    exact I.base.free b o q n hx
  · have z := I.base.tups b xs q
    rw [upd_ne (nn z)]
    exact z
  · have z := I.base.frzs b o u q
    rw [upd_ne (nn z)]
    exact z
  · obtain ⟨m, z⟩ := I.base.tbls b ps q
    exact ⟨m, by rw [upd_ne (nn z)]; exact z⟩
  · have : X.env.locals ≠ e := fun z => by
      obtain ⟨m, ⟨o, es, ep, ho, hd', _⟩, _⟩ := I.loc
      rw [z, he] at ho
      cases ho
      rw [hd] at hd'
      cases hd'
    rw [upd_ne this]
    exact I.free
  · have : c ≠ e := fun z => by
      obtain ⟨v, o, ho, hd'⟩ := I.cell y c q
      rw [z, he] at ho
      cases ho
      rw [hd] at hd'
      cases hd'
    rw [upd_ne this]
    exact I.freeC y c q
  · obtain ⟨a1, a2, a3, a4, a5⟩ := I.pin p hp
    have : p.1 ≠ e := fun z => by
      obtain ⟨o', q⟩ := hpn p hp
      rw [z, hBe] at q
      cases q
    exact ⟨a1, by rw [upd_ne this]; exact a2, a3, a4, a5⟩
  · by_cases hb : b = e
    · subst hb
      rw [upd_same] at q
      cases q
      refine ⟨⟨oe, he, hc⟩, ⟨oe, he⟩, fun h1 h2 ⟨o, z1, z2⟩ k => ⟨o, k o z1, z2⟩⟩
    · rw [upd_ne hb] at q
      exact (I.hok b u q).stay (fun _ _ _ z => z) (fun c z => by rw [upd_ne (nn z)]; exact z) fun c xs z => by rw [upd_ne (nn z)]; exact z
/-- an exception of the class C is at hand -/
structure Held (X : Cx) (pins : List (Addr × Obj)) (σ : L2.St) (H : Hp) (e C : Addr) (s : Shared) : Prop where
  ex : ∃ B a0, Heap.FlyingW B X.stack e (.ref C) a0 s.heap ∧ (∀ h', B.StaysIn h' → s.heap.UpToSlots h' → Inv X pins σ H { s with heap := h' }) ∧ (∀ b o, X.s₀.heap.get? b = some o → b ∉ X.fs → ∃ o', B.get? b = some o') ∧
    (∀ b u, H b = some u → ∃ o, B.get? b = some o) ∧ ∀ p ∈ X.pn ++ pins, ∃ o', B.get? p.1 = some o'
abbrev TH := Addr → TS
def PH (X : Cx) (hs : List ExceptHandler) (t : TH) : Prop :=
  ∀ (pins : List (Addr × Obj)) (s : Shared) (σ : L2.St) (H : Hp) (D : Ends) (e C : Addr), Held X pins σ H e C s → σ.length = X.N.length → t C D σ H → wpAny (model X.prog X.w) X.A (handleBy (.ref e) X.env hs) (SP X pins D) X.xe s
theorem ph_nil {X : Cx} : PH X [] (fun _ _ _ _ => False) := fun _ _ _ _ _ _ _ _ _ h => h.elim
def thC (K : PySem.W.Frag) (C0 : Addr) (ts : Value → TS) (tr : TH) : TH := fun C D σ H => ∃ b, PySem.W.exmOne K (.ref C) (.ref C0) = some b ∧ if b = true then ∀ ev, ts ev D σ H else tr C D σ H
theorem ups_refl {h : Heap} : h.UpToSlots h := fun _ o e _ => ⟨o.slots, e⟩
theorem ph_cons {x : Str} {C0 : Addr} {b₀ : Stmt} {suite : List Stmt} {rest : List ExceptHandler} {np hpos : Pos} {ts : Value → TS} {tr : TH} (c : ExcC X.K X.mg x C0) (hg : Gl X x) (hxe : X.xe = fun _ _ => False)
    (hs : ∀ ev, PSs (X.marked ev) (b₀ :: suite) (ts ev)) (hr : PH X rest tr) (hd : (x == ("__debug__" : Str)) = false := by decide) :
    PH X (.ExceptHandler (some (.Name x np)) none (b₀ :: suite) hpos :: rest) (thC X.K C0 ts tr) := by
  intro pins s σ H D e C hH hl h
  obtain ⟨b, hb, h⟩ := h
  obtain ⟨B, a0, fl, inv, _, _, _⟩ := id hH.ex
  have I := inv s.heap fl.1 ups_refl
  obtain ⟨ob, hob, hobc⟩ := fl.there
  refine wpAny_handleBy_cons (codeAny_handlers_test (ld_glob (inv_mark I (.ref e)) hg c.m ?_ hd)) (by intro q; cases q)
  refine (PySem.W.exm_one I.kIn (AtC.ty ⟨ob, hob, hobc⟩) hb).here ?_
  cases b with
  | false => exact hr pins s σ H D e C hH hl (by simpa using h)
  | true =>
    refine codeAny_handlers_suite ?_
    refine lands_againW fl fun h₆ fl₆ sl₆ => ?_
    have I6 := inv h₆ fl₆.1 sl₆
    refine wpAny_mono (hs (.ref e) pins { s with heap := h₆ } σ H D (inv_mark I6 (.ref e)) (by rw [if_pos rfl] at h; exact h (.ref e))) (fun f s2 q => sp_unmark I.ok q) fun ev s2 q => ?_
    have q' : X.xe ev s2 := q
    rw [hxe] at q'
    exact q'.elim
/-- behind the suite of a clause with a name -/
theorem name_goes {M : Model} {A : Around} {E : Value → Shared → Prop} {i : Nat} {x : Str} {pos : Pos} {Q : Unit → Shared → Prop} (I : Inv X pins σ H s) (hN : X.N.Nodup) (hi : X.N[i]? = some x) (hx : X.env.scope.names.lookup x = some .local)
    (h : ∀ s', Inv X pins (σ.set i none) H s' → Q () s') : wpAny M A (do bindName X.env x .none; unbindBehindTheSuite X.env x pos) Q E s := by
  obtain ⟨m, hn, hl⟩ := id I.loc
  have hcls : (X.env.scope.kind == .class || (X.env.scope.kind == .module && X.env.locals != X.env.globals)) = false := by rw [I.ok.kind]; rfl
  have hiσ : i < σ.length := by rw [I.len]; exact (List.getElem?_eq_some_iff.mp hi).1
  have cne := I.cne
  refine wpAny_nameGoes_keeps hx hn hcls fun h' v hn' hs => h _ ?_
  obtain ⟨oL, _, _, hoL, _⟩ := id hn
  have nL : ∀ b o, X.s₀.heap.get? b = some o → b ≠ X.env.locals := fun b o q => Nat.ne_of_lt (Nat.lt_of_lt_of_le (Heap.lt_size q) I.ok.above)
  refine ⟨I.ok, I.os, I.bare, ⟨fun b o q n hb hx => (hs.2 b (nL b o q)).trans (I.base.keep b o q n hb hx), fun b o q n hb hx => ?_, I.base.free, fun b o q hx => ?_, I.base.tups, I.base.frzs, I.base.tbls⟩, ⟨_, hn', fun j y v' e1 e2 e3 => ?_⟩, fun y c q => ?_, I.free, I.freeC, fun p hp => ?_, fun b ob q => ?_, by simpa using I.len⟩
  · obtain ⟨sl, e1⟩ := I.base.slot b o q n hb hx
    exact ⟨sl, (hs.2 b (nL b o q)).trans e1⟩
  · obtain ⟨o', e1⟩ := I.base.there b o q hx
    exact ⟨o', (hs.2 b (nL b o q)).trans e1⟩
  · have hj : j ≠ i := fun z => by
      subst z
      rw [List.getElem?_set_self hiσ] at e2
      cases e2
    rw [List.getElem?_set_ne (Ne.symm hj)] at e2
    obtain ⟨u', r', q⟩ := hl j y v' e1 e2 e3
    refine ⟨u', r', ?_⟩
    rcases q with ⟨k, z⟩ | ⟨k, c, z1, z2⟩
    · refine .inl ⟨k, ?_⟩
      have : y ≠ x := fun z => hj (nodup_ix hN e1 (z ▸ hi))
      simp [this, z]
    · exact .inr ⟨k, c, z1, z2.sameBut hs (cne y c z1)⟩
  · obtain ⟨w', z⟩ := I.cell y c q
    exact ⟨w', z.sameBut hs (cne y c q)⟩
  · obtain ⟨a1, a2, a3, a4, a5⟩ := I.pin p hp
    exact ⟨(hs.2 p.1 a3).trans a1, a2, a3, a4, a5⟩
  · refine (I.hok b ob q).stay (fun c w' hc z => (hs.2 c ?_).trans z) (fun _ z => z) fun _ _ z => z
    rintro rfl
    rcases hc with rfl | hc
    · rw [I.free] at q; cases q
    · rw [I.free] at hc; cases hc
def asEnds (D : Ends) (i : Nat) : Ends := { nx := fun σ H => D.nx (σ.set i none) H, rt := D.rt, bk := fun σ H => D.bk (σ.set i none) H, ct := fun σ H => D.ct (σ.set i none) H }
def thAs (K : PySem.W.Frag) (C0 : Addr) (i : Nat) (ts : Value → TS) (tr : TH) : TH := fun C D σ H => ∃ b, PySem.W.exmOne K (.ref C) (.ref C0) = some b ∧
  if b = true then ∀ e, H e = none → ts (.ref e) (asEnds D i) (σ.set i (some (.ref e))) (upd H e (.ext (AtC e C))) else tr C D σ H
theorem ph_as {x n : Str} {C0 : Addr} {i : Nat} {b₀ : Stmt} {suite : List Stmt} {rest : List ExceptHandler} {np hpos : Pos} {ts : Value → TS} {tr : TH} (c : ExcC X.K X.mg x C0) (hg : Gl X x) (hxe : X.xe = fun _ _ => False) (hex : X.ex = [])
    (hN : X.N.Nodup) (hi : X.N[i]? = some n) (hln : X.env.scope.names.lookup n = some .local)
    (hs : ∀ ev, PSs (X.marked ev) (b₀ :: suite) (ts ev)) (hr : PH X rest tr) (hd : (x == ("__debug__" : Str)) = false := by decide) :
    PH X (.ExceptHandler (some (.Name x np)) (some n) (b₀ :: suite) hpos :: rest) (thAs X.K C0 i ts tr) := by
  intro pins s σ H D e C hH hl h
  obtain ⟨b, hb, h⟩ := h
  obtain ⟨B, a0, fl, inv, hany, htr, hpn⟩ := id hH.ex
  have I := inv s.heap fl.1 ups_refl
  obtain ⟨ob, hob, hobc⟩ := fl.there
  refine wpAny_handleBy_cons (codeAny_handlers_test (ld_glob (inv_mark I (.ref e)) hg c.m ?_ hd)) (by intro q; cases q)
  refine (PySem.W.exm_one I.kIn (AtC.ty ⟨ob, hob, hobc⟩) hb).here ?_
  cases b with
  | false => exact hr pins s σ H D e C hH hl (by simpa using h)
  | true =>
    have h : ∀ e, H e = none → ts (.ref e) (asEnds D i) (σ.set i (some (.ref e))) (upd H e (.ext (AtC e C))) := by simpa using h
    have hHe : H e = none := by
      cases q : H e with
      | none => rfl
      | some u => obtain ⟨o, z⟩ := htr e u q; rw [fl.2.1] at z; cases z
    refine codeAny_handlers_suite_as ?_
    refine lands_againW fl fun h₆ fl₆ sl₆ => ?_
    have I6 := inv_track (inv h₆ fl₆.1 sl₆) fl₆ hany htr hpn hex
    have I6m : Inv (X.marked (.ref e)) pins σ (upd H e (.ext (AtC e C))) { s with heap := h₆ } := inv_mark I6 (.ref e)
    refine store_ok (X := X.marked (.ref e)) (v := .ref e) I6m hN hi (.inl hln) rfl (fun s7 I7 => ?_) (.inr hln)
    refine wpAny_mono (hs (.ref e) pins s7 _ _ (asEnds D i) I7 (h e hHe)) (fun f s2 q => ?_) fun ev s2 q => ?_
    · have q := sp_unmark I.ok q
      cases f with
      | next => obtain ⟨σ', H', I', q⟩ := q; exact name_goes I' hN hi hln fun s' I'' => ⟨_, H', I'', q⟩
      | brk => obtain ⟨σ', H', I', q⟩ := q; exact name_goes I' hN hi hln fun s' I'' => ⟨_, H', I'', q⟩
      | cont => obtain ⟨σ', H', I', q⟩ := q; exact name_goes I' hN hi hln fun s' I'' => ⟨_, H', I'', q⟩
      | ret u => obtain ⟨v, σ', H', I', r, q⟩ := q; exact name_goes I' hN hi hln fun s' I'' => ⟨v, _, H', I'', r, q⟩
    · have q' : X.xe ev s2 := q
      rw [hxe] at q'
      exact q'.elim
/-- try: body; clauses -/
def tTryH (E' : XK) (n : Nat) (tb : TS) (th : TH) : TS := fun D σ H => tb D σ H ∧ ∀ Cv σ' H', E' Cv none H' → σ'.length = n → ∃ C, Cv = .ref C ∧ th C D σ' H'
theorem ps_tryH {body : List Stmt} {h₀ : ExceptHandler} {hs : List ExceptHandler} {pos : Pos} {tb : TS} {th : TH} {E' : XK} (hst : X.stack = X.env :: X.outer) (hfr : X.env.frame = some X.env.locals) (hex : X.ex = [])
    (hb : ∀ pn xe, Passes (CX1 X.prog X.w) (X.tried pn xe) E' → PSs (X.tried pn xe) body tb) (hh : PH X (h₀ :: hs) th) :
    PS X (.Try body (h₀ :: hs) [] [] pos) (tTryH E' X.N.length tb th) := by
  intro pins s σ H D I h
  obtain ⟨h1, h2⟩ := h
  refine wpAny_Try_except (wpAny_mono (hb _ _ passT [] s σ H D (inv_try I (Thrown X pins E')) h1) (fun fl s1 q => ?_) fun ev s1 q => ?_)
  · have q := sp_untry q
    cases fl with
    | next =>
      obtain ⟨σ', H', I', q⟩ := q
      exact wpAny_execs_nil ⟨σ', H', I', q⟩
    | brk => exact q
    | cont => exact q
    | ret u => exact q
  · obtain ⟨e, Cv, H', σ', H0, sc, rfl, hE, I0, ⟨os, bare, un, hok, B, a0, fl, br⟩⟩ := q
    have hlen : σ'.length = X.N.length := I0.len
    obtain ⟨C, rfl, hth⟩ := h2 Cv σ' H' hE hlen
    have hfr' : X.A.frames = some (X.env :: X.outer) := by rw [← hst]; exact I.ok.frames
    have fl0 := fl
    rw [hst] at fl
    refine wpAny_looks_onW hfr' hfr fl fun h₄ held₄ sl₄ => ?_
    refine wpAny_landsW held₄ fun h₅ fl₅ sl₅ => ?_
    have nox : ∀ b, b ∉ X.ex := fun b z => by rw [hex] at z; cases z
    have neL : ∀ b o, X.s₀.heap.get? b = some o → b ≠ X.env.locals := fun b o q => Nat.ne_of_lt (Nat.lt_of_lt_of_le (Heap.lt_size q) I0.ok.above)
    refine hh pins { s1 with heap := h₅ } σ' H' D e C ⟨B, a0, by rw [hst]; exact fl₅, fun h' st sl => inv_fly (s' := s1) I0 os bare un hok br st ((sl₄.trans sl₅).trans sl), fun b o q hbf => ?_, fun b u q => ?_, fun p hp => ?_⟩ hlen hth
    · obtain ⟨o1, e1⟩ := I0.base.there b o q (nox b)
      exact br.any b o1 e1 fun z => (List.mem_cons.mp (I0.stkSub b z)).elim (neL b o q) hbf
    · obtain ⟨o, _, e2⟩ := br.trk b u q
      exact ⟨o, e2⟩
    · obtain ⟨a1, a2, a3, a4, a5⟩ := I0.pin p hp
      exact br.any p.1 p.2 a1 fun z => (List.mem_cons.mp (I0.stkSub p.1 z)).elim a3 a4
/-- isinstance(e, c) of an own exception -/
inductive ClsV : V → Value → Prop where
  | own (a : Addr) : ClsV (.ref a) (.ref a)
  | ty (T : String) : ClsV (.ty T) (.type T)
def rIsX (K : PySem.W.Frag) : List V → Hp → VK → Prop := fun xs H Q => ∃ e C c u b, xs = [.ref e, c] ∧ ClsV c u ∧ H e = some (.ext (AtC e C)) ∧ ExcQ K C ∧ PySem.W.kitOne K (.ref C) u = some b ∧ Q (.bl b) H
theorem call_isX : CallR X (.builtin "isinstance") (rIsX X.K) := by
  intro pins s σ H xs us Q I r h
  obtain ⟨e, C, c, u, b, rfl, hc, he, q, hk, hq⟩ := h
  obtain ⟨u1, u2, rfl, r1, r2⟩ := vals2 r
  cases (show u1 = Value.ref e from r1)
  obtain ⟨p, _, _⟩ := (show ObjOk X.prog X.w H s.heap e (.ext (AtC e C)) from I.hok e _ he)
  have eu : u2 = u := by
    cases hc with
    | own a => exact r2
    | ty T => exact r2
  subst eu
  exact PySem.W.kia_one (kitx_exc q) I.kIn p hk (fun z => nomatch z) fun tk => ⟨.bl b, H, I.tok _, rfl, hq⟩
end
end L11

set_option Elab.async false
set_option linter.all false
set_option maxRecDepth 100000
set_option maxHeartbeats 4000000
namespace L12
open PySem PySem.Spec PyProof.Rows L2 L3 L4 L5 L6 L7 L8 L9 L10 L11
theorem bt_ValueError : bootBuiltins "ValueError" = some (.type "ValueError") := by decide +kernel
section
variable {X : Cx}
theorem vals_bls : ∀ {bs : List Bool} {its : List Value}, Vals (bs.map V.bl) its → its = bs.map Value.bool
  | [], _, h => by cases h; rfl
  | b :: bs, _, h => by
    cases h with
    | cons r rr => rw [vals_bls rr, show _ = Value.bool b from r]; rfl
theorem reads_bls (h : Heap) : ∀ bs : List Bool, ∃ as, ReadsAll h (bs.map Value.bool) (bs.map PyData.bool) as
  | [] => ⟨_, .nil⟩
  | b :: bs => let ⟨_, r⟩ := reads_bls h bs; ⟨_, .cons (.bool b) r⟩
theorem all_bls : ∀ bs : List Bool, (bs.map PyData.bool).all Shape.bool.has = true
  | [] => rfl
  | b :: bs => by rw [List.map_cons, List.all_cons, all_bls bs]; rfl
/-- xs.count(b) of bools -/
def rCountB (K : PySem.W.Frag) : V → List V → Hp → VK → Prop := fun x xs H Q => ∃ (a : Addr) (bs : List Bool) (c : Bool), x = .ref a ∧ xs = [.bl c] ∧ SqL K H a (bs.map V.bl) ∧ Q (.int (countIn (.bool c) (bs.map PyData.bool))) H
theorem mt_countB : MtR X "list.count" (rCountB X.K) := by
  intro pins s σ H x xs v us Q I rx rv h
  obtain ⟨a, bs, c, rfl, rfl, hS, hq⟩ := h
  cases (show v = Value.ref a from rx)
  obtain ⟨its, r, p, _⟩ := I.list hS
  have e := vals_bls r
  subst e
  cases rv with
  | cons r1 rr =>
    cases rr
    cases (show _ = Value.bool c from r1)
    obtain ⟨as, ra⟩ := reads_bls s.heap bs
    exact count_list_bools p.isList ra (all_bls bs) ⟨.int _, H, I.tok _, ⟨_, rfl⟩, hq⟩
end
/-- two readings of one function -/
theorem _root_.L2.FnOk.via {P : Program} {w : World} {K : PySem.W.Frag} {mg : Str → Option Value} {base : Heap} {CX : CXT} {k : Nat} {f : Addr} {fd : FuncData} {ps : List Str} {sp1 sp2 sp : Sp} (F1 : FnOk P w K mg base CX k f fd ps sp1)
    (F2 : FnOk P w K mg base CX k f fd ps sp2) (h : ∀ vs H Q E, sp vs H Q E → sp1 vs H Q E ∨ sp2 vs H Q E) : FnOk P w K mg base CX k f fd ps sp where
  len := fun vs H Q E q => (h vs H Q E q).elim (F1.len vs H Q E) (F2.len vs H Q E)
  run := fun A outer s H args us vs Q E hr he hb hv q => (h vs H Q E q).elim (F1.run A outer s H args us vs Q E hr he hb hv) (F2.run A outer s H args us vs Q E hr he hb hv)
/-- a kind that there is none of -/
def spb (C : Addr) (n : Nat) : Sp := fun vs H Q E => ∃ k rest, vs = .int k :: rest ∧ rest.length = n ∧ ¬ TF.Kind k ∧ ∀ H', Same H H' → E (.ref C) none H'
theorem rest0 {rest : List V} (h : rest.length = 0) : rest = [] := List.length_eq_zero_iff.mp h
theorem rest1 {rest : List V} (h : rest.length = 1) : ∃ a, rest = [a] := List.length_eq_one_iff.mp h
theorem rest2 {rest : List V} (h : rest.length = 2) : ∃ a b, rest = [a, b] := by
  match rest, h with
  | [a, b], _ => exact ⟨a, b, rfl⟩
instance {k : Int} : Decidable (TF.Kind k) := by unfold TF.Kind; infer_instance
theorem not_kind {k : Int} (h : ¬ TF.Kind k) : inV (.int k) [.int (-2), .int (-1), .int 2, .int 3] = false := by
  have h1 : k ≠ -2 := fun e => h (.inl e)
  have h2 : k ≠ -1 := fun e => h (.inr (.inl e))
  have h3 : k ≠ 2 := fun e => h (.inr (.inr (.inl e)))
  have h4 : k ≠ 3 := fun e => h (.inr (.inr (.inr e)))
  have e : ∀ a : Int, k ≠ a → eqV (.int a) (.int k) = false := fun a z => by
    show (a == k) = false
    exact beq_eq_false_iff_ne.mpr (Ne.symm z)
  unfold inV
  simp only [List.any_cons, List.any_nil, e _ h1, e _ h2, e _ h3, e _ h4, Bool.or_false]
/-- which refusal is due: 0 a kind, 1 by nought, 2 no unit -/
def out8 (wh : Nat) (k : Int) (x y : P2) : Option Nat :=
  if ¬ TF.Kind k then some 0 else if wh = 2 ∧ y = (0, 0) ∨ wh = 10 ∧ x = (0, 0) then some 1 else if (wh = 8 ∨ wh = 9) ∧ (TF.nm k x).natAbs ≠ 1 then some 2 else none
def word8 : Option Nat → Str
  | none => "done"
  | some 0 => "kind"
  | some 1 => "nought"
  | some _ => "unit"
end L12

set_option Elab.async false
set_option linter.all false
set_option maxRecDepth 100000
set_option maxHeartbeats 4000000
namespace L13
open PySem PySem.Spec PyProof.Rows L2 L3 L4 L5 L6 L7 L8 L9 L10 L11 L12
section
variable {X : Cx} {pins : List (Addr × Obj)} {k : Nat} {f : Addr} {fd : FuncData} {ps : List Str} {sp : Sp} {x : Str} {p pos bpos tpos : Pos} {e : Expr} {es : List Expr} {t : TA}
/-- what the clauses find, behind a call that is the whole body: the locals are as they were -/
def ThrownAt (X : Cx) (pins : List (Addr × Obj)) (σ : L2.St) (E' : XK) (ev : Value) (s' : Shared) : Prop :=
  ∃ e Cv H' H0 sc, ev = .ref e ∧ E' Cv none H' ∧ Inv X pins σ H0 sc ∧ Cau X.prog X.w X.stack H0 sc e Cv H' s'
def tTryC (sp : Sp) (t : TA) (th : TH) : TS := fun D σ H => ∃ E' : XK, (t σ H fun vs H1 => sp vs H1 (fun _ H' => D.nx σ H') E') ∧ ∀ Cv H', E' Cv none H' → ∃ C, Cv = .ref C ∧ th C D σ H'
end
end L13

set_option Elab.async false
set_option linter.all false
set_option maxRecDepth 100000
set_option maxHeartbeats 4000000
namespace L14
open PySem PySem.Spec PyProof.Rows L2 L3 L4 L5 L6 L7 L8 L9 L10 L11 L12 L13
/-! ### a dict constant: the basic unit of each kind -/
structure BasD (K : PySem.W.Frag) (a : Addr) : Prop where
  ex : ∃ (n : Nat) (t1 t2 t3 t4 : Tok) (b1 b2 b3 b4 : Addr), K.lookup a = some ⟨.type "dict", none, .dict #[⟨hashInt (-2), .int (-2) t1, .ref b1⟩, ⟨hashInt (-1), .int (-1) t2, .ref b2⟩, ⟨hashInt 2, .int 2 t3, .ref b3⟩, ⟨hashInt 3, .int 3 t4, .ref b4⟩] n, #[]⟩ ∧
    (∀ H : Hp, SqT K H b1 [.int (-1), .int 0]) ∧ (∀ H : Hp, SqT K H b2 [.int 0, .int 1]) ∧ (∀ H : Hp, SqT K H b3 [.int 1, .int 1]) ∧ (∀ H : Hp, SqT K H b4 [.int 2, .int 1])
section
variable {X : Cx} {o i : Expr} {td ty : TE} {pos : Pos}
theorem BasD.dict {K : PySem.W.Frag} {a : Addr} (B : BasD K a) {P : Program} {w : World} {h : Heap} (hK : K.In h) : ∃ b1 b2 b3 b4 : Addr, h.DictOf (mixKind P w) a [(.inl (-2), .ref b1), (.inl (-1), .ref b2), (.inl 2, .ref b3), (.inl 3, .ref b4)] ∧
    (∀ H : Hp, SqT K H b1 [.int (-1), .int 0]) ∧ (∀ H : Hp, SqT K H b2 [.int 0, .int 1]) ∧ (∀ H : Hp, SqT K H b3 [.int 1, .int 1]) ∧ (∀ H : Hp, SqT K H b4 [.int 2, .int 1]) := by
  obtain ⟨n, t1, t2, t3, t4, b1, b2, b3, b4, e, h1, h2, h3, h4⟩ := B.ex
  refine ⟨b1, b2, b3, b4, ⟨_, _, _, hK _ _ e, ⟨rfl, rfl, rfl⟩, rfl, fun en he => ?_, .cons (mixKind_int P w _ _) rfl (.cons (mixKind_int P w _ _) rfl (.cons (mixKind_int P w _ _) rfl (.cons (mixKind_int P w _ _) rfl .nil))), show ([.inl (-2), .inl (-1), .inl 2, .inl 3] : List Key).Nodup by decide⟩, h1, h2, h3, h4⟩
  simp only [List.mem_toArray, List.mem_cons, List.not_mem_nil, or_false] at he
  rcases he with rfl | rfl | rfl | rfl
  · exact ⟨.inl (-2), mixKind_int P w _ _, rfl⟩
  · exact ⟨.inl (-1), mixKind_int P w _ _, rfl⟩
  · exact ⟨.inl 2, mixKind_int P w _ _, rfl⟩
  · exact ⟨.inl 3, mixKind_int P w _ _, rfl⟩
def tBas (K : PySem.W.Frag) (td ty : TE) : TE := fun σ H Q => td σ H fun x H1 => ty σ H1 fun y H2 => ∃ a k, x = .ref a ∧ y = .int k ∧ BasD K a ∧ TF.Kind k ∧ ∀ v, NumV K H2 v (TF.bu k) → Q v H2
theorem pe_bas (ho : PE X o td) (hi : PE X i ty) (hs : NoSl i) : PE X (.Subscript o i pos) (tBas X.K td ty) := by
  intro pins s σ H Q I h
  refine subD_of PySem.F.slot_dict_getitem.lookup hs (thn (ho pins s σ H _ I h) fun u s1 ⟨x, H1, I1, rx, q1⟩ => thn (hi pins s1 σ H1 _ I1 q1) fun iv s2 ⟨y, H2, I2, ry, a, k, ex, ey, B, hk, q2⟩ => ?_)
  subst ex ey
  obtain rfl : u = Value.ref a := rx
  obtain ⟨t, rfl⟩ : ∃ t, iv = Value.int k t := ry
  obtain ⟨b1, b2, b3, b4, d, h1, h2, h3, h4⟩ := B.dict (P := X.prog) (w := X.w) I2.kIn
  refine ⟨d.mapOf.typeIs, ?_⟩
  have key : ∃ b, valueAt ([(.inl (-2), .ref b1), (.inl (-1), .ref b2), (.inl 2, .ref b3), (.inl 3, .ref b4)] : List (Key × Value)) (.inl k) = some (.ref b) ∧ NumV X.K H2 (.ref b) (TF.bu k) := by
    rcases hk with rfl | rfl | rfl | rfl
    · exact ⟨b1, rfl, _, rfl, h1 _⟩
    · exact ⟨b2, rfl, _, rfl, h2 _⟩
    · exact ⟨b3, rfl, _, rfl, h3 _⟩
    · exact ⟨b4, rfl, _, rfl, h4 _⟩
  obtain ⟨b, hv, hn⟩ := key
  exact wpAny_getItem_of (mixKind_int X.prog X.w k t) d.mapOf hv ⟨.ref b, H2, I2.tok _, rfl, q2 _ hn⟩
end
/-! ### the division with factors, bounds by the second number -/
structure EucG (k : Int) (x y : P2) (M t : Nat) (u0 u1 u2 l0 l1 l2 : P2) : Prop where
  hM : M ≤ 2 ^ 46
  hy : Bd M y
  ht : t ≤ 241
  z0 : t = 0 → l0 = y
  eu : u0 = TF.add (TF.mul k u1 x) (TF.mul k u2 y)
  el : l0 = TF.add (TF.mul k l1 x) (TF.mul k l2 y)
  dv : ∀ d, TF.Goes k d u0 → TF.Goes k d l0 → TF.Goes k d x ∧ TF.Goes k d y
  nl : 4 ^ t * (TF.nm k l0).natAbs ≤ 3 ^ t * (TF.nm k y).natAbs
  pre : 0 < t → 4 ^ (t - 1) ≤ 3 ^ (t - 1) * (TF.nm k y).natAbs
  bu : Bd (2 ^ 500) u0
  bv : 0 < t → Bd (2 ^ t * M) u0
  bl : Bd (2 ^ t * M) l0
  c1 : Bd (2 ^ (792 * t)) u1
  c2 : Bd (2 ^ (792 * t)) u2
  c3 : Bd (2 ^ (792 * t)) l1
  c4 : Bd (2 ^ (792 * t)) l2
theorem EucG.step {k : Int} (hk : TF.Kind k) {x y : P2} {M t : Nat} {u0 u1 u2 l0 l1 l2 : P2} (E : EucG k x y M t u0 u1 u2 l0 l1 l2) (hl : l0 ≠ (0, 0)) :
    DivOk k u0 l0 ∧ FiN l1 ∧ FiN l2 ∧ FiN l0 ∧ EucG k x y M (t + 1) l0 l1 l2 (TF.rest k u0 l0) (TF.sub u1 (TF.mul k (TF.quo k u0 l0) l1)) (TF.sub u2 (TF.mul k (TF.quo k u0 l0) l2)) := by
  have hn : TF.nm k l0 ≠ 0 := fun h => hl ((TF.nm_zero hk).mp h)
  have hN : (TF.nm k y).natAbs ≤ 2 ^ 94 := by
    refine Nat.le_trans (E.hy.nm hk) ?_
    have := Nat.mul_le_mul E.hM E.hM
    have e : (2 : Nat) ^ 94 = 4 * (2 ^ 46 * 2 ^ 46) := by decide
    omega
  have ht := turns_few (Nat.le_trans E.nl (Nat.mul_le_mul_left _ hN)) (by omega)
  have hm : 2 ^ t * M ≤ 2 ^ 286 := by
    refine Nat.le_trans (Nat.mul_le_mul_left _ E.hM) ?_
    rw [← Nat.pow_add]
    exact Nat.pow_le_pow_right (by decide) (by omega)
  have b1 := E.bl.mono hm
  have d : DivOk k u0 l0 := ⟨hk, E.bu.mono (Nat.pow_le_pow_right (by decide) (by decide)), b1.mono (Nat.pow_le_pow_right (by decide) (by decide)), hl⟩
  have hq : Bd (2 ^ 789) (TF.quo k u0 l0) := by
    have h := E.bu.mul hk b1.conj
    have e : 4 * (2 ^ 500 * 2 ^ 286) = 2 ^ 788 := by rw [← Nat.pow_add, show (4 : Nat) = 2 ^ 2 by rfl, ← Nat.pow_add]
    have e2 : 2 ^ 789 = 2 ^ 788 * 2 := Nat.pow_succ 2 788
    have e3 : 1 ≤ 2 ^ 788 := Nat.one_le_two_pow
    have h1 := TF.rnd_bd (p := (TF.mul k u0 (TF.conj l0)).1) hn
    have h2 := TF.rnd_bd (p := (TF.mul k u0 (TF.conj l0)).2) hn
    have h3 := h.1
    have h4 := h.2
    rw [e] at h3 h4
    unfold TF.quo Bd
    dsimp only
    rw [e2]
    generalize (2 : Nat) ^ 788 = m at *
    omega
  have coef : ∀ {a b : P2}, Bd (2 ^ (792 * t)) a → Bd (2 ^ (792 * t)) b → Bd (2 ^ (792 * (t + 1))) (TF.sub a (TF.mul k (TF.quo k u0 l0) b)) := fun {a b} ha hb => by
    refine (ha.sub (hq.mul hk hb)).mono ?_
    have e1 : 792 * (t + 1) = 792 * t + 792 := by omega
    rw [e1, Nat.pow_add]
    have e2 : 4 * (2 ^ 789 * 2 ^ (792 * t)) = 2 ^ 791 * 2 ^ (792 * t) := by
      rw [← Nat.mul_assoc]
      congr 1
    have e3 : (2 : Nat) ^ 792 = 2 * 2 ^ 791 := by rw [Nat.pow_succ, Nat.mul_comm]
    have e4 : 2 ^ (792 * t) ≤ 2 ^ 791 * 2 ^ (792 * t) := Nat.le_mul_of_pos_left _ (Nat.two_pow_pos _)
    rw [e2, Nat.mul_comm (2 ^ (792 * t)), e3, Nat.mul_assoc]
    generalize 2 ^ 791 * 2 ^ (792 * t) = m at *
    omega
  have up : ∀ {a : P2}, Bd (2 ^ (792 * t)) a → Bd (2 ^ (792 * (t + 1))) a := fun ha => ha.mono (Nat.pow_le_pow_right (by decide) (by omega))
  have fi : ∀ {a : P2}, Bd (2 ^ (792 * t)) a → FiN a := fun ha => ha.fi (n := 792 * t + 1) (Nat.pow_lt_pow_right (by decide) (by omega)) (by omega)
  refine ⟨d, fi E.c3, fi E.c4, d.fy, ⟨E.hM, E.hy, by omega, fun z => (by omega), E.el, ?_, fun z g1 g2 => ?_, ?_, fun _ => ?_, b1.mono (Nat.pow_le_pow_right (by decide) (by decide)), fun _ => E.bl.mono pw1, ?_, up E.c3, up E.c4, coef E.c1 E.c3, coef E.c2 E.c4⟩⟩
  · have e1 := E.eu
    have e2 := E.el
    unfold TF.rest
    generalize TF.quo k u0 l0 = q
    subst e1 e2
    apply TF.ext <;> simp only [TF.mul, TF.add, TF.sub] <;> grind
  · refine E.dv z ?_ g1
    rw [← TF.quo_rest k u0 l0]
    exact TF.goes_add (TF.goes_mul _ g1) g2
  · exact nl_step (TF.rest_small hk u0 hl) E.nl
  · exact Nat.le_trans (Nat.le_mul_of_pos_right _ (by omega)) E.nl
  · exact (rest_bd hk u0 hl E.bl).mono pw2
theorem EucG.start {k : Int} (hk : TF.Kind k) {x y : P2} {M : Nat} (hM : M ≤ 2 ^ 46) (hx : Bd (2 ^ 500) x) (hy : Bd M y) : EucG k x y M 0 x (1, 0) (0, 0) y (0, 0) (1, 0) := by
  refine ⟨hM, hy, by decide, fun _ => rfl, ?_, ?_, fun d h1 h2 => ⟨h1, h2⟩, Nat.le_refl _, fun z => (by omega), hx, fun z => (by omega), by simpa using hy, ⟨by decide, by decide⟩, ⟨by decide, by decide⟩, ⟨by decide, by decide⟩, ⟨by decide, by decide⟩⟩
  · rw [TF.one_mul, TF.zero_mul]
    apply TF.ext <;> simp [TF.add]
  · rw [TF.one_mul, TF.zero_mul]
    apply TF.ext <;> simp [TF.add]
/-- how large the greatest common divisor may be -/
def GcdB (k : Int) (M : Nat) (y g : P2) : Prop := ∃ t, 0 < t ∧ Bd (2 ^ t * M) g ∧ 4 ^ (t - 1) ≤ 3 ^ (t - 1) * (TF.nm k y).natAbs
theorem EucG.gcdB {k : Int} {x y : P2} {M t : Nat} {u0 u1 u2 l0 l1 l2 : P2} (E : EucG k x y M t u0 u1 u2 l0 l1 l2) (hl : l0 = (0, 0)) (hy : y ≠ (0, 0)) : GcdB k M y u0 := by
  have h : 0 < t := Nat.pos_of_ne_zero fun z => hy ((E.z0 z).symm.trans hl)
  exact ⟨t, h, E.bv h, E.pre h⟩
theorem GcdB.bd {k : Int} {p : Nat} {y g : P2} (h : GcdB k p y g) (hN : (TF.nm k y).natAbs ≤ 4 * (p * p)) : Bd (64 * p ^ 6) g := by
  obtain ⟨t, h0, hb, h1⟩ := h
  obtain ⟨s, rfl⟩ : ∃ s, t = s + 1 := ⟨t - 1, by omega⟩
  rw [Nat.add_sub_cancel] at h1
  have h2 := TF.pow_few2 h1 hN
  refine hb.mono ?_
  have h3 := Nat.mul_le_mul_right (2 * p) h2
  have e1 : 2 ^ (s + 1) * p = 2 ^ s * (2 * p) := by rw [Nat.pow_succ, Nat.mul_assoc]
  have e2 : 32 * p ^ 5 * (2 * p) = 64 * p ^ 6 := by
    rw [Nat.pow_succ p 5]
    generalize p ^ 5 = q
    rw [Nat.mul_mul_mul_comm]
  rw [e1, ← e2]
  exact h3
/-! ### a number being parted -/
structure PartS (k : Int) (x rest : P2) (ps : List P2) (M : Nat) : Prop where
  prod : TF.mul k rest (TF.prodL k ps) = x
  crit : ∀ q ∈ ps, TF.Crit k q
  ne : rest ≠ (0, 0)
  bd : Bd M rest
  hM : M * TF.size k rest ^ 14 ≤ 2 ^ 13 * TF.size k x ^ 14
  bp : ∀ q ∈ ps, Bd (2 ^ 1000) q
  small : ∀ q ∈ ps, TF.size k q < 2 ^ 60
  len : 2 ^ ps.length * TF.size k rest ≤ TF.size k x
  dvd : TF.size k rest ∣ TF.size k x
theorem PartS.start {k : Int} {x : P2} (hx : Bd 5000 x) (h0 : x ≠ (0, 0)) : PartS k x x [] 5000 := by
  refine ⟨by show TF.mul k x (1, 0) = x; exact TF.mul_one k x, fun q hq => (nomatch hq), h0, hx, Nat.mul_le_mul_right _ (by decide), fun q hq => (nomatch hq), fun q hq => (nomatch hq), ?_, Nat.dvd_refl _⟩
  show 2 ^ 0 * _ ≤ _
  rw [Nat.pow_zero, Nat.one_mul]
  exact Nat.le_refl _
theorem PartS.szpos {k : Int} (hk : TF.Kind k) {x rest : P2} {ps : List P2} {M : Nat} (P : PartS k x rest ps M) : 0 < TF.size k rest := TF.nm_pos hk P.ne
theorem PartS.bits {k : Int} (hk : TF.Kind k) {x rest : P2} {ps : List P2} {M : Nat} (P : PartS k x rest ps M) (hS : TF.size k x < 2 ^ 27) : Bd (2 ^ 391) rest := by
  refine P.bd.mono ?_
  have h1 : M ≤ M * TF.size k rest ^ 14 := Nat.le_mul_of_pos_right _ (Nat.pow_pos (P.szpos hk))
  have h2 : TF.size k x ^ 14 ≤ (2 ^ 27) ^ 14 := Nat.pow_le_pow_left (Nat.le_of_lt hS) 14
  have h3 := Nat.le_trans (Nat.le_trans h1 P.hM) (Nat.mul_le_mul_left _ h2)
  exact Nat.le_trans h3 (by decide)
theorem quo_mul {k : Int} (hk : TF.Kind k) {x g : P2} (hg : TF.Goes k g x) (hx : x ≠ (0, 0)) : TF.mul k (TF.quo k x g) g = x := by
  have g0 : g ≠ (0, 0) := fun z => by
    subst z
    exact hx (TF.goes_zero.mp hg)
  have h := TF.quo_rest k x g
  rw [TF.rest_zero_of_goes hk g0 hg] at h
  refine Eq.trans ?_ h
  apply TF.ext <;> simp [TF.add]
theorem quo_bd {k : Int} (hk : TF.Kind k) {x g : P2} {m n : Nat} (hg : TF.Goes k g x) (hx : x ≠ (0, 0)) (bx : Bd m x) (bg : Bd n g) : Bd (4 * (m * n)) (TF.quo k x g) := by
  have e := quo_mul hk hg hx
  generalize TF.quo k x g = q at *
  have g0 : g ≠ (0, 0) := fun z => by
    subst z
    exact hx (TF.goes_zero.mp hg)
  have h := bx.mul hk bg.conj
  have e2 : TF.mul k x (TF.conj g) = TF.mul k q (TF.nm k g, 0) := by rw [← e, TF.mul_assoc, TF.mul_conj]
  rw [e2] at h
  have hp := TF.nm_pos hk g0
  obtain ⟨h1, h2⟩ := h
  simp only [TF.mul] at h1 h2
  have e3 : q.1 * TF.nm k g + k * q.2 * 0 = q.1 * TF.nm k g := by simp
  have e4 : q.1 * 0 + q.2 * TF.nm k g = q.2 * TF.nm k g := by simp
  rw [e3, Int.natAbs_mul] at h1
  rw [e4, Int.natAbs_mul] at h2
  exact ⟨Nat.le_trans (Nat.le_mul_of_pos_right _ hp) h1, Nat.le_trans (Nat.le_mul_of_pos_right _ hp) h2⟩
theorem PartS.step {k : Int} (hk : TF.Kind k) {x rest : P2} {ps : List P2} {M : Nat} (P : PartS k x rest ps M) (hS : TF.size k x < 2 ^ 27) {p : Nat} (hp : 2 ≤ p) (hps : p < 2 ^ 27) {g : P2} (hc : TF.Crit k g) (hg : TF.Goes k g rest) (bg : Bd (64 * p ^ 6) g) (hle : p ≤ TF.size k g) :
    PartS k x (TF.quo k rest g) (ps ++ [g]) (M * p ^ 14) ∧ TF.size k (TF.quo k rest g) < TF.size k rest := by
  have e := quo_mul hk hg P.ne
  have hb := quo_bd hk hg P.ne P.bd bg
  generalize TF.quo k rest g = q at *
  have q0 : q ≠ (0, 0) := fun z => by
    subst z
    rw [TF.zero_mul] at e
    exact P.ne e.symm
  have es : TF.size k rest = TF.size k q * TF.size k g := by
    unfold TF.size
    rw [← Int.natAbs_mul, ← TF.nm_mul, e]
  have sp := P.szpos hk
  have qp : 0 < TF.size k q := TF.nm_pos hk q0
  have gle : TF.size k g ≤ TF.size k x := by
    refine Nat.le_trans ?_ (Nat.le_of_dvd ?_ P.dvd)
    · rw [es]; exact Nat.le_mul_of_pos_left _ qp
    · have := P.len
      have h := Nat.two_pow_pos ps.length
      have := Nat.mul_pos h sp
      omega
  refine ⟨⟨?_, fun r hr => ?_, q0, hb.mono ?_, ?_, fun r hr => ?_, fun r hr => ?_, ?_, ?_⟩, ?_⟩
  · rw [TF.prodL_append, ← P.prod, ← e]
    have : TF.prodL k [g] = g := TF.mul_one k g
    rw [this, TF.mul_assoc, TF.mul_comm k g]
  · rcases List.mem_append.mp hr with z | z
    · exact P.crit r z
    · rw [List.mem_singleton.mp z]; exact hc
  · have h8 : 256 ≤ p ^ 8 := Nat.le_trans (show 256 ≤ 2 ^ 8 by decide) (Nat.pow_le_pow_left hp 8)
    have h1 := Nat.mul_le_mul_left (M * p ^ 6) h8
    have e1 : M * p ^ 6 * p ^ 8 = M * p ^ 14 := by rw [Nat.mul_assoc, ← Nat.pow_add]
    have e2 : 4 * (M * (64 * p ^ 6)) = M * p ^ 6 * 256 := by
      generalize p ^ 6 = a
      rw [Nat.mul_left_comm M 64 a, ← Nat.mul_assoc]
      exact Nat.mul_comm _ _
    rw [e2, ← e1]
    exact h1
  · refine Nat.le_trans ?_ P.hM
    rw [Nat.mul_assoc, ← Nat.mul_pow]
    refine Nat.mul_le_mul_left _ (Nat.pow_le_pow_left ?_ 14)
    rw [es, Nat.mul_comm]
    exact Nat.mul_le_mul_left _ hle
  · rcases List.mem_append.mp hr with z | z
    · exact P.bp r z
    · rw [List.mem_singleton.mp z]
      refine bg.mono ?_
      have h6 : p ^ 6 ≤ (2 ^ 27) ^ 6 := Nat.pow_le_pow_left (Nat.le_of_lt hps) 6
      have := Nat.mul_le_mul_left 64 h6
      refine Nat.le_trans this ?_
      have e : 64 * (2 ^ 27) ^ 6 = 2 ^ 168 := by decide
      rw [e]
      exact Nat.pow_le_pow_right (by decide) (by decide)
  · rcases List.mem_append.mp hr with z | z
    · exact P.small r z
    · rw [List.mem_singleton.mp z]
      exact Nat.lt_of_le_of_lt gle (Nat.lt_trans hS (by decide))
  · rw [List.length_append, List.length_singleton, Nat.pow_succ, Nat.mul_assoc]
    refine Nat.le_trans (Nat.mul_le_mul_left _ ?_) P.len
    rw [es, Nat.mul_comm]
    exact Nat.mul_le_mul_left _ (Nat.le_trans hp hle)
  · exact Nat.dvd_trans ⟨_, es⟩ P.dvd
  · rw [es]
    have := Nat.mul_le_mul_left (TF.size k q) (Nat.le_trans hp hle)
    omega
theorem PartS.done {k : Int} (hk : TF.Kind k) {x rest : P2} {ps : List P2} {M : Nat} (P : PartS k x rest ps M) (hS : TF.size k x < 2 ^ 27) (h1 : TF.size k rest = 1) : Parted k x rest ps := by
  refine ⟨h1, P.crit, P.prod, (P.bits hk hS).mono (Nat.pow_le_pow_right (by decide) (by decide)), P.bp, ?_, P.small⟩
  have h := P.len
  rw [h1, Nat.mul_one] at h
  refine Nat.le_of_not_lt fun z => ?_
  have := Nat.pow_le_pow_right (show 0 < 2 by decide) (show 27 ≤ ps.length by omega)
  omega
theorem no_prime_one {n S : Nat} (hn : 0 < n) (hd : n ∣ S) (h : ∀ q, TF.PrimeN q → q ∣ S → ¬ q ∣ n) : n = 1 := by
  refine Classical.byContradiction fun z => ?_
  obtain ⟨p, hp, hpn⟩ := TF.prime_div n n (Nat.le_refl _) (by omega)
  exact h p hp (Nat.dvd_trans hpn hd) hpn
theorem bd_size {k : Int} (hk : TF.Kind k) {x : P2} (hx : Bd 5000 x) : TF.size k x < 2 ^ 27 := Nat.lt_of_le_of_lt (hx.nm hk) (by decide)
end L14

set_option Elab.async false
set_option linter.all false
set_option maxRecDepth 100000
set_option maxHeartbeats 4000000
namespace L15
open PySem PySem.Spec PyProof.Rows L2 L3 L4 L5 L6 L7 L8 L9 L10 L11 L12 L13 L14
/-! ### [elt for x in range(a) if c] -/
def tLCI (fx : List Nat) (ta : TA) (tc : TT) (te : TE) : TE := fun σ H Q => ta σ H fun vs H1 => ∃ n : Nat, vs = [.int n] ∧ n < sizeLine ∧ ∃ (vals : List V) (W : Nat → List V → Hp → Prop), vals.length = fx.length ∧
  (∀ (j i : Nat) (v : V), fx[j]? = some i → vals[j]? = some v → σ[i]? = some (some v)) ∧ (∀ (i : Nat) xs Hc D ys zs, Hc D = some (.lst ys) → W i xs Hc → W i xs (upd Hc D (.lst zs))) ∧ (∀ H2, Same H1 H2 → W 0 [] H2) ∧
  (∀ (i : Nat) xs Hc, i < n → Same H1 Hc → W i xs Hc → tc (some (.int i) :: vals.map some) Hc fun b H' => Same Hc H' ∧ if b = true then te (some (.int i) :: vals.map some) H' fun v H'' => Same H' H'' ∧ W (i + 1) (xs ++ [v]) H'' else W (i + 1) xs H') ∧
  (∀ p xs H', Same H1 H' → H1 p = none → H' p = some (.lst xs) → W n xs H' → Q (.ref p) H')
section
variable {X : Cx}
theorem comp_runI {elt iter : Expr} {x : Str} {px pos : Pos} {sc : Scope} {c : Expr} {tc : TT} {te : TE} {cl : List (Str × Addr)} {Nc : List Str} {fx : List Nat} (hc : X.calm = true) (hex : X.ex = []) (ok : CompOk X sc cl x Nc fx)
    (hcd : ∀ s₀ H₀ C fp pn, PT (X.comp sc cl C Nc s₀ H₀ fp pn) c tc) (he : ∀ s₀ H₀ C fp pn, PE (X.comp sc cl C Nc s₀ H₀ fp pn) elt te) {pins : List (Addr × Obj)} {σ : L2.St} {H1 : Hp} {s2 : Shared} {it : Addr} {n : Nat} {Q : VK} {vals : List V} {W : Nat → List V → Hp → Prop} (I : Inv X pins σ H1 s2) (hn : n < sizeLine)
    (st : IsRangeIter s2.heap it (0 + ((0 : Nat) : Int) * 1) ((n : Int) - ((0 : Nat) : Int)) 1) (hit : FpOk X pins H1 it) (hl : vals.length = fx.length) (hv : ∀ (j i : Nat) (v : V), fx[j]? = some i → vals[j]? = some v → σ[i]? = some (some v))
    (hst : ∀ (i : Nat) xs Hc D ys zs, Hc D = some (.lst ys) → W i xs Hc → W i xs (upd Hc D (.lst zs))) (h0 : ∀ H2, Same H1 H2 → W 0 [] H2)
    (step : ∀ (i : Nat) xs Hc, i < n → Same H1 Hc → W i xs Hc → tc (some (.int i) :: vals.map some) Hc fun b H' => Same Hc H' ∧ if b = true then te (some (.int i) :: vals.map some) H' fun v H'' => Same H' H'' ∧ W (i + 1) (xs ++ [v]) H'' else W (i + 1) xs H')
    (fin : ∀ p xs H', Same H1 H' → H1 p = none → H' p = some (.lst xs) → W n xs H' → Q (.ref p) H') :
    wpAny (model X.prog X.w) X.A (newList []) (fun acc s₃ => wpAny (model X.prog X.w) X.A (newFunctionEnv sc X.env.globals cl [] X.env.qual none .none (some X.env)) (fun cenv s₄ =>
      codeAny (model X.prog X.w) X.A (.compStart (.ListComp elt [⟨.Name x px, iter, [c], 0⟩] sc pos) 0 (.ref it) acc { cenv with scope := relabel sc X.env }) (compPost (model X.prog X.w) X.A X.xe none (EP X pins σ Q) acc cenv.locals) s₄) X.xe s₃) X.xe s2 := by
  refine wpAny_newObj_type (wpAny_newFunctionEnv ok.ncell (by intro y hy; simp at hy) (fun h₁ hns₁ hsb₁ => ?_) ok.kind)
  dsimp only at hns₁ hsb₁ ⊢
  generalize hH2 : s2.heap.push { cls := .type "list", dict := none, data := .seq ([] : List Value).toArray } = H2 at hns₁ hsb₁ ⊢
  have hC : H2.objs.size = s2.heap.objs.size + 1 := by rw [← hH2, Heap.size_push]
  have hDC : s2.heap.objs.size ≠ H2.objs.size := by rw [hC]; exact Nat.ne_of_lt (Nat.lt_succ_self _)
  have hCle : s2.heap.objs.size ≤ H2.objs.size := by rw [hC]; exact Nat.le_succ _
  have below : ∀ b, b < s2.heap.objs.size → b ≠ H2.objs.size ∧ b ≠ s2.heap.objs.size := fun b hb => ⟨by rw [hC]; exact Nat.ne_of_lt (Nat.lt_succ_of_lt hb), Nat.ne_of_lt hb⟩
  have old : ∀ b o, s2.heap.get? b = some o → h₁.get? b = some o := fun b o e => hsb₁.extBut b o (below b (Heap.lt_size e)).1 (Heap.get?_push_of_some _ (hH2 ▸ Heap.get?_push_of_some _ e))
  have hacc : h₁.get? s2.heap.objs.size = some { cls := .type "list", data := .seq ([] : List Value).toArray } := hsb₁.extBut _ _ hDC (Heap.get?_push_of_some _ (hH2 ▸ Heap.get?_push_size _ rfl))
  have fD : H1 s2.heap.objs.size = none := I.hok.fresh (Nat.le_refl _)
  have fC : H1 H2.objs.size = none := I.hok.fresh hCle
  have itlt : it < s2.heap.objs.size := Heap.lt_size st
  have hok1 : HOk X.prog X.w (upd H1 s2.heap.objs.size (.lst [])) h₁ := I.hok.laid old (Nat.le_refl _) ⟨Nat.zero_le _, [], 0, .nil, hacc⟩
  have I0 := comp_start (tk := s2.toks + ([] : List (Str × Value)).length) (C := H2.objs.size) (fp := [it]) (H3 := upd H1 s2.heap.objs.size (.lst [])) ok I hCle hns₁ (by rw [upd_ne hDC.symm]; exact fC) (Un.laid old (Nat.le_refl _) fD) old
    (fun b o e nb => by rw [upd_ne (below b (Heap.lt_size e)).2]; exact nb) hok1 (fun b hb => by obtain rfl := List.mem_singleton.mp hb; exact hit) hex hl hv (fun b hb => by obtain rfl := List.mem_singleton.mp hb; exact itlt)
  have st1 : IsRangeIter h₁ it (0 + ((0 : Nat) : Int) * 1) ((n : Int) - ((0 : Nat) : Int)) 1 := old _ _ st
  have WR := Walks.range (prog := X.prog) (w := X.w) (I.ok.hd hc) it 0 1 n
  have hitc : ∀ {pns : List (Addr × Obj)} {Hc : Hp}, Hc it = none → (∀ p ∈ pns, p.1 ≠ it) → FpOk (X.comp sc cl H2.objs.size Nc s2 H1 [it] (X.pn ++ pins)) pns Hc it := fun {pns Hc} h1 h2 =>
    ⟨h1, (below it itlt).1, fun z => (List.mem_cons.mp (I.stkSub it z)).elim hit.2.1 hit.2.2.1, .inl (List.mem_singleton.mpr rfl), fun y c e => hit.2.2.2.2.1 y c (ok.sub _ _ e), fun p hp => (List.mem_append.mp hp).elim (fun z => hit.2.2.2.2.2 p z) (h2 p)⟩
  have loop : ∀ s₃ : Shared, s₃ = { s2 with heap := h₁, toks := s2.toks + ([] : List (Str × Value)).length } →
      codeAny (model X.prog X.w) X.A (.compLoop (.ListComp elt [⟨.Name x px, iter, [c], 0⟩] sc pos) 0 (.ref it) (.ref s2.heap.objs.size) (compEnvC sc cl H2.objs.size X.env))
        (compPost (model X.prog X.w) X.A X.xe none (EP X pins σ Q) (.ref s2.heap.objs.size) H2.objs.size) s₃ := by
    rintro s₃ rfl
    refine codeAny_compLoop_tests (fun k s => ∃ (i : Nat) (o : Option V) (xs : List V) (Hc : Hp), k = n - i ∧ i ≤ n ∧ xs.length ≤ i ∧ Inv (X.comp sc cl H2.objs.size Nc s2 H1 [it] (X.pn ++ pins)) [] (o :: vals.map some) Hc s ∧ IsRangeIter s.heap it (0 + (i : Int) * 1) ((n : Int) - (i : Int)) 1 ∧ Hc it = none ∧ Hc s2.heap.objs.size = some (.lst xs) ∧ Same H1 Hc ∧ W i xs Hc) ?_ n
      ⟨0, none, [], _, rfl, Nat.zero_le _, Nat.le_refl _, I0, st1, by rw [upd_ne (below it itlt).2]; exact hit.1, upd_same, Same.up fD, h0 _ (Same.up fD)⟩
    rintro k s3 ⟨i, o, xs, Hc, rfl, hi, hxl, Ic, st3, fi, hD, sm, w⟩
    by_cases hlt : i < n
    · refine WR.item i s3 _ _ hlt st3 fun v h' tk hv' st' kk => ?_
      obtain ⟨t, rfl⟩ := hv'
      obtain ⟨f0, f1, f2, f3, f4, f5⟩ := hitc (pns := []) fi (fun _ z => nomatch z)
      have I4 : Inv (X.comp sc cl H2.objs.size Nc s2 H1 [it] (X.pn ++ pins)) [] (o :: vals.map some) Hc { s3 with heap := h', toks := tk } := Ic.turned (fun b o hb e => kk b o (by simpa using hb) e) f0 f1 f3 f4 f5
      have I4p := I4.pinned (fp := [it]) (fun b hb => by obtain rfl := List.mem_singleton.mp hb; exact hitc fi (fun _ z => nomatch z)) (fun b hb => by
        obtain rfl := List.mem_singleton.mp hb
        exact ⟨_, st', fun v z => by
          have z' : Data.fields _ = Data.cell v := z
          cases z'⟩)
      show wpAny _ _ (assign (.Name x px) _ _) _ _ _
      refine wpAny_assign_Name (store_ok (X := X.comp sc cl H2.objs.size Nc s2 H1 [it] (X.pn ++ pins)) (v := .int (0 + (i : Int) * 1)) I4p ok.nd ok.head (.inl (lookup_relabel_local ok.loc)) ⟨t, rfl⟩ (fun s5 I5 => ?_) (.inr (lookup_relabel_local ok.loc)))
      have ei : (0 + (i : Int) * 1) = (i : Int) := by omega
      have I5' : Inv (X.comp sc cl H2.objs.size Nc s2 H1 [it] (X.pn ++ pins)) ([] ++ pinsAt [it] h') (some (.int (i : Int)) :: vals.map some) Hc s5 := by
        have z := I5
        rw [ei] at z
        exact z
      refine wpAny_tests_one (wpAny_mono (hcd s2 H1 H2.objs.size [it] (X.pn ++ pins) _ s5 _ Hc _ I5' (step i xs Hc hlt sm w)) (fun b s5' q5 => ?_) (fun _ _ z => z.elim))
      obtain ⟨Hb, Ib, smb, qb⟩ := q5
      cases b with
      | false =>
        rw [if_neg Bool.false_ne_true] at qb ⊢
        have pinb := Ib.pin (it, _) (List.mem_append_right _ (mem_pinsAt (List.mem_singleton.mpr rfl) st'))
        exact ⟨n - (i + 1), by omega, i + 1, _, xs, _, rfl, hlt, by omega, Ib.unpinned (pins := []), pinb.1, pinb.2.1, smb _ _ hD, fun b u e => smb _ _ (sm _ _ e), qb⟩
      | true =>
        rw [if_pos rfl] at qb ⊢
        refine wpAny_mono (he s2 H1 H2.objs.size [it] (X.pn ++ pins) _ s5' _ Hb _ Ib qb) (fun u s6 q6 => ?_) (fun _ _ z => z.elim)
        obtain ⟨y, H6, I6, r6, sm6, w6⟩ := q6
        have hD6 := sm6 _ _ (smb _ _ hD)
        refine wpAny_mono (mt_append (X := X.comp sc cl H2.objs.size Nc s2 H1 [it] (X.pn ++ pins)) _ s6 _ H6 (.ref s2.heap.objs.size) [y] (.ref s2.heap.objs.size) [u] (fun v H7 => v = .non ∧ H7 = upd H6 s2.heap.objs.size (.lst (xs ++ [y]))) I6 rfl (.cons r6 .nil) ⟨_, xs, y, rfl, rfl, hD6, by omega, rfl, rfl⟩) (fun u7 s7 q7 => ?_) (fun _ _ z => z.elim)
        obtain ⟨v7, H7, I7, r7, rfl, rfl⟩ := q7
        have pin7 := I7.pin (it, _) (List.mem_append_right _ (mem_pinsAt (List.mem_singleton.mpr rfl) st'))
        refine ⟨n - (i + 1), by omega, i + 1, _, xs ++ [y], _, rfl, hlt, by rw [List.length_append, List.length_singleton]; omega, I7.unpinned (pins := []), ?_, pin7.2.1, upd_same, ?_, hst _ _ _ _ _ _ hD6 w6⟩
        · exact pin7.1
        · intro b u e
          rw [upd_ne (ne_of_none e fD)]
          exact sm6 _ _ (smb _ _ (sm _ _ e))
    · have e : i = n := by omega
      subst e
      refine WR.done s3 _ _ st3 fun h' tk kk => ?_
      obtain ⟨f0, f1, f2, f3, f4, f5⟩ := hitc (pns := []) fi (fun _ z => nomatch z)
      have I4 : Inv (X.comp sc cl H2.objs.size Nc s2 H1 [it] (X.pn ++ pins)) [] (o :: vals.map some) Hc { s3 with heap := h', toks := tk } := Ic.turned (fun b o hb e => kk b o (by simpa using hb) e) f0 f1 f3 f4 f5
      obtain ⟨m4, hn4, _⟩ := id I4.loc
      refine ⟨m4, hn4, fun h'' sb => ?_⟩
      have kp : ∀ b o, b ≠ H2.objs.size → h'.get? b = some o → h''.get? b = some o := fun b o hb e => (sb.2 b hb).trans e
      have hokc : HOk X.prog X.w Hc h'' := fun b u e => by
        refine (I4.hok b u e).stay (fun c v hc q => kp c v ?_ q) (fun _ q => q) fun _ _ q => q
        have hfc : Hc H2.objs.size = none := I4.free
        rintro rfl
        rcases hc with z | z
        · rw [← z, hfc] at e; cases e
        · rw [hfc] at z; cases z
      have un4 : Un (frs X.stack) [it] H1 Hc s2.heap h' := I4.base
      have neC : ∀ b o, s2.heap.get? b = some o → b ≠ H2.objs.size := fun b o e => (below b (Heap.lt_size e)).1
      have un5 : Un (frs X.stack) [it] H1 Hc s2.heap h'' := ⟨fun b o e nb hb hx => kp b o (neC b o e) (un4.keep b o e nb hb hx), fun b o e nb hb hx => by
        obtain ⟨sl, e1⟩ := un4.slot b o e nb hb hx
        exact ⟨sl, kp b _ (neC b o e) e1⟩, un4.free, fun b o e hx => by
        obtain ⟨o', e1⟩ := un4.there b o e hx
        exact ⟨o', kp b _ (neC b o e) e1⟩, un4.tups, un4.frzs, un4.tbls⟩
      have I9 : Inv X pins σ Hc { s3 with heap := h'', toks := tk } := I.call' (s' := { s3 with heap := h'', toks := tk }) (ch := [it]) I4.os un5 hokc I4.bare (fun b hb => by
        obtain rfl := List.mem_singleton.mp hb
        exact ⟨hit.2.2.2.1, hit.2.1, hit.2.2.2.2.1, hit.2.2.2.2.2⟩)
      exact ⟨.ref s2.heap.objs.size, Hc, I9, rfl, fin _ xs Hc sm fD hD w⟩
  exact codeAny_compStart_list (loop _ rfl) (WR.self 0 _ _ _ st1 (loop _ rfl))
theorem pe_lcrI {elt a : Expr} {x : Str} {px p rpos pos : Pos} {sc : Scope} {ta : TA} {c : Expr} {tc : TT} {te : TE} {cl : List (Str × Addr)} {Nc : List Str} {fx : List Nat} (hg : Gl X "range") (hm : X.mg "range" = none) (hc : X.calm = true) (hex : X.ex = [])
    (ha : PA X [a] ta) (ok : CompOk X sc cl x Nc fx) (hcd : ∀ s₀ H₀ C fp pn, PT (X.comp sc cl C Nc s₀ H₀ fp pn) c tc) (he : ∀ s₀ H₀ C fp pn, PE (X.comp sc cl C Nc s₀ H₀ fp pn) elt te) (hs : starEach [a] X.env = [(false, eval a X.env)] := by rfl)
    (hfs : ∀ v, foldedSetIterable (.Call (.Name "range" p) [a] [] rpos) X.env v = pure v := by intro _; rfl) :
    PE X (.ListComp elt [⟨.Name x px, .Call (.Name "range" p) [a] [] rpos, [c], 0⟩] sc pos) (tLCI fx ta tc te) := by
  intro pins s σ H Q I h
  rw [eval_ListComp]
  refine wpAny_comprehension_free (use := none) rfl hfs ok.clos ok.kind ok.names ?_
  show wpAny _ _ (eval (.Call (.Name "range" p) [a] [] rpos) X.env) _ _ s
  refine Call_ (ld_blt I hg hm boot_range (PyProof.Rows.callWith_type1 (thn (ha rpos pins s σ H _ I h) fun us s1 ⟨vs, H1, I1, r1, q1⟩ => ?_) hs rfl))
  obtain ⟨n, e, hn, vals, W, hl, hv, hst, h0, step, fin⟩ := q1
  subst e
  obtain ⟨u, rfl, t, rfl⟩ := vals1 r1
  have hs16 : sizeLine = 16777216 := sizeLine_eq
  refine call_range_1 ?_
  refine wpAny_pyIter_range (IsRange.new ..) (small_one (by omega) (by omega) (by omega) (by omega)) ?_
  have Ia : ∀ tk, Inv X pins σ H1 { s1 with heap := s1.heap.push { cls := .type "range", data := .fields #[.int 0 s1.toks, .int n t, .int 1 (s1.toks + 1)] }, toks := tk } := fun tk => I1.kept fun b o e => Heap.get?_push_of_some _ e
  dsimp only
  refine comp_runI hc hex ok hcd he (W := W) (n := n) ?_ hn ?_ ?_ hl hv hst h0 step fin
  · exact (Ia 0).kept fun b o e => Heap.get?_push_of_some _ e
  · have e1 : (0 : Int) + ((0 : Nat) : Int) * 1 = 0 := by simp
    have e2 : (n : Int) - ((0 : Nat) : Int) = Builtin.Range.rangeSize 0 n 1 := by rw [rangeSize_one]; split <;> omega
    rw [e1, e2]
    exact Heap.get?_push_size _ rfl
  · exact (Ia 0).fpOk (Nat.le_refl _) (I1.hok.fresh (by rw [Heap.size_push]; exact Nat.le_succ _))
end
/-! ### an expression behind which one word is kept -/
section
variable {X : Cx} {e : Expr} {t : TE}
def tJE (t : TE) : TE := fun σ H Q => ∃ J : VK, (∀ v H', J v H' → Q v H') ∧ t σ H J
theorem pe_J (h : PE X e t) : PE X e (tJE t) := by
  intro pins s σ H Q I q
  obtain ⟨J, hJ, q⟩ := q
  exact thn (h pins s σ H _ I q) fun v s1 ⟨x, H1, I1, r1, q1⟩ => ⟨x, H1, I1, r1, hJ _ _ q1⟩
end
theorem sz0 : 0 ≤ sizeLine := Nat.zero_le _
theorem ne_t {m n : P2} (h : (if true = true then !decide (m = n) else decide (m = n)) = true) : m ≠ n := by simpa using h
theorem ne_f {m n : P2} (h : (if true = true then !decide (m = n) else decide (m = n)) = false) : m = n := by simpa using h
theorem pw_fi {k : Int} (hk : TF.Kind k) {b : P2} (hb : Bd 2 b) {n : Nat} (hn : n ≤ 3000) : FiN (TF.pw k b n) := by
  have h := pwF_bd hk hb (sign_bd (.inl rfl)) n
  have e : (8 : Nat) ^ n = 2 ^ (3 * n) := by rw [show (8 : Nat) = 2 ^ 3 by rfl, ← Nat.pow_mul]
  rw [e] at h
  exact h.fi (n := 3 * n + 1) (Nat.pow_lt_pow_right (by decide) (by omega)) (by omega)
theorem bu_fi {k : Int} (hk : TF.Kind k) : FiN (TF.bu k) := (bu_bd hk).fi (n := 10) (by decide) (by decide)
theorem bi_of {k : Int} (hk : TF.Kind k) {y : P2} (h : TF.mul k y (TF.bu k) = (1, 0)) : y = TF.bi k := by
  refine TF.mul_cancel hk (TF.unit_ne_zero (TF.bu_unit hk)) ?_
  rw [TF.bu_bi hk, TF.mul_comm, h]
theorem turn_one {k : Int} {x : P2} (hu : TF.Unit k x) : TF.mul k (TF.nm k x * (TF.conj x).1, TF.nm k x * (TF.conj x).2) x = (1, 0) := by
  have e : TF.mul k (TF.nm k x * (TF.conj x).1, TF.nm k x * (TF.conj x).2) x = TF.mul k (TF.nm k x, 0) (TF.mul k x (TF.conj x)) := by
    generalize TF.nm k x = n
    apply TF.ext <;> simp only [TF.mul, TF.conj] <;> grind
  rw [e, TF.mul_conj]
  have hn : TF.nm k x = 1 ∨ TF.nm k x = -1 := by
    have : (TF.nm k x).natAbs = 1 := hu
    omega
  rcases hn with z | z <;> rw [z] <;> simp [TF.mul]
theorem unit_fi {k : Int} {x : P2} (hu : TF.Unit k x) : Fi (TF.nm k x) := fi_of (n := 1) (by rw [show (TF.nm k x).natAbs = 1 from hu]; decide) (by decide)
theorem reach_fi {k : Int} {x : P2} {n : Nat} (R : TF.Reach k x n) (hx : Bd (2 ^ 3000) x) {m : Nat} (hm : m ≤ n) : FiN (TF.pw k (TF.bu k) m) := by
  obtain ⟨h1, h2⟩ := R.few m hm
  obtain ⟨h3, h4⟩ := hx
  have e : (2 : Nat) ^ 3004 = 2 ^ 3000 * 16 := by rw [show (16 : Nat) = 2 ^ 4 by rfl, ← Nat.pow_add]
  have e1 : 1 ≤ 2 ^ 3000 := Nat.one_le_two_pow
  have hb : Bd (2 ^ 3000 * 8) (TF.pw k (TF.bu k) m) := by
    unfold Bd
    generalize (2 : Nat) ^ 3000 = B at *
    omega
  refine hb.fi (n := 3004) ?_ (by decide)
  rw [e]
  generalize (2 : Nat) ^ 3000 = B at *
  omega
theorem reach_neg {k : Int} (hk : TF.Kind k) (hn : k < 0) {x : P2} (hu : TF.Unit k x) : ∃ n, TF.Reach k x n ∧ Told k x 1 n := by
  have un : ∀ n : Nat, TF.unitOf k 1 n = TF.pw k (TF.bu k) n := fun n => by
    unfold TF.unitOf
    rw [if_neg (by omega), Int.natAbs_natCast, TF.one_mul]
  rcases hk with rfl | rfl | rfl | rfl
  · obtain ⟨n, h, R⟩ := TF.reach_m2 hu
    exact ⟨n, R, .inl rfl, (un n).trans R.at_, fun z => absurd z (by decide), fun _ => ⟨rfl, by omega, by omega⟩⟩
  · obtain ⟨n, h, R⟩ := TF.reach_m1 hu
    exact ⟨n, R, .inl rfl, (un n).trans R.at_, fun _ => ⟨rfl, by omega, by omega⟩, fun z => absurd z (by decide)⟩
  · exact absurd hn (by decide)
  · exact absurd hn (by decide)
end L15

set_option Elab.async false
set_option linter.all false
namespace Law
open PySem PyProof.Rows L2 L3 L4 L5 L6 L7 L8 L9 L10 L11 L12 L13 L14 L15
set_option maxRecDepth 100000
set_option maxHeartbeats 8000000
seal L2.PSs L2.PS L2.PE L2.PT L2.PW L2.PA L2.PI L2.PG L2.PO
def top (i : Nat) : Stmt := PySem.Challenge.pw_twofold_k08_refused.main.body.getD i (.Pass ⟨0, 0, 0, 0⟩)
abbrev s_check_kind : Stmt := top 8
theorem sc_check_kind : FnScope ["kind"] ["kind"] (defScope s_check_kind) := ⟨rfl, rfl, rfl, by decide +kernel, rfl, by decide +kernel, by decide +kernel⟩
abbrev s_added : Stmt := top 10
theorem sc_added : FnScope ["kind", "one", "two"] ["kind", "one", "two"] (defScope s_added) := ⟨rfl, rfl, rfl, by decide +kernel, rfl, by decide +kernel, by decide +kernel⟩
abbrev s_multiplied : Stmt := top 11
theorem sc_multiplied : FnScope ["kind", "one", "two", "first", "second"] ["kind", "one", "two"] (defScope s_multiplied) := ⟨rfl, rfl, rfl, by decide +kernel, rfl, by decide +kernel, by decide +kernel⟩
abbrev s_signed_size : Stmt := top 12
theorem sc_signed_size : FnScope ["kind", "one"] ["kind", "one"] (defScope s_signed_size) := ⟨rfl, rfl, rfl, by decide +kernel, rfl, by decide +kernel, by decide +kernel⟩
abbrev s_size : Stmt := top 13
theorem sc_size : FnScope ["kind", "one"] ["kind", "one"] (defScope s_size) := ⟨rfl, rfl, rfl, by decide +kernel, rfl, by decide +kernel, by decide +kernel⟩
abbrev s_mirror : Stmt := top 17
theorem sc_mirror : FnScope ["one"] ["one"] (defScope s_mirror) := ⟨rfl, rfl, rfl, by decide +kernel, rfl, by decide +kernel, by decide +kernel⟩
abbrev s_rounded : Stmt := top 18
theorem sc_rounded : FnScope ["part", "whole"] ["part", "whole"] (defScope s_rounded) := ⟨rfl, rfl, rfl, by decide +kernel, rfl, by decide +kernel, by decide +kernel⟩
abbrev s_nearest_quotient : Stmt := top 19
theorem sc_nearest_quotient : FnScope ["kind", "one", "two", "product", "whole"] ["kind", "one", "two"] (defScope s_nearest_quotient) := ⟨rfl, rfl, rfl, by decide +kernel, rfl, by decide +kernel, by decide +kernel⟩
abbrev s_without : Stmt := top 20
theorem sc_without : FnScope ["kind", "one", "factor", "two", "product"] ["kind", "one", "factor", "two"] (defScope s_without) := ⟨rfl, rfl, rfl, by decide +kernel, rfl, by decide +kernel, by decide +kernel⟩
abbrev s_split : Stmt := top 21
theorem sc_split : FnScope ["kind", "one", "two", "quotient"] ["kind", "one", "two"] (defScope s_split) := ⟨rfl, rfl, rfl, by decide +kernel, rfl, by decide +kernel, by decide +kernel⟩
abbrev s_divides : Stmt := top 22
theorem sc_divides : FnScope ["kind", "one", "two"] ["kind", "one", "two"] (defScope s_divides) := ⟨rfl, rfl, rfl, by decide +kernel, rfl, by decide +kernel, by decide +kernel⟩
abbrev s_alike : Stmt := top 23
theorem sc_alike : FnScope ["kind", "one", "two"] ["kind", "one", "two"] (defScope s_alike) := ⟨rfl, rfl, rfl, by decide +kernel, rfl, by decide +kernel, by decide +kernel⟩
abbrev s_common : Stmt := top 24
theorem sc_common : FnScope ["kind", "one", "two", "upper", "lower", "quotient", "rest"] ["kind", "one", "two"] (defScope s_common) := ⟨rfl, rfl, rfl, by decide +kernel, rfl, by decide +kernel, by decide +kernel⟩
abbrev s_is_unit : Stmt := top 27
theorem sc_is_unit : FnScope ["kind", "one"] ["kind", "one"] (defScope s_is_unit) := ⟨rfl, rfl, rfl, by decide +kernel, rfl, by decide +kernel, by decide +kernel⟩
abbrev s_check_unit : Stmt := top 28
theorem sc_check_unit : FnScope ["kind", "one"] ["kind", "one"] (defScope s_check_unit) := ⟨rfl, rfl, rfl, by decide +kernel, rfl, by decide +kernel, by decide +kernel⟩
abbrev s_times_whole : Stmt := top 29
theorem sc_times_whole : FnScope ["whole", "one"] ["whole", "one"] (defScope s_times_whole) := ⟨rfl, rfl, rfl, by decide +kernel, rfl, by decide +kernel, by decide +kernel⟩
abbrev s_turned : Stmt := top 30
theorem sc_turned : FnScope ["kind", "one"] ["kind", "one"] (defScope s_turned) := ⟨rfl, rfl, rfl, by decide +kernel, rfl, by decide +kernel, by decide +kernel⟩
abbrev s_taken : Stmt := top 31
theorem sc_taken : FnScope ["kind", "one", "times", "result", "square", "left"] ["kind", "one", "times"] (defScope s_taken) := ⟨rfl, rfl, rfl, by decide +kernel, rfl, by decide +kernel, by decide +kernel⟩
abbrev s_unit_of : Stmt := top 32
theorem sc_unit_of : FnScope ["kind", "sign", "times", "basic", "factor"] ["kind", "sign", "times"] (defScope s_unit_of) := ⟨rfl, rfl, rfl, by decide +kernel, rfl, by decide +kernel, by decide +kernel⟩
abbrev s_steps_to : Stmt := top 33
theorem sc_steps_to : FnScope ["kind", "one", "steps", "unit"] ["kind", "one"] (defScope s_steps_to) := ⟨rfl, rfl, rfl, by decide +kernel, rfl, by decide +kernel, by decide +kernel⟩
abbrev s_sign_of : Stmt := top 34
theorem sc_sign_of : FnScope ["kind", "one", "leading"] ["kind", "one"] (defScope s_sign_of) := ⟨rfl, rfl, rfl, by decide +kernel, rfl, by decide +kernel, by decide +kernel⟩
abbrev s_told_unit : Stmt := top 35
theorem sc_told_unit : FnScope ["kind", "one", "steps", "times"] ["kind", "one"] (defScope s_told_unit) := ⟨rfl, rfl, rfl, by decide +kernel, rfl, by decide +kernel, by decide +kernel⟩
abbrev s_primes_of : Stmt := top 37
theorem sc_primes_of : FnScope ["whole", "primes", "left", "factor"] ["whole"] (defScope s_primes_of) := ⟨rfl, rfl, rfl, by decide +kernel, rfl, by decide +kernel, by decide +kernel⟩
abbrev s_roots : Stmt := top 38
theorem sc_roots : FnScope ["kind", "prime"] ["kind", "prime"] (defScope s_roots) := ⟨rfl, rfl, rfl, by decide +kernel, rfl, by decide +kernel, by decide +kernel⟩
abbrev s_part_at : Stmt := top 39
theorem sc_part_at : FnScope ["kind", "one", "prime", "shared", "found"] ["kind", "one", "prime"] (defScope s_part_at) := ⟨rfl, rfl, rfl, by decide +kernel, rfl, by decide +kernel, by decide +kernel⟩
abbrev s_parts : Stmt := top 40
theorem sc_parts : FnScope ["kind", "one", "rest", "found", "prime", "part"] ["kind", "one"] (defScope s_parts) := ⟨rfl, rfl, rfl, by decide +kernel, rfl, by decide +kernel, by decide +kernel⟩
abbrev s_parts_no_further : Stmt := top 41
theorem sc_parts_no_further : FnScope ["kind", "one"] ["kind", "one"] (defScope s_parts_no_further) := ⟨rfl, rfl, rfl, by decide +kernel, rfl, by decide +kernel, by decide +kernel⟩
abbrev s_law_at : Stmt := top 43
theorem sc_law_at : FnScope ["_law_script", "_law_k"] ["_law_script", "_law_k"] (defScope s_law_at) := ⟨rfl, rfl, rfl, by decide +kernel, rfl, by decide +kernel, by decide +kernel⟩
abbrev s_law_small_by : Stmt := top 44
theorem sc_law_small_by : FnScope ["_law_script", "_law_k"] ["_law_script", "_law_k"] (defScope s_law_small_by) := ⟨rfl, rfl, rfl, by decide +kernel, rfl, by decide +kernel, by decide +kernel⟩
abbrev s_law_product : Stmt := top 45
theorem sc_law_product : FnScope ["_law_kind", "_law_one", "_law_two", "_law_first"] ["_law_kind", "_law_one", "_law_two"] (defScope s_law_product) := ⟨rfl, rfl, rfl, by decide +kernel, rfl, by decide +kernel, by decide +kernel⟩
abbrev s_law_size_of : Stmt := top 46
theorem sc_law_size_of : FnScope ["_law_kind", "_law_one"] ["_law_kind", "_law_one"] (defScope s_law_size_of) := ⟨rfl, rfl, rfl, by decide +kernel, rfl, by decide +kernel, by decide +kernel⟩
abbrev s_law_two_ways : Stmt := top 47
theorem sc_law_two_ways : FnScope ["_law_which", "_law_kind", "_law_one", "_law_two"] ["_law_which", "_law_kind", "_law_one", "_law_two"] (defScope s_law_two_ways) := ⟨rfl, rfl, rfl, by decide +kernel, rfl, by decide +kernel, by decide +kernel⟩
abbrev s_law_one_way : Stmt := top 48
theorem sc_law_one_way : FnScope ["_law_which", "_law_kind", "_law_one"] ["_law_which", "_law_kind", "_law_one"] (defScope s_law_one_way) := ⟨rfl, rfl, rfl, by decide +kernel, rfl, by decide +kernel, by decide +kernel⟩
abbrev s_law_said : Stmt := top 49
theorem sc_law_said : FnScope ["_law_which", "_law_kind", "_law_one", "_law_two", "_law_word"] ["_law_which", "_law_kind", "_law_one", "_law_two"] (defScope s_law_said) := ⟨rfl, rfl, rfl, by decide +kernel, rfl, by decide +kernel, by decide +kernel⟩
abbrev s_law_refuses : Stmt := top 50
theorem sc_law_refuses : FnScope ["_law_which", "_law_kind", "_law_one", "_law_two", "_law_under", "e"] ["_law_which", "_law_kind", "_law_one", "_law_two"] (defScope s_law_refuses) := ⟨rfl, rfl, rfl, by decide +kernel, rfl, by decide +kernel, by decide +kernel⟩
abbrev s_law : Stmt := top 51
theorem sc_law : FnScope ["_law_script", "_law_kind", "_law_one", "_law_two", "_law_way", "_law_which", "_law_due"] ["_law_script"] (defScope s_law) := ⟨rfl, rfl, rfl, by decide +kernel, rfl, by decide +kernel, by decide +kernel⟩
set_option genInjectivity false
set_option genSizeOf false
structure Adr where
  f_check_kind : Addr
  d_check_kind : FuncData
  f_added : Addr
  d_added : FuncData
  f_multiplied : Addr
  d_multiplied : FuncData
  f_signed_size : Addr
  d_signed_size : FuncData
  f_size : Addr
  d_size : FuncData
  f_mirror : Addr
  d_mirror : FuncData
  f_rounded : Addr
  d_rounded : FuncData
  f_nearest_quotient : Addr
  d_nearest_quotient : FuncData
  f_without : Addr
  d_without : FuncData
  f_split : Addr
  d_split : FuncData
  f_divides : Addr
  d_divides : FuncData
  f_alike : Addr
  d_alike : FuncData
  f_common : Addr
  d_common : FuncData
  f_is_unit : Addr
  d_is_unit : FuncData
  f_check_unit : Addr
  d_check_unit : FuncData
  f_times_whole : Addr
  d_times_whole : FuncData
  f_turned : Addr
  d_turned : FuncData
  f_taken : Addr
  d_taken : FuncData
  f_unit_of : Addr
  d_unit_of : FuncData
  f_steps_to : Addr
  d_steps_to : FuncData
  f_sign_of : Addr
  d_sign_of : FuncData
  f_told_unit : Addr
  d_told_unit : FuncData
  f_primes_of : Addr
  d_primes_of : FuncData
  f_roots : Addr
  d_roots : FuncData
  f_part_at : Addr
  d_part_at : FuncData
  f_parts : Addr
  d_parts : FuncData
  f_parts_no_further : Addr
  d_parts_no_further : FuncData
  f_law_at : Addr
  d_law_at : FuncData
  f_law_small_by : Addr
  d_law_small_by : FuncData
  f_law_product : Addr
  d_law_product : FuncData
  f_law_size_of : Addr
  d_law_size_of : FuncData
  f_law_two_ways : Addr
  d_law_two_ways : FuncData
  f_law_one_way : Addr
  d_law_one_way : FuncData
  f_law_said : Addr
  d_law_said : FuncData
  f_law_refuses : Addr
  d_law_refuses : FuncData
  f_law : Addr
  d_law : FuncData
  a_KINDS : Addr
  a_NOUGHT : Addr
  a_ONE : Addr
  a_BASIC : Addr
  a_FoldError : Addr
  a_BadKind : Addr
  a_ByNought : Addr
  a_NoUnit : Addr
  a_NoLine : Addr
structure Txt (K : PySem.W.Frag) (mg : Str → Option Value) (t : Adr) : Prop where
  d_check_kind : Dn K mg "check_kind" s_check_kind t.f_check_kind t.d_check_kind ["kind"]
  d_added : Dn K mg "added" s_added t.f_added t.d_added ["kind", "one", "two"]
  d_multiplied : Dn K mg "multiplied" s_multiplied t.f_multiplied t.d_multiplied ["kind", "one", "two"]
  d_signed_size : Dn K mg "signed_size" s_signed_size t.f_signed_size t.d_signed_size ["kind", "one"]
  d_size : Dn K mg "size" s_size t.f_size t.d_size ["kind", "one"]
  d_mirror : Dn K mg "mirror" s_mirror t.f_mirror t.d_mirror ["one"]
  d_rounded : Dn K mg "rounded" s_rounded t.f_rounded t.d_rounded ["part", "whole"]
  d_nearest_quotient : Dn K mg "nearest_quotient" s_nearest_quotient t.f_nearest_quotient t.d_nearest_quotient ["kind", "one", "two"]
  d_without : Dn K mg "without" s_without t.f_without t.d_without ["kind", "one", "factor", "two"]
  d_split : Dn K mg "split" s_split t.f_split t.d_split ["kind", "one", "two"]
  d_divides : Dn K mg "divides" s_divides t.f_divides t.d_divides ["kind", "one", "two"]
  d_alike : Dn K mg "alike" s_alike t.f_alike t.d_alike ["kind", "one", "two"]
  d_common : Dn K mg "common" s_common t.f_common t.d_common ["kind", "one", "two"]
  d_is_unit : Dn K mg "is_unit" s_is_unit t.f_is_unit t.d_is_unit ["kind", "one"]
  d_check_unit : Dn K mg "check_unit" s_check_unit t.f_check_unit t.d_check_unit ["kind", "one"]
  d_times_whole : Dn K mg "times_whole" s_times_whole t.f_times_whole t.d_times_whole ["whole", "one"]
  d_turned : Dn K mg "turned" s_turned t.f_turned t.d_turned ["kind", "one"]
  d_taken : Dn K mg "taken" s_taken t.f_taken t.d_taken ["kind", "one", "times"]
  d_unit_of : Dn K mg "unit_of" s_unit_of t.f_unit_of t.d_unit_of ["kind", "sign", "times"]
  d_steps_to : Dn K mg "steps_to" s_steps_to t.f_steps_to t.d_steps_to ["kind", "one"]
  d_sign_of : Dn K mg "sign_of" s_sign_of t.f_sign_of t.d_sign_of ["kind", "one"]
  d_told_unit : Dn K mg "told_unit" s_told_unit t.f_told_unit t.d_told_unit ["kind", "one"]
  d_primes_of : Dn K mg "primes_of" s_primes_of t.f_primes_of t.d_primes_of ["whole"]
  d_roots : Dn K mg "roots" s_roots t.f_roots t.d_roots ["kind", "prime"]
  d_part_at : Dn K mg "part_at" s_part_at t.f_part_at t.d_part_at ["kind", "one", "prime"]
  d_parts : Dn K mg "parts" s_parts t.f_parts t.d_parts ["kind", "one"]
  d_parts_no_further : Dn K mg "parts_no_further" s_parts_no_further t.f_parts_no_further t.d_parts_no_further ["kind", "one"]
  d_law_at : Dn K mg "_law_at" s_law_at t.f_law_at t.d_law_at ["_law_script", "_law_k"]
  d_law_small_by : Dn K mg "_law_small_by" s_law_small_by t.f_law_small_by t.d_law_small_by ["_law_script", "_law_k"]
  d_law_product : Dn K mg "_law_product" s_law_product t.f_law_product t.d_law_product ["_law_kind", "_law_one", "_law_two"]
  d_law_size_of : Dn K mg "_law_size_of" s_law_size_of t.f_law_size_of t.d_law_size_of ["_law_kind", "_law_one"]
  d_law_two_ways : Dn K mg "_law_two_ways" s_law_two_ways t.f_law_two_ways t.d_law_two_ways ["_law_which", "_law_kind", "_law_one", "_law_two"]
  d_law_one_way : Dn K mg "_law_one_way" s_law_one_way t.f_law_one_way t.d_law_one_way ["_law_which", "_law_kind", "_law_one"]
  d_law_said : Dn K mg "_law_said" s_law_said t.f_law_said t.d_law_said ["_law_which", "_law_kind", "_law_one", "_law_two"]
  d_law_refuses : Dn K mg "_law_refuses" s_law_refuses t.f_law_refuses t.d_law_refuses ["_law_which", "_law_kind", "_law_one", "_law_two"]
  d_law : Dn K mg "law" s_law t.f_law t.d_law ["_law_script"]
  c_KINDS : mg "KINDS" = some (.ref t.a_KINDS) ∧ ∀ H : Hp, SqT K H t.a_KINDS [.int (-2), .int (-1), .int (2), .int (3)]
  c_NOUGHT : mg "NOUGHT" = some (.ref t.a_NOUGHT) ∧ ∀ H : Hp, SqT K H t.a_NOUGHT [.int (0), .int (0)]
  c_ONE : mg "ONE" = some (.ref t.a_ONE) ∧ ∀ H : Hp, SqT K H t.a_ONE [.int (1), .int (0)]
  c_BASIC : mg "BASIC" = some (.ref t.a_BASIC) ∧ BasD K t.a_BASIC
  x_FoldError : ExcC K mg "FoldError" t.a_FoldError
  x_BadKind : ExcC K mg "BadKind" t.a_BadKind
  x_ByNought : ExcC K mg "ByNought" t.a_ByNought
  x_NoUnit : ExcC K mg "NoUnit" t.a_NoUnit
  x_NoLine : ExcC K mg "NoLine" t.a_NoLine
  q_BadKind : ExcQ K t.a_BadKind
  m_BadKind_FoldError : PySem.W.exmOne K (.ref t.a_BadKind) (.ref t.a_FoldError) = some true
  i_BadKind_FoldError : PySem.W.kitOne K (.ref t.a_BadKind) (.ref t.a_FoldError) = some true
  m_BadKind_BadKind : PySem.W.exmOne K (.ref t.a_BadKind) (.ref t.a_BadKind) = some true
  i_BadKind_BadKind : PySem.W.kitOne K (.ref t.a_BadKind) (.ref t.a_BadKind) = some true
  m_BadKind_ByNought : PySem.W.exmOne K (.ref t.a_BadKind) (.ref t.a_ByNought) = some false
  i_BadKind_ByNought : PySem.W.kitOne K (.ref t.a_BadKind) (.ref t.a_ByNought) = some false
  m_BadKind_NoUnit : PySem.W.exmOne K (.ref t.a_BadKind) (.ref t.a_NoUnit) = some false
  i_BadKind_NoUnit : PySem.W.kitOne K (.ref t.a_BadKind) (.ref t.a_NoUnit) = some false
  m_BadKind_NoLine : PySem.W.exmOne K (.ref t.a_BadKind) (.ref t.a_NoLine) = some false
  i_BadKind_NoLine : PySem.W.kitOne K (.ref t.a_BadKind) (.ref t.a_NoLine) = some false
  i_BadKind_ValueError : PySem.W.kitOne K (.ref t.a_BadKind) (.type "ValueError") = some true
  q_ByNought : ExcQ K t.a_ByNought
  m_ByNought_FoldError : PySem.W.exmOne K (.ref t.a_ByNought) (.ref t.a_FoldError) = some true
  i_ByNought_FoldError : PySem.W.kitOne K (.ref t.a_ByNought) (.ref t.a_FoldError) = some true
  m_ByNought_BadKind : PySem.W.exmOne K (.ref t.a_ByNought) (.ref t.a_BadKind) = some false
  i_ByNought_BadKind : PySem.W.kitOne K (.ref t.a_ByNought) (.ref t.a_BadKind) = some false
  m_ByNought_ByNought : PySem.W.exmOne K (.ref t.a_ByNought) (.ref t.a_ByNought) = some true
  i_ByNought_ByNought : PySem.W.kitOne K (.ref t.a_ByNought) (.ref t.a_ByNought) = some true
  m_ByNought_NoUnit : PySem.W.exmOne K (.ref t.a_ByNought) (.ref t.a_NoUnit) = some false
  i_ByNought_NoUnit : PySem.W.kitOne K (.ref t.a_ByNought) (.ref t.a_NoUnit) = some false
  m_ByNought_NoLine : PySem.W.exmOne K (.ref t.a_ByNought) (.ref t.a_NoLine) = some false
  i_ByNought_NoLine : PySem.W.kitOne K (.ref t.a_ByNought) (.ref t.a_NoLine) = some false
  i_ByNought_ValueError : PySem.W.kitOne K (.ref t.a_ByNought) (.type "ValueError") = some true
  q_NoUnit : ExcQ K t.a_NoUnit
  m_NoUnit_FoldError : PySem.W.exmOne K (.ref t.a_NoUnit) (.ref t.a_FoldError) = some true
  i_NoUnit_FoldError : PySem.W.kitOne K (.ref t.a_NoUnit) (.ref t.a_FoldError) = some true
  m_NoUnit_BadKind : PySem.W.exmOne K (.ref t.a_NoUnit) (.ref t.a_BadKind) = some false
  i_NoUnit_BadKind : PySem.W.kitOne K (.ref t.a_NoUnit) (.ref t.a_BadKind) = some false
  m_NoUnit_ByNought : PySem.W.exmOne K (.ref t.a_NoUnit) (.ref t.a_ByNought) = some false
  i_NoUnit_ByNought : PySem.W.kitOne K (.ref t.a_NoUnit) (.ref t.a_ByNought) = some false
  m_NoUnit_NoUnit : PySem.W.exmOne K (.ref t.a_NoUnit) (.ref t.a_NoUnit) = some true
  i_NoUnit_NoUnit : PySem.W.kitOne K (.ref t.a_NoUnit) (.ref t.a_NoUnit) = some true
  m_NoUnit_NoLine : PySem.W.exmOne K (.ref t.a_NoUnit) (.ref t.a_NoLine) = some false
  i_NoUnit_NoLine : PySem.W.kitOne K (.ref t.a_NoUnit) (.ref t.a_NoLine) = some false
  i_NoUnit_ValueError : PySem.W.kitOne K (.ref t.a_NoUnit) (.type "ValueError") = some true
  b_ValueError : mg "ValueError" = none
  b_abs : mg "abs" = none
  b_isinstance : mg "isinstance" = none
  b_len : mg "len" = none
  b_range : mg "range" = none
  b_tuple : mg "tuple" = none
section
variable {P : Program} {w : World} {K : PySem.W.Frag} {mg : Str → Option Value} {base : Heap} {t : Adr}
def sp_check_kind : Sp := fun vs H Q _ => ∃ k, vs = [.int k] ∧ TF.Kind k ∧ Q .non H
theorem ok_check_kind {k : Nat} (T : Txt K mg t) : FnOk P w K mg base (CXL P w) (k + 1) t.f_check_kind t.d_check_kind ["kind"] (sp_check_kind) := by
  refine T.d_check_kind.F.okL sc_check_kind (fun vs H Q E h => ?_) (fun cdv A outer s H vs Q E hr h => ?_)
  · obtain ⟨n, rfl, hk, q⟩ := h
    rfl
  · obtain ⟨n, rfl, hk, q⟩ := h
    refine ⟨_, (pss_one (ps_if (pt_cmpR op_notIn_seq (pv 0) (pe_glob (v := .ref t.a_KINDS) rfl T.c_KINDS.1 rfl) (by with_unfolding_all rfl)) (pss_one ps_never) pss_nil)), ?_⟩
    have e : inV (.int n) [.int (-2), .int (-1), .int 2, .int 3] = true := by rcases hk with rfl | rfl | rfl | rfl <;> rfl
    refine ⟨_, rfl, _, _, rfl, .inr (T.c_KINDS.2 _), rfl, rfl, _, rfl, ifF (congrArg not e) q⟩
theorem okb_check_kind {k : Nat} (T : Txt K mg t) : FnOk P w K mg base (CXL P w) (k + 1) t.f_check_kind t.d_check_kind ["kind"] (spb t.a_BadKind 0) := by
  refine T.d_check_kind.F.okX sc_check_kind (fun vs H Q E h => ?_) (fun cdv A outer s H vs Q E hr h => ?_)
  · obtain ⟨n, rest, rfl, hl, hk, q⟩ := h
    rw [rest0 hl]
    rfl
  · obtain ⟨n, rest, rfl, hl, hk, q⟩ := h
    cases rest0 hl
    refine ⟨_, (pss_one (ps_if (pt_cmpR op_notIn_seq (pv 0) (pe_glob (v := .ref t.a_KINDS) rfl T.c_KINDS.1 rfl) (by with_unfolding_all rfl)) (pss_one (ps_raise T.x_BadKind rfl (pa_cons pe_str pa_nil))) pss_nil)), ?_⟩
    exact ⟨_, rfl, _, _, rfl, .inr (T.c_KINDS.2 _), rfl, rfl, _, rfl, ifT (congrArg not (not_kind hk)) ⟨sz1, q _ (Same.refl _)⟩⟩
def sp_added (K : PySem.W.Frag) : Sp := fun vs H Q _ => ∃ k x y vx vy, vs = [.int k, vx, vy] ∧ TF.Kind k ∧ NumV K H vx x ∧ NumV K H vy y ∧ ∀ v H', Same H H' → NumV K H' v (TF.add x y) → Q v H'
theorem ok_added {k : Nat} (T : Txt K mg t) : FnOk P w K mg base (CXL P w) (k + 2) t.f_added t.d_added ["kind", "one", "two"] (sp_added K) := by
  refine T.d_added.F.okL sc_added (fun vs H Q E h => ?_) (fun cdv A outer s H vs Q E hr h => ?_)
  · obtain ⟨n, x, y, vx, vy, rfl, hk, hx, hy, q⟩ := h
    rfl
  · obtain ⟨n, x, y, vx, vy, rfl, hk, hx, hy, q⟩ := h
    refine ⟨_, (pss_cons (ps_expr (pe_call (ok_check_kind T) hr rfl T.d_check_kind.m T.d_check_kind.F.kp T.d_check_kind.b .nil passL (pa_cons (pv 0) pa_nil (hs := seN))))
      (pss_one (ps_ret (pe_pair (pa_cons (pe_op op_add (pe_n0 (pv 1)) (pe_n0 (pv 2))) (pa_cons (pe_op op_add (pe_n1 (pv 1)) (pe_n1 (pv 2))) pa_nil (hs := seB)) (hs := seB)))))), ?_⟩
    refine ⟨_, rfl, _, rfl, hk, ?_⟩
    exact ⟨_, rfl, _, hx, _, rfl, _, hy, _, _, rfl, rfl, _, rfl, _, hx, _, rfl, _, hy, _, _, rfl, rfl, _, _, rfl, fun v H' s n => q v H' s n⟩
theorem okb_added {k : Nat} (T : Txt K mg t) : FnOk P w K mg base (CXL P w) (k + 2) t.f_added t.d_added ["kind", "one", "two"] (spb t.a_BadKind 2) := by
  refine T.d_added.F.okX sc_added (fun vs H Q E h => ?_) (fun cdv A outer s H vs Q E hr h => ?_)
  · obtain ⟨n, rest, rfl, hl, hk, q⟩ := h
    obtain ⟨a, b, rfl⟩ := rest2 hl
    rfl
  · obtain ⟨n, rest, rfl, hl, hk, q⟩ := h
    obtain ⟨a, b, rfl⟩ := rest2 hl
    refine ⟨_, (pss_cons (ps_expr (pe_call (okb_check_kind T) hr rfl T.d_check_kind.m T.d_check_kind.F.kp T.d_check_kind.b .nil passX (pa_cons (pv 0) pa_nil (hs := seN))))
      pss_never), ?_⟩
    exact ⟨_, rfl, n, [], rfl, rfl, hk, q⟩
def sp_multiplied (K : PySem.W.Frag) : Sp := fun vs H Q _ => ∃ k x y vx vy, vs = [.int k, vx, vy] ∧ TF.Kind k ∧ NumV K H vx x ∧ NumV K H vy y ∧ FiN x ∧ FiN y ∧ ∀ v H', Same H H' → NumV K H' v (TF.mul k x y) → Q v H'
theorem ok_multiplied {k : Nat} (T : Txt K mg t) : FnOk P w K mg base (CXL P w) (k + 2) t.f_multiplied t.d_multiplied ["kind", "one", "two"] (sp_multiplied K) := by
  refine T.d_multiplied.F.okL sc_multiplied (fun vs H Q E h => ?_) (fun cdv A outer s H vs Q E hr h => ?_)
  · obtain ⟨n, x, y, vx, vy, rfl, hk, hx, hy, fx, fy, q⟩ := h
    rfl
  · obtain ⟨n, x, y, vx, vy, rfl, hk, hx, hy, fx, fy, q⟩ := h
    refine ⟨_, (pss_cons (ps_expr (pe_call (ok_check_kind T) hr rfl T.d_check_kind.m T.d_check_kind.F.kp T.d_check_kind.b .nil passL (pa_cons (pv 0) pa_nil (hs := seN))))
      (pss_cons (ps_set (i := 3) sc_multiplied.nd rfl (by first | exact Or.inl rfl | exact Or.inr rfl) (pe_op op_add (pe_op op_mulF (pe_n0 (pv 1)) (pe_n0 (pv 2))) (pe_op op_mulF (pe_op op_mulF (pv 0) (pe_n1 (pv 1))) (pe_n1 (pv 2)))))
      (pss_cons (ps_set (i := 4) sc_multiplied.nd rfl (by first | exact Or.inl rfl | exact Or.inr rfl) (pe_op op_add (pe_op op_mulF (pe_n0 (pv 1)) (pe_n1 (pv 2))) (pe_op op_mulF (pe_n1 (pv 1)) (pe_n0 (pv 2)))))
      (pss_one (ps_ret (pe_pair (pa_cons (pv 3) (pa_cons (pv 4) pa_nil (hs := seN)) (hs := seN)))))))), ?_⟩
    refine ⟨_, rfl, _, rfl, hk, ?_⟩
    refine ⟨_, rfl, _, hx, _, rfl, _, hy, _, _, rfl, rfl, fx.1.mulOk fy.1, _, rfl, _, rfl, _, hx, _, _, rfl, rfl, .of_left (kind_fi hk), _, rfl, _, hy, _, _, rfl, rfl, mulOk3 hk fx.2 fy.2, _, _, rfl, rfl, ?_⟩
    refine ⟨_, rfl, _, hx, _, rfl, _, hy, _, _, rfl, rfl, fx.1.mulOk fy.2, _, rfl, _, hx, _, rfl, _, hy, _, _, rfl, rfl, fx.2.mulOk fy.1, _, _, rfl, rfl, ?_⟩
    exact ⟨_, rfl, _, rfl, _, _, rfl, fun v H' s n => q v H' s n⟩
theorem okb_multiplied {k : Nat} (T : Txt K mg t) : FnOk P w K mg base (CXL P w) (k + 2) t.f_multiplied t.d_multiplied ["kind", "one", "two"] (spb t.a_BadKind 2) := by
  refine T.d_multiplied.F.okX sc_multiplied (fun vs H Q E h => ?_) (fun cdv A outer s H vs Q E hr h => ?_)
  · obtain ⟨n, rest, rfl, hl, hk, q⟩ := h
    obtain ⟨a, b, rfl⟩ := rest2 hl
    rfl
  · obtain ⟨n, rest, rfl, hl, hk, q⟩ := h
    obtain ⟨a, b, rfl⟩ := rest2 hl
    refine ⟨_, (pss_cons (ps_expr (pe_call (okb_check_kind T) hr rfl T.d_check_kind.m T.d_check_kind.F.kp T.d_check_kind.b .nil passX (pa_cons (pv 0) pa_nil (hs := seN))))
      pss_never), ?_⟩
    exact ⟨_, rfl, n, [], rfl, rfl, hk, q⟩
def sp_signed_size (K : PySem.W.Frag) : Sp := fun vs H Q _ => ∃ k x vx, vs = [.int k, vx] ∧ TF.Kind k ∧ NumV K H vx x ∧ FiN x ∧ Q (.int (TF.nm k x)) H
theorem ok_signed_size {k : Nat} (T : Txt K mg t) : FnOk P w K mg base (CXL P w) (k + 2) t.f_signed_size t.d_signed_size ["kind", "one"] (sp_signed_size K) := by
  refine T.d_signed_size.F.okL sc_signed_size (fun vs H Q E h => ?_) (fun cdv A outer s H vs Q E hr h => ?_)
  · obtain ⟨n, x, vx, rfl, hk, hx, fx, q⟩ := h
    rfl
  · obtain ⟨n, x, vx, rfl, hk, hx, fx, q⟩ := h
    refine ⟨_, (pss_cons (ps_expr (pe_call (ok_check_kind T) hr rfl T.d_check_kind.m T.d_check_kind.F.kp T.d_check_kind.b .nil passL (pa_cons (pv 0) pa_nil (hs := seN))))
      (pss_one (ps_ret (pe_op op_sub (pe_op op_mulF (pe_n0 (pv 1)) (pe_n0 (pv 1))) (pe_op op_mulF (pe_op op_mulF (pv 0) (pe_n1 (pv 1))) (pe_n1 (pv 1))))))), ?_⟩
    refine ⟨_, rfl, _, rfl, hk, ?_⟩
    exact ⟨_, rfl, _, hx, _, rfl, _, hx, _, _, rfl, rfl, fx.1.mulOk fx.1, _, rfl, _, rfl, _, hx, _, _, rfl, rfl, .of_left (kind_fi hk), _, rfl, _, hx, _, _, rfl, rfl, mulOk3 hk fx.2 fx.2, _, _, rfl, rfl, q⟩
theorem okb_signed_size {k : Nat} (T : Txt K mg t) : FnOk P w K mg base (CXL P w) (k + 2) t.f_signed_size t.d_signed_size ["kind", "one"] (spb t.a_BadKind 1) := by
  refine T.d_signed_size.F.okX sc_signed_size (fun vs H Q E h => ?_) (fun cdv A outer s H vs Q E hr h => ?_)
  · obtain ⟨n, rest, rfl, hl, hk, q⟩ := h
    obtain ⟨a, rfl⟩ := rest1 hl
    rfl
  · obtain ⟨n, rest, rfl, hl, hk, q⟩ := h
    obtain ⟨a, rfl⟩ := rest1 hl
    refine ⟨_, (pss_cons (ps_expr (pe_call (okb_check_kind T) hr rfl T.d_check_kind.m T.d_check_kind.F.kp T.d_check_kind.b .nil passX (pa_cons (pv 0) pa_nil (hs := seN))))
      pss_never), ?_⟩
    exact ⟨_, rfl, n, [], rfl, rfl, hk, q⟩
def sp_size (K : PySem.W.Frag) : Sp := fun vs H Q _ => ∃ k x vx, vs = [.int k, vx] ∧ TF.Kind k ∧ NumV K H vx x ∧ FiN x ∧ Q (.int (TF.nm k x).natAbs) H
theorem ok_size {k : Nat} (T : Txt K mg t) : FnOk P w K mg base (CXL P w) (k + 3) t.f_size t.d_size ["kind", "one"] (sp_size K) := by
  refine T.d_size.F.okL sc_size (fun vs H Q E h => ?_) (fun cdv A outer s H vs Q E hr h => ?_)
  · obtain ⟨n, x, vx, rfl, hk, hx, fx, q⟩ := h
    rfl
  · obtain ⟨n, x, vx, rfl, hk, hx, fx, q⟩ := h
    refine ⟨_, (pss_one (ps_ret (pe_callB call_abs rfl T.b_abs bt_abs (pa_cons (pe_call (ok_signed_size T) hr rfl T.d_signed_size.m T.d_signed_size.F.kp T.d_signed_size.b .nil passL (pa_cons (pv 0) (pa_cons (pv 1) pa_nil (hs := seN)) (hs := seN))) pa_nil (hs := seC))))), ?_⟩
    exact ⟨_, rfl, _, rfl, _, _, _, rfl, hk, hx, fx, _, rfl, by rw [abs_if]; exact q⟩
theorem okb_size {k : Nat} (T : Txt K mg t) : FnOk P w K mg base (CXL P w) (k + 3) t.f_size t.d_size ["kind", "one"] (spb t.a_BadKind 1) := by
  refine T.d_size.F.okX sc_size (fun vs H Q E h => ?_) (fun cdv A outer s H vs Q E hr h => ?_)
  · obtain ⟨n, rest, rfl, hl, hk, q⟩ := h
    obtain ⟨a, rfl⟩ := rest1 hl
    rfl
  · obtain ⟨n, rest, rfl, hl, hk, q⟩ := h
    obtain ⟨a, rfl⟩ := rest1 hl
    refine ⟨_, (pss_one (ps_ret (pe_callB call_abs rfl T.b_abs bt_abs (pa_cons (pe_call (okb_signed_size T) hr rfl T.d_signed_size.m T.d_signed_size.F.kp T.d_signed_size.b .nil passX (pa_cons (pv 0) (pa_cons (pv 1) pa_nil (hs := seN)) (hs := seN))) pa_nil (hs := seC))))), ?_⟩
    exact ⟨_, rfl, _, rfl, n, [a], rfl, rfl, hk, q⟩
def sp_mirror (K : PySem.W.Frag) : Sp := fun vs H Q _ => ∃ x vx, vs = [vx] ∧ NumV K H vx x ∧ ∀ v H', Same H H' → NumV K H' v (TF.conj x) → Q v H'
theorem ok_mirror {k : Nat} (T : Txt K mg t) : FnOk P w K mg base (CXL P w) (k + 1) t.f_mirror t.d_mirror ["one"] (sp_mirror K) := by
  refine T.d_mirror.F.okL sc_mirror (fun vs H Q E h => ?_) (fun cdv A outer s H vs Q E hr h => ?_)
  · obtain ⟨x, vx, rfl, hx, q⟩ := h
    rfl
  · obtain ⟨x, vx, rfl, hx, q⟩ := h
    refine ⟨_, (pss_one (ps_ret (pe_pair (pa_cons (pe_n0 (pv 0)) (pa_cons (pe_un un_neg (pe_n1 (pv 0))) pa_nil (hs := seU)) (hs := seS))))), ?_⟩
    exact ⟨_, rfl, _, hx, _, rfl, _, hx, _, rfl, _, _, rfl, fun v H' s n => q v H' s n⟩
def sp_rounded : Sp := fun vs H Q _ => ∃ p d, vs = [.int p, .int d] ∧ d ≠ 0 ∧ d.natAbs < 2 ^ 8000 ∧ Q (.int (TF.rnd p d)) H
theorem ok_rounded {k : Nat} (T : Txt K mg t) : FnOk P w K mg base (CXL P w) (k + 1) t.f_rounded t.d_rounded ["part", "whole"] (sp_rounded) := by
  refine T.d_rounded.F.okL sc_rounded (fun vs H Q E h => ?_) (fun cdv A outer s H vs Q E hr h => ?_)
  · obtain ⟨n, d, rfl, h0, hd, q⟩ := h
    rfl
  · obtain ⟨n, d, rfl, h0, hd, q⟩ := h
    refine ⟨_, (pss_one (ps_ret (pe_op op_divF (pe_op op_add (pe_op op_mulF pe_int (pv 0)) (pv 1)) (pe_op op_mulF pe_int (pv 1))))), ?_⟩
    exact ⟨_, rfl, _, _, rfl, rfl, .of_left (by decide), _, rfl, _, _, rfl, rfl, _, rfl, _, _, rfl, rfl, .of_left (by decide), _, _, rfl, rfl, log_ok h0 hd, q⟩
def sp_nearest_quotient (K : PySem.W.Frag) : Sp := fun vs H Q _ => ∃ k x y vx vy, vs = [.int k, vx, vy] ∧ DivOk k x y ∧ NumV K H vx x ∧ NumV K H vy y ∧ ∀ v H', Same H H' → NumV K H' v (TF.quo k x y) → Q v H'
theorem ok_nearest_quotient {k : Nat} (T : Txt K mg t) : FnOk P w K mg base (CXL P w) (k + 3) t.f_nearest_quotient t.d_nearest_quotient ["kind", "one", "two"] (sp_nearest_quotient K) := by
  refine T.d_nearest_quotient.F.okL sc_nearest_quotient (fun vs H Q E h => ?_) (fun cdv A outer s H vs Q E hr h => ?_)
  · obtain ⟨n, x, y, vx, vy, rfl, d, hx, hy, q⟩ := h
    rfl
  · obtain ⟨n, x, y, vx, vy, rfl, d, hx, hy, q⟩ := h
    refine ⟨_, (pss_cons (ps_set (i := 3) sc_nearest_quotient.nd rfl (by first | exact Or.inl rfl | exact Or.inr rfl) (pe_call (ok_multiplied T) hr rfl T.d_multiplied.m T.d_multiplied.F.kp T.d_multiplied.b .nil passL (pa_cons (pv 0) (pa_cons (pv 1) (pa_cons (pe_call (ok_mirror T) hr rfl T.d_mirror.m T.d_mirror.F.kp T.d_mirror.b .nil passL (pa_cons (pv 2) pa_nil (hs := seN))) pa_nil (hs := seC)) (hs := seN)) (hs := seN))))
      (pss_cons (ps_set (i := 4) sc_nearest_quotient.nd rfl (by first | exact Or.inl rfl | exact Or.inr rfl) (pe_call (ok_signed_size T) hr rfl T.d_signed_size.m T.d_signed_size.F.kp T.d_signed_size.b .nil passL (pa_cons (pv 0) (pa_cons (pv 2) pa_nil (hs := seN)) (hs := seN))))
      (pss_one (ps_ret (pe_pair (pa_cons (pe_call (ok_rounded T) hr rfl T.d_rounded.m T.d_rounded.F.kp T.d_rounded.b .nil passL (pa_cons (pe_n0 (pv 3)) (pa_cons (pv 4) pa_nil (hs := seN)) (hs := seS))) (pa_cons (pe_call (ok_rounded T) hr rfl T.d_rounded.m T.d_rounded.F.kp T.d_rounded.b .nil passL (pa_cons (pe_n1 (pv 3)) (pa_cons (pv 4) pa_nil (hs := seN)) (hs := seS))) pa_nil (hs := seC)) (hs := seC))))))), ?_⟩
    refine ⟨_, rfl, _, rfl, _, rfl, y, _, rfl, hy, fun v1 H1 s1 n1 => ?_⟩
    refine ⟨_, x, _, _, _, rfl, d.hk, hx.same s1, n1, d.fx, d.fy.conj, fun v2 H2 s2 n2 => ?_⟩
    have hy := (hy.same s1).same s2
    refine ⟨_, rfl, _, rfl, _, y, _, rfl, d.hk, hy, d.fy, ?_⟩
    exact ⟨_, rfl, _, n2, _, rfl, _, _, rfl, d.nz, d.small, _, rfl, _, n2, _, rfl, _, _, rfl, d.nz, d.small, _, _, rfl, fun v H' s n => q v H' ((s1.trans s2).trans s) n⟩
def sp_without (K : PySem.W.Frag) : Sp := fun vs H Q _ => ∃ k x f y vx vf vy, vs = [.int k, vx, vf, vy] ∧ TF.Kind k ∧ NumV K H vx x ∧ NumV K H vf f ∧ NumV K H vy y ∧ FiN f ∧ FiN y ∧ ∀ v H', Same H H' → NumV K H' v (TF.sub x (TF.mul k f y)) → Q v H'
theorem ok_without {k : Nat} (T : Txt K mg t) : FnOk P w K mg base (CXL P w) (k + 3) t.f_without t.d_without ["kind", "one", "factor", "two"] (sp_without K) := by
  refine T.d_without.F.okL sc_without (fun vs H Q E h => ?_) (fun cdv A outer s H vs Q E hr h => ?_)
  · obtain ⟨n, x, f, y, vx, vf, vy, rfl, hk, hx, hf, hy, ff, fy, q⟩ := h
    rfl
  · obtain ⟨n, x, f, y, vx, vf, vy, rfl, hk, hx, hf, hy, ff, fy, q⟩ := h
    refine ⟨_, (pss_cons (ps_set (i := 4) sc_without.nd rfl (by first | exact Or.inl rfl | exact Or.inr rfl) (pe_call (ok_multiplied T) hr rfl T.d_multiplied.m T.d_multiplied.F.kp T.d_multiplied.b .nil passL (pa_cons (pv 0) (pa_cons (pv 2) (pa_cons (pv 3) pa_nil (hs := seN)) (hs := seN)) (hs := seN))))
      (pss_one (ps_ret (pe_call (ok_added T) hr rfl T.d_added.m T.d_added.F.kp T.d_added.b .nil passL (pa_cons (pv 0) (pa_cons (pv 1) (pa_cons (pe_pair (pa_cons (pe_un un_neg (pe_n0 (pv 4))) (pa_cons (pe_un un_neg (pe_n1 (pv 4))) pa_nil (hs := seU)) (hs := seU))) pa_nil (hs := seT)) (hs := seN)) (hs := seN)))))), ?_⟩
    refine ⟨_, rfl, _, rfl, _, rfl, _, f, y, _, _, rfl, hk, hf, hy, ff, fy, fun v1 H1 s1 n1 => ?_⟩
    refine ⟨_, rfl, _, rfl, _, rfl, _, n1, _, rfl, _, rfl, _, n1, _, rfl, _, _, rfl, fun v2 H2 s2 n2 => ?_⟩
    refine ⟨_, x, _, _, _, rfl, hk, (hx.same s1).same s2, n2, fun v3 H3 s3 n3 => q v3 H3 ((s1.trans s2).trans s3) ?_⟩
    rw [add_neg] at n3
    exact n3
def sp_split (K : PySem.W.Frag) (C : Addr) : Sp := fun vs H Q E => ∃ k x y vx vy, vs = [.int k, vx, vy] ∧ TF.Kind k ∧ Bd (2 ^ 1000) x ∧ Bd (2 ^ 1000) y ∧ NumV K H vx x ∧ NumV K H vy y ∧ (y = (0, 0) → E (.ref C) none H) ∧
  (y ≠ (0, 0) → ∀ p H' vq vr, Same H H' → H' p = some (.tup [vq, vr]) → NumV K H' vq (TF.quo k x y) → NumV K H' vr (TF.rest k x y) → Q (.ref p) H')
theorem ok_split {k : Nat} (T : Txt K mg t) : FnOk P w K mg base (CXL P w) (k + 4) t.f_split t.d_split ["kind", "one", "two"] (sp_split K t.a_ByNought) := by
  refine T.d_split.F.okX sc_split (fun vs H Q E h => ?_) (fun cdv A outer s H vs Q E hr h => ?_)
  · obtain ⟨n, x, y, vx, vy, rfl, hk, bx, by_, hx, hy, q1, q2⟩ := h
    rfl
  · obtain ⟨n, x, y, vx, vy, rfl, hk, bx, by_, hx, hy, q1, q2⟩ := h
    refine ⟨_, (pss_cons (ps_expr (pe_call (ok_check_kind T) hr rfl T.d_check_kind.m T.d_check_kind.F.kp T.d_check_kind.b .nil passL (pa_cons (pv 0) pa_nil (hs := seN))))
      (pss_cons (ps_if (pt_cmpR (op_eqN hr.units0) (pv 2) (pe_glob (v := .ref t.a_NOUGHT) rfl T.c_NOUGHT.1 rfl) nmEq) (pss_one (ps_raise T.x_ByNought rfl (pa_cons pe_str pa_nil))) pss_nil)
      (pss_cons (ps_set (i := 3) sc_split.nd rfl (by first | exact Or.inl rfl | exact Or.inr rfl) (pe_call (ok_nearest_quotient T) hr rfl T.d_nearest_quotient.m T.d_nearest_quotient.F.kp T.d_nearest_quotient.b .nil passL (pa_cons (pv 0) (pa_cons (pv 1) (pa_cons (pv 2) pa_nil (hs := seN)) (hs := seN)) (hs := seN))))
      (pss_one (ps_ret (pe_tupS (pa_cons (pv 3) (pa_cons (pe_call (ok_without T) hr rfl T.d_without.m T.d_without.F.kp T.d_without.b .nil passL (pa_cons (pv 0) (pa_cons (pv 1) (pa_cons (pv 3) (pa_cons (pv 2) pa_nil (hs := seN)) (hs := seN)) (hs := seN)) (hs := seN))) pa_nil (hs := seC)) (hs := seN)))))))), ?_⟩
    refine ⟨_, rfl, _, rfl, hk, ?_⟩
    refine ⟨_, rfl, y, (0, 0), hy, ⟨_, rfl, T.c_NOUGHT.2 _⟩, _, rfl, if2 (fun c => ?_) (fun c => ?_)⟩
    · exact ⟨sz1, q1 (eq_of_test c)⟩
    · have d : DivOk n x y := ⟨hk, bx, by_, ne_of_test c⟩
      refine ⟨_, rfl, _, rfl, _, rfl, _, x, y, _, _, rfl, d, hx, hy, fun v1 H1 s1 n1 => ?_⟩
      have hx := hx.same s1
      have hy := hy.same s1
      refine ⟨_, rfl, _, rfl, _, rfl, _, rfl, _, rfl, _, x, _, y, _, _, _, rfl, hk, hx, n1, hy, d.fq, d.fy, fun v2 H2 s2 n2 => ⟨sz2, fun p H3 s3 hp => ?_⟩⟩
      exact q2 d.ne p H3 v1 v2 ((s1.trans s2).trans s3) hp ((n1.same s2).same s3) (n2.same s3)
theorem okb_split {k : Nat} (T : Txt K mg t) : FnOk P w K mg base (CXL P w) (k + 2) t.f_split t.d_split ["kind", "one", "two"] (spb t.a_BadKind 2) := by
  refine T.d_split.F.okX sc_split (fun vs H Q E h => ?_) (fun cdv A outer s H vs Q E hr h => ?_)
  · obtain ⟨n, rest, rfl, hl, hk, q⟩ := h
    obtain ⟨a, b, rfl⟩ := rest2 hl
    rfl
  · obtain ⟨n, rest, rfl, hl, hk, q⟩ := h
    obtain ⟨a, b, rfl⟩ := rest2 hl
    refine ⟨_, (pss_cons (ps_expr (pe_call (okb_check_kind T) hr rfl T.d_check_kind.m T.d_check_kind.F.kp T.d_check_kind.b .nil passX (pa_cons (pv 0) pa_nil (hs := seN))))
      pss_never), ?_⟩
    exact ⟨_, rfl, n, [], rfl, rfl, hk, q⟩
def sp_divides (K : PySem.W.Frag) : Sp := fun vs H Q _ => ∃ k x y vx vy, vs = [.int k, vx, vy] ∧ TF.Kind k ∧ Bd (2 ^ 1000) x ∧ Bd (2 ^ 1000) y ∧ NumV K H vx x ∧ NumV K H vy y ∧ ∀ b H', Same H H' → (b = true ↔ TF.Goes k x y) → Q (.bl b) H'
theorem ok_divides {k : Nat} (T : Txt K mg t) : FnOk P w K mg base (CXL P w) (k + 5) t.f_divides t.d_divides ["kind", "one", "two"] (sp_divides K) := by
  refine T.d_divides.F.okL sc_divides (fun vs H Q E h => ?_) (fun cdv A outer s H vs Q E hr h => ?_)
  · obtain ⟨n, x, y, vx, vy, rfl, hk, bx, by_, hx, hy, q⟩ := h
    rfl
  · obtain ⟨n, x, y, vx, vy, rfl, hk, bx, by_, hx, hy, q⟩ := h
    refine ⟨_, (pss_cons (ps_expr (pe_call (ok_check_kind T) hr rfl T.d_check_kind.m T.d_check_kind.F.kp T.d_check_kind.b .nil passL (pa_cons (pv 0) pa_nil (hs := seN))))
      (pss_cons (ps_if (pt_cmpR (op_eqN hr.units0) (pv 1) (pe_glob (v := .ref t.a_NOUGHT) rfl T.c_NOUGHT.1 rfl) nmEq) (pss_one (ps_ret (pe_cmpR (op_eqN hr.units0) (pv 2) (pe_glob (v := .ref t.a_NOUGHT) rfl T.c_NOUGHT.1 rfl) nmEq))) pss_nil)
      (pss_one (ps_ret (pe_cmpR (op_eqN hr.units0) (pe_ix ix_tup (pe_call (ok_split T) hr rfl T.d_split.m T.d_split.F.kp T.d_split.b .nil passL (pa_cons (pv 0) (pa_cons (pv 2) (pa_cons (pv 1) pa_nil (hs := seN)) (hs := seN)) (hs := seN))) pe_int (fun _ _ => by with_unfolding_all rfl)) (pe_glob (v := .ref t.a_NOUGHT) rfl T.c_NOUGHT.1 rfl) nmEq))))), ?_⟩
    refine ⟨_, rfl, _, rfl, hk, ?_⟩
    refine ⟨_, rfl, x, (0, 0), hx, ⟨_, rfl, T.c_NOUGHT.2 _⟩, _, rfl, if2 (fun c => ?_) (fun c => ?_)⟩
    · refine ⟨_, rfl, y, (0, 0), hy, ⟨_, rfl, T.c_NOUGHT.2 _⟩, q _ _ (Same.refl _) ?_⟩
      rw [eq_of_test c, TF.goes_zero]
      exact test_iff
    · have hne := ne_of_test c
      refine ⟨_, rfl, _, rfl, _, rfl, _, y, x, _, _, rfl, hk, by_, bx, hy, hx, fun e => absurd e hne, fun _ p H1 vq vr s1 hp nq nr => ?_⟩
      refine ⟨_, _, _, _, rfl, rfl, SqT.of hp, rfl, _, (0, 0), nr, ⟨_, rfl, T.c_NOUGHT.2 _⟩, q _ _ s1 ?_⟩
      rw [← TF.rest_zero_iff hk hne]
      exact test_iff
theorem okb_divides {k : Nat} (T : Txt K mg t) : FnOk P w K mg base (CXL P w) (k + 2) t.f_divides t.d_divides ["kind", "one", "two"] (spb t.a_BadKind 2) := by
  refine T.d_divides.F.okX sc_divides (fun vs H Q E h => ?_) (fun cdv A outer s H vs Q E hr h => ?_)
  · obtain ⟨n, rest, rfl, hl, hk, q⟩ := h
    obtain ⟨a, b, rfl⟩ := rest2 hl
    rfl
  · obtain ⟨n, rest, rfl, hl, hk, q⟩ := h
    obtain ⟨a, b, rfl⟩ := rest2 hl
    refine ⟨_, (pss_cons (ps_expr (pe_call (okb_check_kind T) hr rfl T.d_check_kind.m T.d_check_kind.F.kp T.d_check_kind.b .nil passX (pa_cons (pv 0) pa_nil (hs := seN))))
      pss_never), ?_⟩
    exact ⟨_, rfl, n, [], rfl, rfl, hk, q⟩
def sp_alike (K : PySem.W.Frag) : Sp := fun vs H Q _ => ∃ k x y vx vy, vs = [.int k, vx, vy] ∧ TF.Kind k ∧ Bd (2 ^ 1000) x ∧ Bd (2 ^ 1000) y ∧ NumV K H vx x ∧ NumV K H vy y ∧ ∀ b H', Same H H' → (b = true ↔ TF.Goes k x y ∧ TF.Goes k y x) → Q (.bl b) H'
theorem ok_alike {k : Nat} (T : Txt K mg t) : FnOk P w K mg base (CXL P w) (k + 6) t.f_alike t.d_alike ["kind", "one", "two"] (sp_alike K) := by
  refine T.d_alike.F.okL sc_alike (fun vs H Q E h => ?_) (fun cdv A outer s H vs Q E hr h => ?_)
  · obtain ⟨n, x, y, vx, vy, rfl, hk, bx, by_, hx, hy, q⟩ := h
    rfl
  · obtain ⟨n, x, y, vx, vy, rfl, hk, bx, by_, hx, hy, q⟩ := h
    refine ⟨_, (pss_one (ps_ret (pe_and (pe_call (ok_divides T) hr rfl T.d_divides.m T.d_divides.F.kp T.d_divides.b .nil passL (pa_cons (pv 0) (pa_cons (pv 1) (pa_cons (pv 2) pa_nil (hs := seN)) (hs := seN)) (hs := seN))) (pe_one (pe_call (ok_divides T) hr rfl T.d_divides.m T.d_divides.F.kp T.d_divides.b .nil passL (pa_cons (pv 0) (pa_cons (pv 2) (pa_cons (pv 1) pa_nil (hs := seN)) (hs := seN)) (hs := seN))))))), ?_⟩
    refine ⟨_, rfl, _, rfl, _, rfl, _, x, y, _, _, rfl, hk, bx, by_, hx, hy, fun b1 H1 s1 e1 => ⟨_, rfl, if2 (fun c => ?_) (fun c => ?_)⟩⟩
    · refine ⟨_, rfl, _, rfl, _, rfl, _, y, x, _, _, rfl, hk, by_, bx, hy.same s1, hx.same s1, fun b2 H2 s2 e2 => q _ _ (s1.trans s2) ?_⟩
      rw [e2]
      exact ⟨fun z => ⟨e1.mp c, z⟩, fun z => z.2⟩
    · refine q _ _ s1 ⟨(fun z => by cases z), fun z => ?_⟩
      rw [← e1, c] at z
      exact absurd z.1 Bool.false_ne_true
theorem okb_alike {k : Nat} (T : Txt K mg t) : FnOk P w K mg base (CXL P w) (k + 3) t.f_alike t.d_alike ["kind", "one", "two"] (spb t.a_BadKind 2) := by
  refine T.d_alike.F.okX sc_alike (fun vs H Q E h => ?_) (fun cdv A outer s H vs Q E hr h => ?_)
  · obtain ⟨n, rest, rfl, hl, hk, q⟩ := h
    obtain ⟨a, b, rfl⟩ := rest2 hl
    rfl
  · obtain ⟨n, rest, rfl, hl, hk, q⟩ := h
    obtain ⟨a, b, rfl⟩ := rest2 hl
    refine ⟨_, (pss_one (ps_ret (pe_and (pe_call (okb_divides T) hr rfl T.d_divides.m T.d_divides.F.kp T.d_divides.b .nil passX (pa_cons (pv 0) (pa_cons (pv 1) (pa_cons (pv 2) pa_nil (hs := seN)) (hs := seN)) (hs := seN))) (pe_one (pe_call (okb_divides T) hr rfl T.d_divides.m T.d_divides.F.kp T.d_divides.b .nil passX (pa_cons (pv 0) (pa_cons (pv 2) (pa_cons (pv 1) pa_nil (hs := seN)) (hs := seN)) (hs := seN))))))), ?_⟩
    exact ⟨_, rfl, _, rfl, _, rfl, n, [a, b], rfl, rfl, hk, q⟩
def Row3 (K : PySem.W.Frag) (H : Hp) (p : Addr) (x0 x1 x2 : P2) : Prop := ∃ a0 a1 a2, SqT K H p [a0, a1, a2] ∧ NumV K H a0 x0 ∧ NumV K H a1 x1 ∧ NumV K H a2 x2
theorem Row3.same {K : PySem.W.Frag} {H H' : Hp} {p : Addr} {x0 x1 x2 : P2} (h : Row3 K H p x0 x1 x2) (s : Same H H') : Row3 K H' p x0 x1 x2 := by
  obtain ⟨a0, a1, a2, h1, h2, h3, h4⟩ := h
  exact ⟨a0, a1, a2, SqT.same s h1, h2.same s, h3.same s, h4.same s⟩
def WCommon (K : PySem.W.Frag) (k : Int) (x y : P2) (M : Nat) (vx vy : V) (H0 : Hp) (m : Nat) (σ : L2.St) (H : Hp) : Prop := ∃ t u0 u1 u2 l0 l1 l2 pu pl o5 o6, m = (TF.nm k l0).natAbs ∧ σ = [some (.int k), some vx, some vy, some (.ref pu), some (.ref pl), o5, o6] ∧ Same H0 H ∧
  Row3 K H pu u0 u1 u2 ∧ Row3 K H pl l0 l1 l2 ∧ EucG k x y M t u0 u1 u2 l0 l1 l2
def pick3 (a b c : P2) : Nat → P2
  | 0 => a
  | 1 => b
  | _ => c
def sp_common (K : PySem.W.Frag) : Sp := fun vs H Q _ => ∃ k x y vx vy, vs = [.int k, vx, vy] ∧ TF.Kind k ∧ Bd (2 ^ 46) x ∧ Bd (2 ^ 46) y ∧ NumV K H vx x ∧ NumV K H vy y ∧
  ∀ p H' g a b, Same H H' → Row3 K H' p g a b → g = TF.add (TF.mul k a x) (TF.mul k b y) → TF.Goes k g x → TF.Goes k g y → Bd (2 ^ 1000) g → FiN a → FiN b → Q (.ref p) H'
def sp_commonG (K : PySem.W.Frag) : Sp := fun vs H Q _ => ∃ k x y vx vy M, vs = [.int k, vx, vy] ∧ TF.Kind k ∧ M ≤ 2 ^ 46 ∧ Bd (2 ^ 500) x ∧ Bd M y ∧ NumV K H vx x ∧ NumV K H vy y ∧
  ∀ p H' g a b, Same H H' → Row3 K H' p g a b → g = TF.add (TF.mul k a x) (TF.mul k b y) → TF.Goes k g x → TF.Goes k g y → Bd (2 ^ 1000) g → FiN a → FiN b → (y ≠ (0, 0) → GcdB k M y g) → Q (.ref p) H'
def scC : Scope := match (defBody s_common).getD 3 (.Pass ⟨0, 0, 0, 0⟩) with
  | .While _ b _ _ => match b.getD 1 (.Pass ⟨0, 0, 0, 0⟩) with
    | .Assign _ (.Call _ [.ListComp _ _ sc _] _ _) _ => sc
    | _ => defScope s_common
  | _ => defScope s_common
theorem ne_test {m n : P2} (h : (if true = true then !decide (m = n) else decide (m = n)) = true) : m ≠ n := by simpa using h
theorem ne_test' {m n : P2} (h : (if true = true then !decide (m = n) else decide (m = n)) = false) : m = n := by simpa using h
theorem comp_common {f : Addr} {cdv : Value} {A : Around} {outer : List Env} {s : Shared} {H : Hp} {E : XK} : CompOk (cxOf (CXL P w) P w K mg base ["kind", "one", "two", "upper", "lower", "quotient", "rest"] "common" (defScope s_common) f cdv A outer s H E).nox scC
        [("upper", s.heap.objs.size + 1 + 1), ("quotient", s.heap.objs.size + 1 + 1 + 1 + 1), ("lower", s.heap.objs.size + 1 + 1 + 1), ("kind", s.heap.objs.size + 1)] "k" ["k", "kind", "upper", "lower", "quotient"] [0, 3, 4, 5] where
  clos := by rfl
  sub := fun n c h => by
    have z := PySem.mem_of_lookup h
    simp only [List.mem_cons, Prod.mk.injEq, List.not_mem_nil, or_false] at z
    rcases z with ⟨rfl, rfl⟩ | ⟨rfl, rfl⟩ | ⟨rfl, rfl⟩ | ⟨rfl, rfl⟩ <;> rfl
  ncell := by decide +kernel
  kind := rfl
  names := by decide +kernel
  loc := by decide +kernel
  has := fun y h => by
    have key : ∀ kd : NameKind, (kd = .cell ∨ kd = .free) → (y, kd) ∈ ([(".0", .local), ("k", .local), ("without", .globalImplicit), ("kind", .cell), ("lower", .cell), ("quotient", .cell), ("upper", .cell)] : List (Str × NameKind)) → ∃ c, List.lookup y ([("upper", s.heap.objs.size + 1 + 1), ("quotient", s.heap.objs.size + 1 + 1 + 1 + 1), ("lower", s.heap.objs.size + 1 + 1 + 1), ("kind", s.heap.objs.size + 1)] : List (Str × Addr)) = some c := by
      intro kd hkd z
      simp only [List.mem_cons, Prod.mk.injEq, List.not_mem_nil, or_false] at z
      rcases z with ⟨rfl, rfl⟩ | ⟨rfl, rfl⟩ | ⟨rfl, rfl⟩ | ⟨rfl, rfl⟩ | ⟨rfl, rfl⟩ | ⟨rfl, rfl⟩ | ⟨rfl, rfl⟩
      · rcases hkd with z | z <;> cases z
      · rcases hkd with z | z <;> cases z
      · rcases hkd with z | z <;> cases z
      · exact ⟨_, rfl⟩
      · exact ⟨_, rfl⟩
      · exact ⟨_, rfl⟩
      · exact ⟨_, rfl⟩
    rcases h with h | h
    · exact key _ (.inl rfl) (PySem.mem_of_lookup h)
    · exact key _ (.inr rfl) (PySem.mem_of_lookup h)
  nd := by decide +kernel
  head := rfl
  len := rfl
  slot := fun j i y h1 h2 => by
    match j, h1, h2 with
    | 0, h1, h2 => cases h1; cases h2; exact ⟨rfl, rfl, rfl⟩
    | 1, h1, h2 => cases h1; cases h2; exact ⟨rfl, rfl, rfl⟩
    | 2, h1, h2 => cases h1; cases h2; exact ⟨rfl, rfl, rfl⟩
    | 3, h1, h2 => cases h1; cases h2; exact ⟨rfl, rfl, rfl⟩
    | j + 4, h1, h2 => exact absurd h1 (by simp)
theorem ok_commonG {k : Nat} (T : Txt K mg t) : FnOk P w K mg base (CXL P w) (k + 4) t.f_common t.d_common ["kind", "one", "two"] (sp_commonG K) := by
  refine T.d_common.F.okL sc_common (fun vs H Q E h => ?_) (fun cdv A outer s H vs Q E hr h => ?_)
  · obtain ⟨n, x, y, vx, vy, M, rfl, hk, hM, bx, by_, hx, hy, q⟩ := h
    rfl
  · obtain ⟨n, x, y, vx, vy, M, rfl, hk, hM, bx, by_, hx, hy, q⟩ := h
    have okC : CompOk (cxOf (CXL P w) P w K mg base ["kind", "one", "two", "upper", "lower", "quotient", "rest"] "common" (defScope s_common) t.f_common cdv A outer s H E).nox scC
        [("upper", s.heap.objs.size + 1 + 1), ("quotient", s.heap.objs.size + 1 + 1 + 1 + 1), ("lower", s.heap.objs.size + 1 + 1 + 1), ("kind", s.heap.objs.size + 1)] "k" ["k", "kind", "upper", "lower", "quotient"] [0, 3, 4, 5] := comp_common
    refine ⟨_, (pss_cons (ps_expr (pe_call (ok_check_kind T) hr rfl T.d_check_kind.m T.d_check_kind.F.kp T.d_check_kind.b .nil passL (pa_cons (pv 0) pa_nil (hs := seN))))
      (pss_cons (ps_set (i := 3) sc_common.nd rfl (by first | exact Or.inl rfl | exact Or.inr rfl) (pe_tupS (pa_cons (pv 1) (pa_cons (pe_glob (v := .ref t.a_ONE) rfl T.c_ONE.1 rfl) (pa_cons (pe_glob (v := .ref t.a_NOUGHT) rfl T.c_NOUGHT.1 rfl) pa_nil (hs := seN)) (hs := seN)) (hs := seN))))
      (pss_cons (ps_set (i := 4) sc_common.nd rfl (by first | exact Or.inl rfl | exact Or.inr rfl) (pe_tupS (pa_cons (pv 2) (pa_cons (pe_glob (v := .ref t.a_NOUGHT) rfl T.c_NOUGHT.1 rfl) (pa_cons (pe_glob (v := .ref t.a_ONE) rfl T.c_ONE.1 rfl) pa_nil (hs := seN)) (hs := seN)) (hs := seN))))
      (pss_cons (ps_while PassesOwn.never (pt_cmpR (op_neN hr.units0) (pe_ix ix_tup (pv 4) pe_int (fun _ _ => by with_unfolding_all rfl)) (pe_glob (v := .ref t.a_NOUGHT) rfl T.c_NOUGHT.1 rfl) nmNotEq) (pss_cons (ps_set (i := 5) sc_common.nd rfl (by first | exact Or.inl rfl | exact Or.inr rfl) (pe_call (ok_nearest_quotient T) hr rfl T.d_nearest_quotient.m T.d_nearest_quotient.F.kp T.d_nearest_quotient.b .nil passL (pa_cons (pv 0) (pa_cons (pe_ix ix_tup (pv 3) pe_int (fun _ _ => by with_unfolding_all rfl)) (pa_cons (pe_ix ix_tup (pv 4) pe_int (fun _ _ => by with_unfolding_all rfl)) pa_nil (hs := seS)) (hs := seS)) (hs := seN))))
      (pss_cons (ps_set (i := 6) sc_common.nd rfl (by first | exact Or.inl rfl | exact Or.inr rfl) (pe_callTy call_tuple_of rfl T.b_tuple bt_tuple (pa_cons (pe_lcr rfl T.b_range rfl rfl (pa_cons pe_int pa_nil (hs := seK)) okC (fun _ _ _ _ _ => (pe_call (ok_without T) hr rfl T.d_without.m T.d_without.F.kp T.d_without.b .nil passL (pa_cons (pv 1) (pa_cons (pe_ix (ix_tupK (K := K) rfl) (pv 2) (pv 0) (fun _ _ => by with_unfolding_all rfl)) (pa_cons (pv 4) (pa_cons (pe_ix (ix_tupK (K := K) rfl) (pv 3) (pv 0) (fun _ _ => by with_unfolding_all rfl)) pa_nil (hs := seS)) (hs := seN)) (hs := seS)) (hs := seN))))) pa_nil)))
      (pss_cons (ps_set (i := 3) sc_common.nd rfl (by first | exact Or.inl rfl | exact Or.inr rfl) (pv 4))
      (pss_one (ps_set (i := 4) sc_common.nd rfl (by first | exact Or.inl rfl | exact Or.inr rfl) (pv 6)))))))
      (pss_one (ps_ret (pv 3))))))), ?_⟩
    refine ⟨_, rfl, _, rfl, hk, ?_⟩
    refine ⟨_, rfl, sz3, fun pu H1 s1 hu => ?_⟩
    refine ⟨_, rfl, sz3, fun pl H2 s2 hl => ?_⟩
    have n0 : ∀ H, NumV K H (.ref t.a_NOUGHT) (0, 0) := fun H => ⟨_, rfl, T.c_NOUGHT.2 H⟩
    have n1 : ∀ H, NumV K H (.ref t.a_ONE) (1, 0) := fun H => ⟨_, rfl, T.c_ONE.2 H⟩
    have s12 := s1.trans s2
    refine ⟨WCommon K n x y M vx vy H2, ⟨_, 0, _, _, _, _, _, _, pu, pl, _, _, rfl, rfl, Same.refl _, ⟨_, _, _, SqT.same s2 (SqT.of hu), hx.same s12, n1 _, n0 _⟩, ⟨_, _, _, SqT.of hl, hy.same s12, n0 _, n1 _⟩, EucG.start hk hM bx by_⟩, ?_⟩
    rintro m σ H3 ⟨tt, u0, u1, u2, l0, l1, l2, pu, pl, o5, o6, rfl, rfl, s3, ru, rl, EE⟩
    obtain ⟨a0, a1, a2, hpu, na0, na1, na2⟩ := id ru
    obtain ⟨b0, b1, b2, hpl, nb0, nb1, nb2⟩ := id rl
    refine ⟨_, rfl, _, _, _, _, rfl, rfl, hpl, rfl, l0, (0, 0), nb0, n0 _, _, rfl, if2 (fun c => ?_) (fun c => ?_)⟩
    · obtain ⟨d, f1, f2, f0, E2⟩ := EE.step hk (ne_test c)
      refine ⟨fun σ' H' => ∃ m', m' < (TF.nm n l0).natAbs ∧ WCommon K n x y M vx vy H2 m' σ' H', fun σ' H' h => h, ?_⟩
      refine ⟨_, rfl, _, rfl, _, _, _, _, rfl, rfl, hpu, rfl, _, rfl, _, _, _, _, rfl, rfl, hpl, rfl, _, u0, l0, _, _, rfl, d, na0, nb0, fun vq H4 s4 nq => ?_⟩
      refine ⟨3, rfl, by decide, [.int n, .ref pu, .ref pl, vq], fun i xs Hc => xs.length = i ∧ ∀ (j : Nat) v, xs[j]? = some v → NumV K Hc v (pick3 (TF.rest n u0 l0) (TF.sub u1 (TF.mul n (TF.quo n u0 l0) l1)) (TF.sub u2 (TF.mul n (TF.quo n u0 l0) l2)) j), rfl, ?_, ?_, fun _ _ => ⟨rfl, fun j v z => by cases z⟩, ?_, ?_⟩
      · intro j i v h1 h2
        match j, h1, h2 with
        | 0, h1, h2 => cases h1; cases h2; rfl
        | 1, h1, h2 => cases h1; cases h2; rfl
        | 2, h1, h2 => cases h1; cases h2; rfl
        | 3, h1, h2 => cases h1; cases h2; rfl
        | j + 4, h1, h2 => exact absurd h1 (by simp)
      · rintro i xs Hc D ys zs hD ⟨e, hh⟩
        exact ⟨e, fun j v z => (hh j v z).updL hD⟩
      · rintro i xs Hc hi sc ⟨e, hh⟩
        have s4c := s4.trans sc
        have fq := d.fq
        obtain ⟨va, vb, ua, lb, ea, eb, nua, nlb, flb, er⟩ : ∃ va vb ua lb, atI [a0, a1, a2] (i : Int) = some va ∧ atI [b0, b1, b2] (i : Int) = some vb ∧ NumV K Hc va ua ∧ NumV K Hc vb lb ∧ FiN lb ∧
            pick3 (TF.rest n u0 l0) (TF.sub u1 (TF.mul n (TF.quo n u0 l0) l1)) (TF.sub u2 (TF.mul n (TF.quo n u0 l0) l2)) i = TF.sub ua (TF.mul n (TF.quo n u0 l0) lb) := by
          match i, hi with
          | 0, _ => exact ⟨a0, b0, u0, l0, rfl, rfl, na0.same s4c, nb0.same s4c, f0, rfl⟩
          | 1, _ => exact ⟨a1, b1, u1, l1, rfl, rfl, na1.same s4c, nb1.same s4c, f1, rfl⟩
          | 2, _ => exact ⟨a2, b2, u2, l2, rfl, rfl, na2.same s4c, nb2.same s4c, f2, rfl⟩
        refine ⟨_, rfl, _, rfl, _, rfl, _, _, _, _, rfl, rfl, SqT.same s4c hpu, ea, _, rfl, _, rfl, _, rfl, _, _, _, _, rfl, rfl, SqT.same s4c hpl, eb, _, ua, _, lb, _, _, _, rfl, hk, nua, nq.same sc, nlb, fq, flb, fun v H' s n => ⟨s, ?_, fun j v' z => ?_⟩⟩
        · rw [List.length_append, e]
          rfl
        · by_cases hj : j < xs.length
          · rw [List.getElem?_append_left hj] at z
            exact (hh j v' z).same s
          · rw [List.getElem?_append_right (by omega)] at z
            have hj2 : j - xs.length = 0 := by
              cases hz : j - xs.length with
              | zero => rfl
              | succ r => rw [hz] at z; cases z
            rw [hj2] at z
            cases z
            have ej : j = i := by omega
            subst ej
            rw [er]
            exact n
      · rintro pL xs H5 s5 _ hpL ⟨e3, hh⟩
        refine ⟨pL, xs, rfl, .inl ⟨SqL.of hpL, fun pt hpt => ?_⟩⟩
        have s6 : Same H5 (upd H5 pt (.tup xs)) := Same.up hpt
        have ht : SqT K (upd H5 pt (.tup xs)) pt xs := SqT.of upd_same
        generalize upd H5 pt (.tup xs) = H6 at s6 ht
        refine ⟨_, rfl, _, rfl, ?_⟩
        have s36 := (s4.trans s5).trans s6
        match xs, e3, hh, ht with
        | [r0, r1, r2], _, hh, ht =>
          exact ⟨_, TF.rest_lt hk u0 (ne_test c), tt + 1, l0, l1, l2, _, _, _, pl, pt, _, _, rfl, rfl, s3.trans s36, rl.same s36, ⟨r0, r1, r2, ht, (hh 0 r0 rfl).same s6, (hh 1 r1 rfl).same s6, (hh 2 r2 rfl).same s6⟩, E2⟩
    · have e := ne_test' c
      have gb := EE.gcdB e
      subst e
      have g := EE.dv u0 (TF.goes_refl n u0) (TF.goes_nought n u0)
      have fi : ∀ {a : P2}, Bd (2 ^ (792 * tt)) a → FiN a := fun ha => ha.fi (n := 792 * tt + 1) (Nat.pow_lt_pow_right (by decide) (by omega)) (by have := EE.ht; omega)
      exact ⟨_, rfl, q pu H3 u0 u1 u2 ((s1.trans s2).trans s3) ru EE.eu g.1 g.2 (EE.bu.mono (Nat.pow_le_pow_right (by decide) (by decide))) (fi EE.c1) (fi EE.c2) gb⟩
theorem ok_common {k : Nat} (T : Txt K mg t) : FnOk P w K mg base (CXL P w) (k + 4) t.f_common t.d_common ["kind", "one", "two"] (sp_common K) :=
  (ok_commonG T).via (ok_commonG T) fun vs H Q E ⟨n, x, y, vx, vy, e, hk, bx, by_, hx, hy, q⟩ => .inl ⟨n, x, y, vx, vy, 2 ^ 46, e, hk, Nat.le_refl _, bx.mono (Nat.pow_le_pow_right (by decide) (by decide)), by_, hx, hy, fun p H' g a b s r e g1 g2 b1 fa fb _ => q p H' g a b s r e g1 g2 b1 fa fb⟩
theorem okb_common {k : Nat} (T : Txt K mg t) : FnOk P w K mg base (CXL P w) (k + 2) t.f_common t.d_common ["kind", "one", "two"] (spb t.a_BadKind 2) := by
  refine T.d_common.F.okX sc_common (fun vs H Q E h => ?_) (fun cdv A outer s H vs Q E hr h => ?_)
  · obtain ⟨n, rest, rfl, hl, hk, q⟩ := h
    obtain ⟨a, b, rfl⟩ := rest2 hl
    rfl
  · obtain ⟨n, rest, rfl, hl, hk, q⟩ := h
    obtain ⟨a, b, rfl⟩ := rest2 hl
    refine ⟨_, (pss_cons (ps_expr (pe_call (okb_check_kind T) hr rfl T.d_check_kind.m T.d_check_kind.F.kp T.d_check_kind.b .nil passX (pa_cons (pv 0) pa_nil (hs := seN))))
      pss_never), ?_⟩
    exact ⟨_, rfl, n, [], rfl, rfl, hk, q⟩
def sp_is_unit (K : PySem.W.Frag) : Sp := fun vs H Q _ => ∃ k x vx, vs = [.int k, vx] ∧ TF.Kind k ∧ NumV K H vx x ∧ FiN x ∧ ∀ b H', Same H H' → (b = true ↔ TF.Unit k x) → Q (.bl b) H'
theorem ok_is_unit {k : Nat} (T : Txt K mg t) : FnOk P w K mg base (CXL P w) (k + 4) t.f_is_unit t.d_is_unit ["kind", "one"] (sp_is_unit K) := by
  refine T.d_is_unit.F.okL sc_is_unit (fun vs H Q E h => ?_) (fun cdv A outer s H vs Q E hr h => ?_)
  · obtain ⟨n, x, vx, rfl, hk, hx, fx, q⟩ := h
    rfl
  · obtain ⟨n, x, vx, rfl, hk, hx, fx, q⟩ := h
    refine ⟨_, (pss_one (ps_ret (pe_cmpR op_eq (pe_call (ok_size T) hr rfl T.d_size.m T.d_size.F.kp T.d_size.b .nil passL (pa_cons (pv 0) (pa_cons (pv 1) pa_nil (hs := seN)) (hs := seN))) pe_int nmEq))), ?_⟩
    refine ⟨_, rfl, _, rfl, _, _, _, rfl, hk, hx, fx, rfl, q _ _ (Same.refl _) ?_⟩
    simp [TF.Unit]
    omega
theorem okb_is_unit {k : Nat} (T : Txt K mg t) : FnOk P w K mg base (CXL P w) (k + 4) t.f_is_unit t.d_is_unit ["kind", "one"] (spb t.a_BadKind 1) := by
  refine T.d_is_unit.F.okX sc_is_unit (fun vs H Q E h => ?_) (fun cdv A outer s H vs Q E hr h => ?_)
  · obtain ⟨n, rest, rfl, hl, hk, q⟩ := h
    obtain ⟨a, rfl⟩ := rest1 hl
    rfl
  · obtain ⟨n, rest, rfl, hl, hk, q⟩ := h
    obtain ⟨a, rfl⟩ := rest1 hl
    refine ⟨_, (pss_one (ps_ret (pe_cmpR op_eq (pe_call (okb_size T) hr rfl T.d_size.m T.d_size.F.kp T.d_size.b .nil passX (pa_cons (pv 0) (pa_cons (pv 1) pa_nil (hs := seN)) (hs := seN))) pe_int nmEq))), ?_⟩
    exact ⟨_, rfl, _, rfl, n, [a], rfl, rfl, hk, q⟩
def sp_check_unit (K : PySem.W.Frag) (C : Addr) : Sp := fun vs H Q E => ∃ k x vx, vs = [.int k, vx] ∧ TF.Kind k ∧ NumV K H vx x ∧ FiN x ∧ (¬ TF.Unit k x → ∀ H', Same H H' → E (.ref C) none H') ∧ (TF.Unit k x → ∀ H', Same H H' → Q .non H')
theorem ok_check_unit {k : Nat} (T : Txt K mg t) : FnOk P w K mg base (CXL P w) (k + 5) t.f_check_unit t.d_check_unit ["kind", "one"] (sp_check_unit K t.a_NoUnit) := by
  refine T.d_check_unit.F.okX sc_check_unit (fun vs H Q E h => ?_) (fun cdv A outer s H vs Q E hr h => ?_)
  · obtain ⟨n, x, vx, rfl, hk, hx, fx, q1, q2⟩ := h
    rfl
  · obtain ⟨n, x, vx, rfl, hk, hx, fx, q1, q2⟩ := h
    refine ⟨_, (pss_one (ps_if (pt_not (pt_val (pe_call (ok_is_unit T) hr rfl T.d_is_unit.m T.d_is_unit.F.kp T.d_is_unit.b .nil passL (pa_cons (pv 0) (pa_cons (pv 1) pa_nil (hs := seN)) (hs := seN))))) (pss_one (ps_raise T.x_NoUnit rfl (pa_cons pe_str pa_nil))) pss_nil)), ?_⟩
    refine ⟨_, rfl, _, rfl, _, _, _, rfl, hk, hx, fx, fun b H1 s1 eb => ⟨_, rfl, if2 (fun c => ?_) (fun c => ?_)⟩⟩
    · refine ⟨sz1, q1 (fun z => ?_) H1 s1⟩
      rw [eb.mpr z] at c
      cases c
    · refine q2 (eb.mp ?_) H1 s1
      cases b with
      | true => rfl
      | false => cases c
theorem okb_check_unit {k : Nat} (T : Txt K mg t) : FnOk P w K mg base (CXL P w) (k + 5) t.f_check_unit t.d_check_unit ["kind", "one"] (spb t.a_BadKind 1) := by
  refine T.d_check_unit.F.okX sc_check_unit (fun vs H Q E h => ?_) (fun cdv A outer s H vs Q E hr h => ?_)
  · obtain ⟨n, rest, rfl, hl, hk, q⟩ := h
    obtain ⟨a, rfl⟩ := rest1 hl
    rfl
  · obtain ⟨n, rest, rfl, hl, hk, q⟩ := h
    obtain ⟨a, rfl⟩ := rest1 hl
    refine ⟨_, (pss_one (ps_if (pt_not (pt_val (pe_call (okb_is_unit T) hr rfl T.d_is_unit.m T.d_is_unit.F.kp T.d_is_unit.b .nil passX (pa_cons (pv 0) (pa_cons (pv 1) pa_nil (hs := seN)) (hs := seN))))) (pss_one (ps_raise T.x_NoUnit rfl (pa_cons pe_str pa_nil))) pss_nil)), ?_⟩
    exact ⟨_, rfl, _, rfl, n, [a], rfl, rfl, hk, q⟩
def sp_times_whole (K : PySem.W.Frag) : Sp := fun vs H Q _ => ∃ n x vx, vs = [.int n, vx] ∧ NumV K H vx x ∧ Fi n ∧ FiN x ∧ ∀ v H', Same H H' → NumV K H' v (n * x.1, n * x.2) → Q v H'
theorem ok_times_whole {k : Nat} (T : Txt K mg t) : FnOk P w K mg base (CXL P w) (k + 1) t.f_times_whole t.d_times_whole ["whole", "one"] (sp_times_whole K) := by
  refine T.d_times_whole.F.okL sc_times_whole (fun vs H Q E h => ?_) (fun cdv A outer s H vs Q E hr h => ?_)
  · obtain ⟨n, x, vx, rfl, hx, fn, fx, q⟩ := h
    rfl
  · obtain ⟨n, x, vx, rfl, hx, fn, fx, q⟩ := h
    refine ⟨_, (pss_one (ps_ret (pe_pair (pa_cons (pe_op op_mulF (pv 0) (pe_n0 (pv 1))) (pa_cons (pe_op op_mulF (pv 0) (pe_n1 (pv 1))) pa_nil (hs := seB)) (hs := seB))))), ?_⟩
    exact ⟨_, rfl, _, rfl, _, hx, _, _, rfl, rfl, fn.mulOk fx.1, _, rfl, _, rfl, _, hx, _, _, rfl, rfl, fn.mulOk fx.2, _, _, rfl, fun v H' s n => q v H' s n⟩
def sp_turned (K : PySem.W.Frag) (C : Addr) : Sp := fun vs H Q E => ∃ k x vx, vs = [.int k, vx] ∧ TF.Kind k ∧ NumV K H vx x ∧ FiN x ∧ (¬ TF.Unit k x → ∀ H', Same H H' → E (.ref C) none H') ∧
  (TF.Unit k x → ∀ v y H', Same H H' → NumV K H' v y → TF.mul k y x = (1, 0) → Q v H')
theorem ok_turned {k : Nat} (T : Txt K mg t) : FnOk P w K mg base (CXL P w) (k + 6) t.f_turned t.d_turned ["kind", "one"] (sp_turned K t.a_NoUnit) := by
  refine T.d_turned.F.okX sc_turned (fun vs H Q E h => ?_) (fun cdv A outer s H vs Q E hr h => ?_)
  · obtain ⟨n, x, vx, rfl, hk, hx, fx, q1, q2⟩ := h
    rfl
  · obtain ⟨n, x, vx, rfl, hk, hx, fx, q1, q2⟩ := h
    refine ⟨_, (pss_cons (ps_expr (pe_call (ok_check_unit T) hr rfl T.d_check_unit.m T.d_check_unit.F.kp T.d_check_unit.b .nil passX (pa_cons (pv 0) (pa_cons (pv 1) pa_nil (hs := seN)) (hs := seN))))
      (pss_one (ps_ret (pe_call (ok_times_whole T) hr rfl T.d_times_whole.m T.d_times_whole.F.kp T.d_times_whole.b .nil passL (pa_cons (pe_call (ok_signed_size T) hr rfl T.d_signed_size.m T.d_signed_size.F.kp T.d_signed_size.b .nil passL (pa_cons (pv 0) (pa_cons (pv 1) pa_nil (hs := seN)) (hs := seN))) (pa_cons (pe_call (ok_mirror T) hr rfl T.d_mirror.m T.d_mirror.F.kp T.d_mirror.b .nil passL (pa_cons (pv 1) pa_nil (hs := seN))) pa_nil (hs := seC)) (hs := seC)))))), ?_⟩
    refine ⟨_, rfl, _, rfl, _, _, _, rfl, hk, hx, fx, q1, fun hu H1 s1 => ?_⟩
    have hx1 := hx.same s1
    refine ⟨_, rfl, _, rfl, _, _, _, rfl, hk, hx1, fx, _, rfl, _, _, rfl, hx1, fun v2 H2 s2 n2 => ?_⟩
    refine ⟨_, _, _, rfl, n2, unit_fi hu, fx.conj, fun v3 H3 s3 n3 => ?_⟩
    exact q2 hu v3 _ H3 ((s1.trans s2).trans s3) n3 (turn_one hu)
theorem okb_turned {k : Nat} (T : Txt K mg t) : FnOk P w K mg base (CXL P w) (k + 6) t.f_turned t.d_turned ["kind", "one"] (spb t.a_BadKind 1) := by
  refine T.d_turned.F.okX sc_turned (fun vs H Q E h => ?_) (fun cdv A outer s H vs Q E hr h => ?_)
  · obtain ⟨n, rest, rfl, hl, hk, q⟩ := h
    obtain ⟨a, rfl⟩ := rest1 hl
    rfl
  · obtain ⟨n, rest, rfl, hl, hk, q⟩ := h
    obtain ⟨a, rfl⟩ := rest1 hl
    refine ⟨_, (pss_cons (ps_expr (pe_call (okb_check_unit T) hr rfl T.d_check_unit.m T.d_check_unit.F.kp T.d_check_unit.b .nil passX (pa_cons (pv 0) (pa_cons (pv 1) pa_nil (hs := seN)) (hs := seN))))
      pss_never), ?_⟩
    exact ⟨_, rfl, _, rfl, n, [a], rfl, rfl, hk, q⟩
def sp_taken (K : PySem.W.Frag) : Sp := fun vs H Q _ => ∃ k b vb i, vs = [.int k, vb, .int i] ∧ TF.Kind k ∧ Bd 2 b ∧ NumV K H vb b ∧ 0 ≤ i ∧ i ≤ 1000 ∧ ∀ v H', Same H H' → NumV K H' v (TF.pw k b i.toNat) → Q v H'
def WTaken (K : PySem.W.Frag) (k : Int) (b : P2) (vb : V) (n : Nat) (i : Int) (H0 : Hp) (m : Nat) (σ : L2.St) (H : Hp) : Prop := ∃ r e vr vs, σ = [some (.int k), some vb, some (.int i), some vr, some vs, some (.int (m : Int))] ∧ Same H0 H ∧
  NumV K H vr (TF.pw k b r) ∧ NumV K H vs (TF.pw k b e) ∧ r + e * m = n ∧ e ≤ 2 * n + 1
theorem ok_taken {k : Nat} (T : Txt K mg t) : FnOk P w K mg base (CXL P w) (k + 3) t.f_taken t.d_taken ["kind", "one", "times"] (sp_taken K) := by
  refine T.d_taken.F.okL sc_taken (fun vs H Q E h => ?_) (fun cdv A outer s H vs Q E hr h => ?_)
  · obtain ⟨kk, b, vb, i, rfl, hk, bb, hb, h0, h1, q⟩ := h
    rfl
  · obtain ⟨kk, b, vb, i, rfl, hk, bb, hb, h0, h1, q⟩ := h
    refine ⟨_, (pss_cons (ps_set (i := 3) sc_taken.nd rfl (by first | exact Or.inl rfl | exact Or.inr rfl) (pe_glob (v := .ref t.a_ONE) rfl T.c_ONE.1 rfl))
      (pss_cons (ps_set (i := 4) sc_taken.nd rfl (by first | exact Or.inl rfl | exact Or.inr rfl) (pv 1))
      (pss_cons (ps_set (i := 5) sc_taken.nd rfl (by first | exact Or.inl rfl | exact Or.inr rfl) (pv 2))
      (pss_cons (ps_while PassesOwn.never (pt_cmpR op_gt (pv 5) pe_int nmGt) (pss_cons (ps_J (ps_if (pt_cmpR op_eq (pe_op op_mod (pv 5) pe_int) pe_int nmEq) (pss_one (ps_set (i := 3) sc_taken.nd rfl (by first | exact Or.inl rfl | exact Or.inr rfl) (pe_call (ok_multiplied T) hr rfl T.d_multiplied.m T.d_multiplied.F.kp T.d_multiplied.b .nil passL (pa_cons (pv 0) (pa_cons (pv 3) (pa_cons (pv 4) pa_nil (hs := seN)) (hs := seN)) (hs := seN))))) pss_nil))
      (pss_cons (ps_set (i := 4) sc_taken.nd rfl (by first | exact Or.inl rfl | exact Or.inr rfl) (pe_call (ok_multiplied T) hr rfl T.d_multiplied.m T.d_multiplied.F.kp T.d_multiplied.b .nil passL (pa_cons (pv 0) (pa_cons (pv 4) (pa_cons (pv 4) pa_nil (hs := seN)) (hs := seN)) (hs := seN))))
      (pss_one (ps_set (i := 5) sc_taken.nd rfl (by first | exact Or.inl rfl | exact Or.inr rfl) (pe_op op_fdiv (pv 5) pe_int))))))
      (pss_one (ps_ret (pv 3))))))), ?_⟩
    obtain ⟨n, hn⟩ : ∃ n : Nat, i = (n : Int) := ⟨i.toNat, by omega⟩
    have hin : i.toNat = n := by omega
    rw [hin] at q
    have n1 : ∀ H, NumV K H (.ref t.a_ONE) (1, 0) := fun H => ⟨_, rfl, T.c_ONE.2 H⟩
    refine ⟨_, rfl, _, rfl, WTaken K kk b vb n i H, ⟨n, 0, 1, _, _, by rw [hn]; rfl, Same.refl _, n1 _, by rw [TF.pw_succ]; show NumV K H vb (TF.mul kk (1, 0) b); rw [TF.one_mul]; exact hb, by omega, by omega⟩, ?_⟩
    rintro m σ H3 ⟨r, e, vr, vs, rfl, s3, nr, ns, hre, he⟩
    refine ⟨_, rfl, _, _, rfl, rfl, _, rfl, if2 (fun c => ?_) (fun c => ?_)⟩
    · have hm : 0 < m := by
        have := of_decide_eq_true c
        omega
      have hem : e ≤ n := by
        have := Nat.le_mul_of_pos_right e hm
        omega
      have hr : r ≤ n := by omega
      refine ⟨fun σ' H' => ∃ m', m' < m ∧ WTaken K kk b vb n i H m' σ' H', fun σ' H' h => h, ?_⟩
      refine ⟨fun σ H4 => ∃ vr', σ = [some (.int kk), some vb, some (.int i), some vr', some vs, some (.int (m : Int))] ∧ Same H3 H4 ∧ NumV K H4 vr' (TF.pw kk b (r + e * (m % 2))), ?_, ?_⟩
      rotate_left
      · refine ⟨_, rfl, _, _, rfl, rfl, (by show (0 : Int) < 2; decide), rfl, _, rfl, if2 (fun c => ?_) (fun c => ?_)⟩
        · have hm2 : m % 2 = 1 := by
            have : ((m : Int) % 2) = 1 := by simpa using c
            omega
          refine ⟨_, rfl, _, rfl, _, rfl, _, _, _, _, _, rfl, hk, nr, ns, pw_fi hk bb (by omega), pw_fi hk bb (by omega), fun v4 H4 s4 n4 => ⟨_, rfl, s4, ?_⟩⟩
          rw [hm2, Nat.mul_one, TF.pw_add]
          exact n4
        · have hm2 : m % 2 = 0 := by
            have : ¬ ((m : Int) % 2) = 1 := by simpa using c
            omega
          refine ⟨_, rfl, Same.refl _, ?_⟩
          rw [hm2, Nat.mul_zero, Nat.add_zero]
          exact nr
      rintro σ H4 ⟨vr', rfl, s4, nr4⟩
      have ns4 := ns.same s4
      refine ⟨_, rfl, _, rfl, _, rfl, _, _, _, _, _, rfl, hk, ns4, ns4, pw_fi hk bb (by omega), pw_fi hk bb (by omega), fun v5 H5 s5 n5 => ?_⟩
      refine ⟨_, rfl, _, _, rfl, rfl, ⟨by decide, by decide⟩, m / 2, by omega, r + e * (m % 2), e + e, _, _, ?_, (s3.trans s4).trans s5, nr4.same s5, by rw [TF.pw_add]; exact n5, ?_, by omega⟩
      · rfl
      · have e1 : e * m = e * (2 * (m / 2) + m % 2) := by rw [Nat.div_add_mod]
        rw [Nat.mul_add, ← Nat.mul_assoc, Nat.mul_comm e 2] at e1
        have e2 : (e + e) * (m / 2) = 2 * e * (m / 2) := by rw [Nat.two_mul]
        omega
    · have hm : m = 0 := by
        have := of_decide_eq_false c
        omega
      subst hm
      rw [Nat.mul_zero, Nat.add_zero] at hre
      subst hre
      exact ⟨_, rfl, q _ _ s3 nr⟩
def sp_unit_of (K : PySem.W.Frag) : Sp := fun vs H Q _ => ∃ k s t, vs = [.int k, .int s, .int t] ∧ TF.Kind k ∧ (s = 1 ∨ s = -1) ∧ t.natAbs ≤ 1000 ∧ ∀ v H', Same H H' → NumV K H' v (TF.unitOf k s t) → Q v H'
theorem ok_unit_of {k : Nat} (T : Txt K mg t) : FnOk P w K mg base (CXL P w) (k + 7) t.f_unit_of t.d_unit_of ["kind", "sign", "times"] (sp_unit_of K) := by
  refine T.d_unit_of.F.okL sc_unit_of (fun vs H Q E h => ?_) (fun cdv A outer s H vs Q E hr h => ?_)
  · obtain ⟨kk, sg, tm, rfl, hk, hs, ht, q⟩ := h
    rfl
  · obtain ⟨kk, sg, tm, rfl, hk, hs, ht, q⟩ := h
    refine ⟨_, (pss_cons (ps_expr (pe_call (ok_check_kind T) hr rfl T.d_check_kind.m T.d_check_kind.F.kp T.d_check_kind.b .nil passL (pa_cons (pv 0) pa_nil (hs := seN))))
      (pss_cons (ps_set (i := 3) sc_unit_of.nd rfl (by first | exact Or.inl rfl | exact Or.inr rfl) (pe_bas (pe_glob (v := .ref t.a_BASIC) rfl T.c_BASIC.1 rfl) (pv 0) (fun _ _ => by with_unfolding_all rfl)))
      (pss_cons (ps_set (i := 4) sc_unit_of.nd rfl (by first | exact Or.inl rfl | exact Or.inr rfl) (pe_J (pe_ifExp (pt_cmpR op_lt (pv 2) pe_int nmLt) (pe_call (ok_turned T) hr rfl T.d_turned.m T.d_turned.F.kp T.d_turned.b .nil passL (pa_cons (pv 0) (pa_cons (pv 3) pa_nil (hs := seN)) (hs := seN))) (pv 3))))
      (pss_one (ps_ret (pe_call (ok_times_whole T) hr rfl T.d_times_whole.m T.d_times_whole.F.kp T.d_times_whole.b .nil passL (pa_cons (pv 1) (pa_cons (pe_call (ok_taken T) hr rfl T.d_taken.m T.d_taken.F.kp T.d_taken.b .nil passL (pa_cons (pv 0) (pa_cons (pv 4) (pa_cons (pe_callB call_abs rfl T.b_abs bt_abs (pa_cons (pv 2) pa_nil (hs := seN))) pa_nil (hs := seC)) (hs := seN)) (hs := seN))) pa_nil (hs := seC)) (hs := seN)))))))), ?_⟩
    refine ⟨_, rfl, _, rfl, hk, ?_⟩
    refine ⟨_, rfl, _, _, rfl, rfl, T.c_BASIC.2, hk, fun vb nb => ?_⟩
    refine ⟨fun v H1 => Same H H1 ∧ NumV K H1 v (if tm < 0 then TF.bi kk else TF.bu kk), ?_, ?_⟩
    rotate_left
    · refine ⟨_, rfl, _, _, rfl, rfl, _, rfl, if2 (fun c => ?_) (fun c => ?_)⟩
      · refine ⟨_, rfl, _, rfl, _, _, _, rfl, hk, nb, bu_fi hk, fun z => absurd (TF.bu_unit hk) z, fun _ v y H1 s1 n1 ey => ⟨s1, ?_⟩⟩
        rw [if_pos (of_decide_eq_true c), ← bi_of hk ey]
        exact n1
      · refine ⟨_, rfl, Same.refl _, ?_⟩
        rw [if_neg (of_decide_eq_false c)]
        exact nb
    rintro vf H1 ⟨s1, nf⟩
    have bb : Bd 2 (if tm < 0 then TF.bi kk else TF.bu kk) := by
      split
      · exact bi_bd hk
      · exact bu_bd hk
    have ea := abs_if tm
    refine ⟨_, rfl, _, rfl, _, rfl, _, rfl, _, rfl, _, _, _, _, rfl, hk, bb, nf, by rw [ea]; omega, by rw [ea]; omega, fun v2 H2 s2 n2 => ?_⟩
    rw [ea, Int.toNat_natCast] at n2
    refine ⟨_, _, _, rfl, n2, fi_of (n := 1) (by rcases hs with rfl | rfl <;> decide) (by decide), pw_fi hk bb (by omega), fun v3 H3 s3 n3 => q v3 H3 ((s1.trans s2).trans s3) ?_⟩
    have e : ((sg * (TF.pw kk (if tm < 0 then TF.bi kk else TF.bu kk) tm.natAbs).1, sg * (TF.pw kk (if tm < 0 then TF.bi kk else TF.bu kk) tm.natAbs).2) : P2) = TF.unitOf kk sg tm := by
      unfold TF.unitOf
      generalize TF.pw kk _ _ = y
      apply TF.ext <;> simp [TF.mul]
    rw [← e]
    exact n3
theorem okb_unit_of {k : Nat} (T : Txt K mg t) : FnOk P w K mg base (CXL P w) (k + 4) t.f_unit_of t.d_unit_of ["kind", "sign", "times"] (spb t.a_BadKind 2) := by
  refine T.d_unit_of.F.okX sc_unit_of (fun vs H Q E h => ?_) (fun cdv A outer s H vs Q E hr h => ?_)
  · obtain ⟨n, rest, rfl, hl, hk, q⟩ := h
    obtain ⟨a, b, rfl⟩ := rest2 hl
    rfl
  · obtain ⟨n, rest, rfl, hl, hk, q⟩ := h
    obtain ⟨a, b, rfl⟩ := rest2 hl
    refine ⟨_, (pss_cons (ps_expr (pe_call (okb_check_kind T) hr rfl T.d_check_kind.m T.d_check_kind.F.kp T.d_check_kind.b .nil passX (pa_cons (pv 0) pa_nil (hs := seN))))
      pss_never), ?_⟩
    exact ⟨_, rfl, n, [], rfl, rfl, hk, q⟩
def sp_steps_to (K : PySem.W.Frag) : Sp := fun vs H Q _ => ∃ k x vx n, vs = [.int k, vx] ∧ TF.Kind k ∧ NumV K H vx x ∧ Bd (2 ^ 3000) x ∧ TF.Reach k x n ∧ ∀ H', Same H H' → Q (.int (n : Int)) H'
theorem ok_steps_to {k : Nat} (T : Txt K mg t) : FnOk P w K mg base (CXL P w) (k + 3) t.f_steps_to t.d_steps_to ["kind", "one"] (sp_steps_to K) := by
  refine T.d_steps_to.F.okL sc_steps_to (fun vs H Q E h => ?_) (fun cdv A outer s H vs Q E hr h => ?_)
  · obtain ⟨kk, x, vx, n, rfl, hk, hx, bx, R, q⟩ := h
    rfl
  · obtain ⟨kk, x, vx, n, rfl, hk, hx, bx, R, q⟩ := h
    refine ⟨_, (pss_cons (ps_set (i := 2) sc_steps_to.nd rfl (by first | exact Or.inl rfl | exact Or.inr rfl) pe_int)
      (pss_cons (ps_set (i := 3) sc_steps_to.nd rfl (by first | exact Or.inl rfl | exact Or.inr rfl) (pe_glob (v := .ref t.a_ONE) rfl T.c_ONE.1 rfl))
      (pss_cons (ps_while PassesOwn.never (pt_cmpR (op_neN hr.units0) (pv 3) (pv 1) nmNotEq) (pss_cons (ps_set (i := 3) sc_steps_to.nd rfl (by first | exact Or.inl rfl | exact Or.inr rfl) (pe_call (ok_multiplied T) hr rfl T.d_multiplied.m T.d_multiplied.F.kp T.d_multiplied.b .nil passL (pa_cons (pv 0) (pa_cons (pv 3) (pa_cons (pe_bas (pe_glob (v := .ref t.a_BASIC) rfl T.c_BASIC.1 rfl) (pv 0) (fun _ _ => by with_unfolding_all rfl)) pa_nil (hs := seS)) (hs := seN)) (hs := seN))))
      (pss_one (ps_set (i := 2) sc_steps_to.nd rfl (by first | exact Or.inl rfl | exact Or.inr rfl) (pe_op op_add (pv 2) pe_int)))))
      (pss_one (ps_ret (pv 2)))))), ?_⟩
    have n1 : ∀ H, NumV K H (.ref t.a_ONE) (1, 0) := fun H => ⟨_, rfl, T.c_ONE.2 H⟩
    refine ⟨fun m σ H3 => ∃ (i : Nat) (vu : V), m = n - i ∧ i ≤ n ∧ σ = [some (.int kk), some vx, some (.int (i : Int)), some vu] ∧ Same H H3 ∧ NumV K H3 vu (TF.pw kk (TF.bu kk) i), ⟨n, 0, _, rfl, Nat.zero_le _, rfl, Same.refl _, n1 _⟩, ?_⟩
    rintro m σ H3 ⟨i, vu, rfl, hi, rfl, s3, nu⟩
    refine ⟨_, rfl, _, rfl, _, _, nu, hx.same s3, _, rfl, if2 (fun c => ?_) (fun c => ?_)⟩
    · have hne := ne_t c
      have hlt : i < n := by
        rcases Nat.lt_or_eq_of_le hi with z | z
        · exact z
        · exact absurd (z ▸ R.at_) hne
      refine ⟨fun σ' H' => ∃ m', m' < n - i ∧ ∃ (i : Nat) (vu : V), m' = n - i ∧ i ≤ n ∧ σ' = [some (.int kk), some vx, some (.int (i : Int)), some vu] ∧ Same H H' ∧ NumV K H' vu (TF.pw kk (TF.bu kk) i), fun σ' H' h => h, ?_⟩
      refine ⟨_, rfl, _, rfl, _, rfl, _, _, rfl, rfl, T.c_BASIC.2, hk, fun vb nb => ?_⟩
      refine ⟨_, _, _, _, _, rfl, hk, nu, nb, reach_fi R bx hi, bu_fi hk, fun v4 H4 s4 n4 => ?_⟩
      exact ⟨_, rfl, _, _, rfl, rfl, n - (i + 1), by omega, i + 1, _, rfl, hlt, rfl, s3.trans s4, n4⟩
    · have he := ne_f c
      have hin : i = n := by
        rcases Nat.lt_or_eq_of_le hi with z | z
        · exact absurd he (R.first i z)
        · exact z
      subst hin
      exact ⟨_, rfl, q _ s3⟩
def sp_sign_of (K : PySem.W.Frag) : Sp := fun vs H Q _ => ∃ k x vx, vs = [.int k, vx] ∧ TF.Kind k ∧ NumV K H vx x ∧ FiN x ∧ Q (.int (if 0 < (if TF.nm k x = 1 then x.1 else x.2) then 1 else -1)) H
theorem ok_sign_of {k : Nat} (T : Txt K mg t) : FnOk P w K mg base (CXL P w) (k + 3) t.f_sign_of t.d_sign_of ["kind", "one"] (sp_sign_of K) := by
  refine T.d_sign_of.F.okL sc_sign_of (fun vs H Q E h => ?_) (fun cdv A outer s H vs Q E hr h => ?_)
  · obtain ⟨kk, x, vx, rfl, hk, hx, fx, q⟩ := h
    rfl
  · obtain ⟨kk, x, vx, rfl, hk, hx, fx, q⟩ := h
    refine ⟨_, (pss_cons (ps_set (i := 2) sc_sign_of.nd rfl (by first | exact Or.inl rfl | exact Or.inr rfl) (pe_J (pe_ifExp (pt_cmpR op_eq (pe_call (ok_signed_size T) hr rfl T.d_signed_size.m T.d_signed_size.F.kp T.d_signed_size.b .nil passL (pa_cons (pv 0) (pa_cons (pv 1) pa_nil (hs := seN)) (hs := seN))) pe_int nmEq) (pe_n0 (pv 1)) (pe_n1 (pv 1)))))
      (pss_one (ps_ret (pe_ifExp (pt_cmpR op_gt (pv 2) pe_int nmGt) pe_int (pe_un un_neg pe_int))))), ?_⟩
    refine ⟨fun v H1 => v = .int (if TF.nm kk x = 1 then x.1 else x.2) ∧ H1 = H, ?_, ?_⟩
    rotate_left
    · refine ⟨_, rfl, _, rfl, _, _, _, rfl, hk, hx, fx, rfl, _, rfl, if2 (fun c => ?_) (fun c => ?_)⟩
      · refine ⟨_, rfl, _, hx, ?_, rfl⟩
        rw [if_pos (by simpa using c)]
      · refine ⟨_, rfl, _, hx, ?_, rfl⟩
        rw [if_neg (by simpa using c)]
    rintro v H1 ⟨rfl, rfl⟩
    generalize (if TF.nm kk x = 1 then x.1 else x.2) = l at q ⊢
    refine ⟨_, rfl, _, _, rfl, rfl, _, rfl, if2 (fun c => ?_) (fun c => ?_)⟩
    · rw [if_pos (of_decide_eq_true c)] at q
      exact q
    · rw [if_neg (of_decide_eq_false c)] at q
      exact ⟨_, rfl, q⟩
def sp_told_unit (K : PySem.W.Frag) (C : Addr) : Sp := fun vs H Q E => ∃ k x vx, vs = [.int k, vx] ∧ TF.Kind k ∧ NumV K H vx x ∧ Bd (2 ^ 3000) x ∧ (¬ TF.Unit k x → ∀ H', Same H H' → E (.ref C) none H') ∧
  (TF.Unit k x → ∀ v H', Same H H' → Q v H')
theorem ok_told_unit {k : Nat} (T : Txt K mg t) : FnOk P w K mg base (CXL P w) (k + 6) t.f_told_unit t.d_told_unit ["kind", "one"] (sp_told_unit K t.a_NoUnit) := by
  refine T.d_told_unit.F.okX sc_told_unit (fun vs H Q E h => ?_) (fun cdv A outer s H vs Q E hr h => ?_)
  · obtain ⟨kk, x, vx, rfl, hk, hx, bx, q1, q2⟩ := h
    rfl
  · obtain ⟨kk, x, vx, rfl, hk, hx, bx, q1, q2⟩ := h
    have fx := bx.fi3
    refine ⟨_, (pss_cons (ps_expr (pe_call (ok_check_unit T) hr rfl T.d_check_unit.m T.d_check_unit.F.kp T.d_check_unit.b .nil passX (pa_cons (pv 0) (pa_cons (pv 1) pa_nil (hs := seN)) (hs := seN))))
      (pss_cons (ps_if (pt_cmpR op_lt (pv 0) pe_int nmLt) (pss_one (ps_ret (pe_pair (pa_cons pe_int (pa_cons (pe_call (ok_steps_to T) hr rfl T.d_steps_to.m T.d_steps_to.F.kp T.d_steps_to.b .nil passL (pa_cons (pv 0) (pa_cons (pv 1) pa_nil (hs := seN)) (hs := seN))) pa_nil (hs := seC)) (hs := seK))))) pss_nil)
      (pss_cons (ps_set (i := 2) sc_told_unit.nd rfl (by first | exact Or.inl rfl | exact Or.inr rfl) (pe_call (ok_steps_to T) hr rfl T.d_steps_to.m T.d_steps_to.F.kp T.d_steps_to.b .nil passL (pa_cons (pv 0) (pa_cons (pe_pair (pa_cons (pe_callB call_abs rfl T.b_abs bt_abs (pa_cons (pe_n0 (pv 1)) pa_nil (hs := seS))) (pa_cons (pe_callB call_abs rfl T.b_abs bt_abs (pa_cons (pe_n1 (pv 1)) pa_nil (hs := seS))) pa_nil (hs := seC)) (hs := seC))) pa_nil (hs := seT)) (hs := seN))))
      (pss_cons (ps_set (i := 3) sc_told_unit.nd rfl (by first | exact Or.inl rfl | exact Or.inr rfl) (pe_J (pe_ifExp (pt_cmpR op_lt (pe_op op_mulF (pe_n0 (pv 1)) (pe_n1 (pv 1))) pe_int nmLt) (pe_un un_neg (pv 2)) (pv 2))))
      (pss_one (ps_ret (pe_pair (pa_cons (pe_call (ok_sign_of T) hr rfl T.d_sign_of.m T.d_sign_of.F.kp T.d_sign_of.b .nil passL (pa_cons (pv 0) (pa_cons (pv 1) pa_nil (hs := seN)) (hs := seN))) (pa_cons (pv 3) pa_nil (hs := seN)) (hs := seC))))))))), ?_⟩
    refine ⟨_, rfl, _, rfl, _, _, _, rfl, hk, hx, fx, q1, fun hu H1 s1 => ?_⟩
    have hx1 := hx.same s1
    refine ⟨_, rfl, _, _, rfl, rfl, _, rfl, if2 (fun c => ?_) (fun c => ?_)⟩
    · obtain ⟨n, R, tt⟩ := reach_neg hk (of_decide_eq_true c) hu
      refine ⟨_, rfl, _, rfl, _, _, _, n, rfl, hk, hx1, bx, R, fun H2 s2 => ⟨_, _, rfl, fun v3 H3 s3 n3 => ?_⟩⟩
      exact q2 hu v3 H3 ((s1.trans s2).trans s3)
    · have hk2 : kk = 2 ∨ kk = 3 := by
        have := of_decide_eq_false c
        rcases hk with rfl | rfl | rfl | rfl
        · omega
        · omega
        · exact .inl rfl
        · exact .inr rfl
      obtain ⟨n, R⟩ := TF.reach_big hk2 hu
      refine ⟨_, rfl, _, rfl, _, hx1, _, rfl, _, rfl, _, hx1, _, rfl, _, _, rfl, fun v2 H2 s2 n2 => ?_⟩
      rw [abs_if, abs_if] at n2
      have ba : Bd (2 ^ 3000) (((x.1.natAbs : Nat) : Int), ((x.2.natAbs : Nat) : Int)) := ⟨by simpa using bx.1, by simpa using bx.2⟩
      refine ⟨_, _, _, n, rfl, hk, n2, ba, R, fun H3 s3 => ?_⟩
      have hx3 := (hx1.same s2).same s3
      refine ⟨fun v H4 => v = .int (if x.1 * x.2 < 0 then -(n : Int) else n) ∧ H4 = H3, ?_, ?_⟩
      rotate_left
      · refine ⟨_, rfl, _, hx3, _, rfl, _, hx3, _, _, rfl, rfl, fx.1.mulOk fx.2, _, _, rfl, rfl, _, rfl, if2 (fun c => ?_) (fun c => ?_)⟩
        · refine ⟨_, rfl, _, rfl, ?_, rfl⟩
          rw [if_pos (of_decide_eq_true c)]
        · refine ⟨_, rfl, ?_, rfl⟩
          rw [if_neg (of_decide_eq_false c)]
      rintro v H4 ⟨rfl, rfl⟩
      refine ⟨_, rfl, _, rfl, _, _, _, rfl, hk, hx3, fx, _, rfl, _, _, rfl, fun v5 H5 s5 n5 => ?_⟩
      exact q2 hu v5 H5 (((s1.trans s2).trans s3).trans s5)
theorem okb_told_unit {k : Nat} (T : Txt K mg t) : FnOk P w K mg base (CXL P w) (k + 6) t.f_told_unit t.d_told_unit ["kind", "one"] (spb t.a_BadKind 1) := by
  refine T.d_told_unit.F.okX sc_told_unit (fun vs H Q E h => ?_) (fun cdv A outer s H vs Q E hr h => ?_)
  · obtain ⟨n, rest, rfl, hl, hk, q⟩ := h
    obtain ⟨a, rfl⟩ := rest1 hl
    rfl
  · obtain ⟨n, rest, rfl, hl, hk, q⟩ := h
    obtain ⟨a, rfl⟩ := rest1 hl
    refine ⟨_, (pss_cons (ps_expr (pe_call (okb_check_unit T) hr rfl T.d_check_unit.m T.d_check_unit.F.kp T.d_check_unit.b .nil passX (pa_cons (pv 0) (pa_cons (pv 1) pa_nil (hs := seN)) (hs := seN))))
      pss_never), ?_⟩
    exact ⟨_, rfl, _, rfl, n, [a], rfl, rfl, hk, q⟩
def natV (n : Nat) : V := .int (n : Int)
def sp_primes_of : Sp := fun vs H Q _ => ∃ n : Nat, vs = [.int n] ∧ 0 < n ∧ n < 2 ^ 27 ∧ ∀ p (ps : List Nat) H', Same H H' → H p = none → H' p = some (.lst (ps.map natV)) → (∀ q ∈ ps, TF.PrimeN q ∧ q ∣ n) → (∀ q, TF.PrimeN q → q ∣ n → q ∈ ps) → Q (.ref p) H'
def WPr (n : Nat) (p : Addr) (H0 : Hp) (σ : L2.St) (H : Hp) (l f : Nat) (ps : List Nat) : Prop := σ = [some (.int (n : Int)), some (.ref p), some (.int (l : Int)), some (.int (f : Int))] ∧ Same H0 H ∧ H p = some (.lst (ps.map natV))
theorem div_nat (l f : Nat) : (l : Int).fdiv (f : Int) = ((l / f : Nat) : Int) := by
  rw [Int.fdiv_eq_ediv_of_nonneg _ (by omega)]
  rfl
theorem log_small {f : Nat} (h0 : 0 < f) (h : f < 2 ^ 28) : (f : Int) ≠ 0 ∧ (f : Int).natAbs.log2 < 9000 := by
  refine ⟨by omega, (Nat.log2_lt (by omega)).mpr ?_⟩
  rw [Int.natAbs_natCast]
  exact Nat.lt_trans h (Nat.pow_lt_pow_right (by decide) (by decide))
theorem fi_small {f : Nat} (h : f < 2 ^ 28) : Fi (f : Int) := fi_of (n := 28) (by rw [Int.natAbs_natCast]; exact h) (by decide)
theorem sq_few {f n : Nat} (h : f * f ≤ n) (hn : n < 2 ^ 27) : f < 16384 := by
  refine Nat.lt_of_not_le fun z => ?_
  have := Nat.mul_le_mul z z
  omega
theorem ok_primes_of {k : Nat} (T : Txt K mg t) : FnOk P w K mg base (CXL P w) (k + 1) t.f_primes_of t.d_primes_of ["whole"] (sp_primes_of) := by
  refine T.d_primes_of.F.okL sc_primes_of (fun vs H Q E h => ?_) (fun cdv A outer s H vs Q E hr h => ?_)
  · obtain ⟨n, rfl, h0, hn, q⟩ := h
    rfl
  · obtain ⟨n, rfl, h0, hn, q⟩ := h
    refine ⟨_, (pss_cons (ps_set (i := 1) sc_primes_of.nd rfl (by first | exact Or.inl rfl | exact Or.inr rfl) (pe_lstS pa_nil))
      (pss_cons (ps_set (i := 2) sc_primes_of.nd rfl (by first | exact Or.inl rfl | exact Or.inr rfl) (pv 0))
      (pss_cons (ps_set (i := 3) sc_primes_of.nd rfl (by first | exact Or.inl rfl | exact Or.inr rfl) pe_int)
      (pss_cons (ps_while PassesOwn.never (pt_cmpR op_le (pe_op op_mulF (pv 3) (pv 3)) (pv 2) nmLtE) (pss_cons (ps_J (ps_if (pt_cmpR op_eq (pe_op op_modN (pv 2) (pv 3)) pe_int nmEq) (pss_one (ps_expr (pe_bm PySem.F.plainAttrs_list PySem.F.slot_list_append PySem.F.type_list_append mt_append (pv 1) (pa_cons (pv 3) pa_nil (hs := seN))))) pss_nil))
      (pss_cons (ps_while PassesOwn.never (pt_cmpR op_eq (pe_op op_modN (pv 2) (pv 3)) pe_int nmEq) (pss_one (ps_set (i := 2) sc_primes_of.nd rfl (by first | exact Or.inl rfl | exact Or.inr rfl) (pe_op op_divF (pv 2) (pv 3)))))
      (pss_one (ps_set (i := 3) sc_primes_of.nd rfl (by first | exact Or.inl rfl | exact Or.inr rfl) (pe_op op_add (pv 3) pe_int))))))
      (pss_cons (ps_if (pt_cmpR op_gt (pv 2) pe_int nmGt) (pss_one (ps_expr (pe_bm PySem.F.plainAttrs_list PySem.F.slot_list_append PySem.F.type_list_append mt_append (pv 1) (pa_cons (pv 2) pa_nil (hs := seN))))) pss_nil)
      (pss_one (ps_ret (pv 1)))))))), ?_⟩
    refine ⟨sz0, fun p H1 s1 hpn hp1 => ?_⟩
    refine ⟨_, rfl, fun m σ H2 => ∃ l f ps, m = l + 2 - f ∧ WPr n p H σ H2 l f ps ∧ TF.PrOf n l f ps, ⟨_, n, 2, [], rfl, ⟨rfl, s1, hp1⟩, TF.PrOf.start h0⟩, ?_⟩
    rintro m σ H2 ⟨l, f, ps, rfl, ⟨rfl, s2, hp2⟩, PO⟩
    have hf2 := PO.f2
    have hff : f < 16385 := by
      have := sq_few PO.fw hn
      omega
    have ff : Fi (f : Int) := fi_small (by omega)
    refine ⟨_, rfl, _, rfl, _, _, rfl, rfl, ff.mulOk ff, _, rfl, _, _, rfl, rfl, _, rfl, if2 (fun c => ?_) (fun c => ?_)⟩
    · have c : (f : Int) * f ≤ l := of_decide_eq_true c
      have c' : f * f ≤ l := by rw [← Int.natCast_mul] at c; omega
      have hfl : f ≤ l := Nat.le_trans (Nat.le_mul_of_pos_left f (by omega)) c'
      refine ⟨fun σ' H' => ∃ m', m' < l + 2 - f ∧ ∃ l f ps, m' = l + 2 - f ∧ WPr n p H σ' H' l f ps ∧ TF.PrOf n l f ps, fun σ' H' h => h, ?_⟩
      refine ⟨fun σ' H' => ∃ ps, WPr n p H σ' H' l f ps ∧ TF.PrIn n l f ps, ?_, ?_⟩
      rotate_left
      · refine ⟨_, rfl, _, rfl, _, _, rfl, rfl, (by show (f : Int) ≠ 0; omega), rfl, _, rfl, if2 (fun c2 => ?_) (fun c2 => ?_)⟩
        · have c2 := V.int.inj (of_decide_eq_true c2)
          rw [TF.fmod_zero_iff, emod_dvd] at c2
          refine ⟨_, rfl, .inl ⟨rfl, _, SqL.of hp2⟩, _, rfl, p, _, _, rfl, rfl, hp2, ?_, ?_⟩
          · rw [List.length_map]
            have := PO.len
            have hsl : sizeLine = 16777216 := sizeLine_eq
            omega
          · refine ⟨ps ++ [f], ⟨rfl, Same.updN s2 hpn, ?_⟩, PO.inY h0 c' c2⟩
            rw [upd_same, List.map_append]
            rfl
        · have c2 : ¬ f ∣ l := fun z => of_decide_eq_false c2 (congrArg V.int (by rw [TF.fmod_zero_iff, emod_dvd]; exact z))
          exact ⟨ps, ⟨rfl, s2, hp2⟩, PO.inN h0 c' c2⟩
      rintro σ' H3 ⟨ps', ⟨rfl, s3, hp3⟩, PI⟩
      refine ⟨fun m σ' H' => m ≤ l ∧ WPr n p H σ' H' m f ps' ∧ TF.PrIn n m f ps', ⟨l, Nat.le_refl _, ⟨rfl, s3, hp3⟩, PI⟩, ?_⟩
      rintro l' σ' H4 ⟨hl', ⟨rfl, s4, hp4⟩, PI⟩
      refine ⟨_, rfl, _, rfl, _, _, rfl, rfl, (by show (f : Int) ≠ 0; omega), rfl, _, rfl, if2 (fun c2 => ?_) (fun c2 => ?_)⟩
      · have c2 := V.int.inj (of_decide_eq_true c2)
        rw [TF.fmod_zero_iff, emod_dvd] at c2
        obtain ⟨PI', hlt⟩ := PI.step c2
        refine ⟨fun σ' H' => ∃ m', m' < l' ∧ m' ≤ l ∧ WPr n p H σ' H' m' f ps' ∧ TF.PrIn n m' f ps', fun σ' H' h => h, ?_⟩
        refine ⟨_, rfl, _, rfl, _, _, rfl, rfl, log_small (by omega) (by omega), l' / f, hlt, by omega, ⟨?_, s4, hp4⟩, PI'⟩
        show [some (V.int (n : Int)), some (V.ref p), some (V.int ((l' : Int).fdiv (f : Int))), some (V.int (f : Int))] = _
        rw [div_nat]
      · have c2 : ¬ f ∣ l' := fun z => of_decide_eq_false c2 (congrArg V.int (by rw [TF.fmod_zero_iff, emod_dvd]; exact z))
        refine ⟨_, rfl, _, _, rfl, rfl, l' + 2 - (f + 1), by omega, l', f + 1, ps', rfl, ⟨rfl, s4, hp4⟩, PI.out c2⟩
    · have c : ¬ (f : Int) * f ≤ l := of_decide_eq_false c
      have c' : ¬ f * f ≤ l := fun z => c (by rw [← Int.natCast_mul]; omega)
      refine ⟨_, rfl, _, _, rfl, rfl, _, rfl, if2 (fun c2 => ?_) (fun c2 => ?_)⟩
      · have c2 : 1 < l := by
          have := of_decide_eq_true c2
          omega
        obtain ⟨h1, h2⟩ := PO.lastY c' c2
        refine ⟨_, rfl, .inl ⟨rfl, _, SqL.of hp2⟩, _, rfl, p, _, _, rfl, rfl, hp2, ?_, ?_⟩
        · rw [List.length_map]
          have := PO.len
          have hsl : sizeLine = 16777216 := sizeLine_eq
          omega
        · refine ⟨_, rfl, q p (ps ++ [l]) _ (Same.updN s2 hpn) hpn ?_ h1 h2⟩
          rw [upd_same, List.map_append]
          rfl
      · have c2 : ¬ 1 < l := by
          have := of_decide_eq_false c2
          omega
        obtain ⟨h1, h2⟩ := PO.lastN c2
        exact ⟨_, rfl, q p ps _ s2 hpn hp2 h1 h2⟩
def sp_roots : Sp := fun vs H Q _ => ∃ (k : Int) (p : Nat), vs = [.int k, .int p] ∧ TF.Kind k ∧ 0 < p ∧ p < 2 ^ 20 ∧ ∀ l (rs : List Nat) H', Same H H' → H' l = some (.lst (rs.map natV)) → (∀ r ∈ rs, r < p ∧ (p : Int) ∣ (r : Int) * r - k) → (∀ r : Nat, r < p → (p : Int) ∣ (r : Int) * r - k → r ∈ rs) → Q (.ref l) H'
def scR : Scope := match (defBody s_roots).getD 0 (.Pass ⟨0, 0, 0, 0⟩) with
  | .Return (some (.ListComp _ _ sc _)) _ => sc
  | _ => defScope s_roots
theorem comp_roots {f : Addr} {cdv : Value} {A : Around} {outer : List Env} {s : Shared} {H : Hp} {E : XK} : CompOk (cxOf (CXL P w) P w K mg base ["kind", "prime"] "roots" (defScope s_roots) f cdv A outer s H E).nox scR
        [("prime", s.heap.objs.size + 1 + 1), ("kind", s.heap.objs.size + 1)] "root" ["root", "kind", "prime"] [0, 1] where
  clos := by rfl
  sub := fun n c h => by
    have z := PySem.mem_of_lookup h
    simp only [List.mem_cons, Prod.mk.injEq, List.not_mem_nil, or_false] at z
    rcases z with ⟨rfl, rfl⟩ | ⟨rfl, rfl⟩ <;> rfl
  ncell := by decide +kernel
  kind := rfl
  names := by decide +kernel
  loc := by decide +kernel
  has := fun y h => by
    have key : ∀ kd : NameKind, (kd = .cell ∨ kd = .free) → (y, kd) ∈ ([(".0", .local), ("root", .local), ("kind", .cell), ("prime", .cell)] : List (Str × NameKind)) → ∃ c, List.lookup y ([("prime", s.heap.objs.size + 1 + 1), ("kind", s.heap.objs.size + 1)] : List (Str × Addr)) = some c := by
      intro kd hkd z
      simp only [List.mem_cons, Prod.mk.injEq, List.not_mem_nil, or_false] at z
      rcases z with ⟨rfl, rfl⟩ | ⟨rfl, rfl⟩ | ⟨rfl, rfl⟩ | ⟨rfl, rfl⟩
      · rcases hkd with z | z <;> cases z
      · rcases hkd with z | z <;> cases z
      · exact ⟨_, rfl⟩
      · exact ⟨_, rfl⟩
    rcases h with h | h
    · exact key _ (.inl rfl) (PySem.mem_of_lookup h)
    · exact key _ (.inr rfl) (PySem.mem_of_lookup h)
  nd := by decide +kernel
  head := rfl
  len := rfl
  slot := fun j i y h1 h2 => by
    match j, h1, h2 with
    | 0, h1, h2 => cases h1; cases h2; exact ⟨rfl, rfl, rfl⟩
    | 1, h1, h2 => cases h1; cases h2; exact ⟨rfl, rfl, rfl⟩
    | j + 2, h1, h2 => exact absurd h1 (by simp)
theorem ok_roots {k : Nat} (T : Txt K mg t) : FnOk P w K mg base (CXL P w) (k + 1) t.f_roots t.d_roots ["kind", "prime"] (sp_roots) := by
  refine T.d_roots.F.okL sc_roots (fun vs H Q E h => ?_) (fun cdv A outer s H vs Q E hr h => ?_)
  · obtain ⟨kk, p, rfl, hk, h0, hp, q⟩ := h
    rfl
  · obtain ⟨kk, p, rfl, hk, h0, hp, q⟩ := h
    have okC : CompOk (cxOf (CXL P w) P w K mg base ["kind", "prime"] "roots" (defScope s_roots) t.f_roots cdv A outer s H E).nox scR
        [("prime", s.heap.objs.size + 1 + 1), ("kind", s.heap.objs.size + 1)] "root" ["root", "kind", "prime"] [0, 1] := comp_roots
    have hsl : sizeLine = 16777216 := sizeLine_eq
    refine ⟨_, (pss_one (ps_ret (pe_lcrI rfl T.b_range rfl rfl (pa_cons (pv 1) pa_nil (hs := seN)) okC (fun _ _ _ _ _ => (pt_cmpR op_eq (pe_op op_modN (pe_op op_sub (pe_op op_mulF (pv 0) (pv 0)) (pv 1)) (pv 2)) pe_int nmEq)) (fun _ _ _ _ _ => (pv 0))))), ?_⟩
    refine ⟨_, rfl, p, rfl, by omega, [.int kk, .int p], fun i xs Hc => ∃ rs : List Nat, xs = rs.map natV ∧ (∀ r ∈ rs, r < p ∧ (p : Int) ∣ (r : Int) * r - kk) ∧ ∀ r : Nat, r < i → (p : Int) ∣ (r : Int) * r - kk → r ∈ rs, rfl, ?_, ?_, fun _ _ => ⟨[], rfl, fun r hr => (nomatch hr), fun r hr => by omega⟩, ?_, ?_⟩
    · intro j i v h1 h2
      match j, h1, h2 with
      | 0, h1, h2 => cases h1; cases h2; rfl
      | 1, h1, h2 => cases h1; cases h2; rfl
      | j + 2, h1, h2 => exact absurd h1 (by simp)
    · rintro i xs Hc D ys zs hD h
      exact h
    · rintro i xs Hc hi sc ⟨rs, rfl, h1, h2⟩
      have fi : Fi (i : Int) := fi_small (by omega)
      refine ⟨_, rfl, _, rfl, _, _, rfl, rfl, fi.mulOk fi, _, rfl, _, _, rfl, rfl, _, rfl, _, _, rfl, rfl, (by show (p : Int) ≠ 0; omega), rfl, _, rfl, Same.refl _, ?_⟩
      by_cases c : (p : Int) ∣ (i : Int) * i - kk
      · refine ifT ?_ ⟨_, rfl, Same.refl _, rs ++ [i], by rw [List.map_append]; rfl, fun r hr => ?_, fun r hr hd => ?_⟩
        · exact decide_eq_true (congrArg V.int (by rw [TF.fmod_zero_iff]; exact Int.emod_eq_zero_of_dvd c))
        · rcases List.mem_append.mp hr with z | z
          · exact h1 r z
          · rw [List.mem_singleton.mp z]; exact ⟨hi, c⟩
        · by_cases e : r = i
          · subst e; simp
          · exact List.mem_append_left _ (h2 r (by omega) hd)
      · refine ifF ?_ ⟨rs, rfl, h1, fun r hr hd => ?_⟩
        · exact decide_eq_false fun z => c (Int.dvd_of_emod_eq_zero (by rw [← TF.fmod_zero_iff]; exact V.int.inj z))
        · by_cases e : r = i
          · subst e; exact absurd hd c
          · exact h2 r (by omega) hd
    · rintro l xs H' s' _ hl ⟨rs, rfl, h1, h2⟩
      exact q l rs H' s' hl h1 h2
def sp_part_at (K : PySem.W.Frag) : Sp := fun vs H Q _ => ∃ (k : Int) (y : P2) (vy : V) (p : Nat), vs = [.int k, vy, .int p] ∧ TF.Kind k ∧ NumV K H vy y ∧ y ≠ (0, 0) ∧ Bd (2 ^ 500) y ∧ TF.PrimeN p ∧ p < 2 ^ 27 ∧ p ∣ TF.size k y ∧ TF.size k y < 2 ^ 27 ∧
  ∀ v g H', Same H H' → NumV K H' v g → TF.Crit k g → TF.Goes k g y → Bd (64 * p ^ 6) g → p ≤ TF.size k g → Bd (2 ^ 1000) g → Q v H'
theorem nm_root {k : Int} (hk : TF.Kind k) {r p : Nat} (h : r < p) (hp : 2 ≤ p) : (TF.nm k ((r : Int), 1)).natAbs ≤ 4 * (p * p) := by
  have e : TF.nm k ((r : Int), 1) = (r : Int) * r - k := by simp [TF.nm]
  rw [e]
  have h1 := Nat.mul_le_mul (Nat.le_of_lt h) (Nat.le_of_lt h)
  have h2 := Nat.mul_le_mul hp hp
  have e2 : ((r * r : Nat) : Int) = (r : Int) * r := Int.natCast_mul r r
  rw [← e2]
  rcases hk with rfl | rfl | rfl | rfl <;> omega
theorem nm_whole (k : Int) (p : Nat) : (TF.nm k ((p : Int), 0)).natAbs = p * p := by
  rw [TF.nm_int, Int.natAbs_mul]
  rfl
theorem ok_part_at {k : Nat} (T : Txt K mg t) : FnOk P w K mg base (CXL P w) (k + 5) t.f_part_at t.d_part_at ["kind", "one", "prime"] (sp_part_at K) := by
  refine T.d_part_at.F.okL sc_part_at (fun vs H Q E h => ?_) (fun cdv A outer s H vs Q E hr h => ?_)
  · obtain ⟨kk, y, vy, p, rfl, hk, hy, y0, by_, hp, hps, hd, hS, q⟩ := h
    rfl
  · obtain ⟨kk, y, vy, p, rfl, hk, hy, y0, by_, hp, hps, hd, hS, q⟩ := h
    have hp1 := hp.1
    have hp46 : p ≤ 2 ^ 46 := Nat.le_of_lt (Nat.lt_trans hps (by decide))
    have bp : Bd p (((p : Int), 0) : P2) := ⟨by rw [Int.natAbs_natCast]; exact Nat.le_refl _, Nat.zero_le _⟩
    have p0 : (((p : Int), 0) : P2) ≠ (0, 0) := fun z => by
      have := congrArg Prod.fst z
      simp only at this
      omega
    have p64 : p ≤ 64 * p ^ 6 := by
      have h := Nat.pow_le_pow_right (show 0 < p by omega) (show 1 ≤ 6 by decide)
      rw [Nat.pow_one] at h
      omega
    refine ⟨_, (pss_cons (ps_set (i := 3) sc_part_at.nd rfl (by first | exact Or.inl rfl | exact Or.inr rfl) (pe_ix ix_tup (pe_call (ok_commonG T) hr rfl T.d_common.m T.d_common.F.kp T.d_common.b .nil passL (pa_cons (pv 0) (pa_cons (pv 1) (pa_cons (pe_pair (pa_cons (pv 2) (pa_cons pe_int pa_nil (hs := seK)) (hs := seN))) pa_nil (hs := seT)) (hs := seN)) (hs := seN))) pe_int (fun _ _ => by with_unfolding_all rfl)))
      (pss_cons (ps_if (pt_cmpR op_eq (pe_call (ok_size T) hr rfl T.d_size.m T.d_size.F.kp T.d_size.b .nil passL (pa_cons (pv 0) (pa_cons (pv 3) pa_nil (hs := seN)) (hs := seN))) (pv 2) nmEq) (pss_one (ps_ret (pv 3))) pss_nil)
      (pss_cons (ps_set (i := 4) sc_part_at.nd rfl (by first | exact Or.inl rfl | exact Or.inr rfl) (pe_call (ok_roots T) hr rfl T.d_roots.m T.d_roots.F.kp T.d_roots.b .nil passL (pa_cons (pv 0) (pa_cons (pv 2) pa_nil (hs := seN)) (hs := seN))))
      (pss_cons (ps_if (pt_cmpR (op_eqNil hr.units0) (pv 4) (pe_lstS pa_nil) nmEq) (pss_one (ps_ret (pe_pair (pa_cons (pv 2) (pa_cons pe_int pa_nil (hs := seK)) (hs := seN))))) pss_nil)
      (pss_one (ps_ret (pe_ix ix_tup (pe_call (ok_commonG T) hr rfl T.d_common.m T.d_common.F.kp T.d_common.b .nil passL (pa_cons (pv 0) (pa_cons (pe_pair (pa_cons (pv 2) (pa_cons pe_int pa_nil (hs := seK)) (hs := seN))) (pa_cons (pe_pair (pa_cons (pe_ix ix_list (pv 4) pe_int (fun _ _ => by with_unfolding_all rfl)) (pa_cons pe_int pa_nil (hs := seK)) (hs := seS))) pa_nil (hs := seT)) (hs := seT)) (hs := seN))) pe_int (fun _ _ => by with_unfolding_all rfl)))))))), ?_⟩
    refine ⟨_, rfl, _, rfl, _, rfl, _, _, rfl, fun v1 H1 s1 n1 => ?_⟩
    refine ⟨_, _, _, _, _, p, rfl, hk, hp46, by_, bp, hy.same s1, n1, fun pt H2 g a b s2 row e g1 g2 b1 fa fb gb => ?_⟩
    obtain ⟨w0, w1, w2, hpt, m0, m1, m2⟩ := row
    refine ⟨_, _, _, _, rfl, rfl, hpt, rfl, ?_⟩
    have s12 := s1.trans s2
    have fg : FiN g := b1.fi (n := 1001) (Nat.pow_lt_pow_right (by decide) (by decide)) (by decide)
    have gB := (gb p0).bd (by rw [nm_whole]; omega)
    refine ⟨_, rfl, _, rfl, _, _, _, rfl, hk, m0, fg, _, rfl, rfl, _, rfl, if2 (fun c => ?_) (fun c => ?_)⟩
    · have c : TF.size kk g = p := by
        have := V.int.inj (of_decide_eq_true c)
        exact Int.ofNat.inj this
      exact ⟨_, rfl, q _ g H2 s12 m0 (.inl (by rw [c]; exact hp)) g1 gB (by omega) b1⟩
    · have c : TF.size kk g ≠ p := fun z => of_decide_eq_false c (congrArg V.int (congrArg Int.ofNat z))
      obtain ⟨_, gp⟩ : TF.size kk g = p * p ∧ TF.Goes kk ((p : Int), 0) y := (TF.gcd_prime hk hp hd e g1 g2).resolve_left c
      have hpp : p * p < 2 ^ 27 := by
        have h1 := TF.goes_nm gp
        rw [nm_whole] at h1
        exact Nat.lt_of_le_of_lt (Nat.le_of_dvd (TF.nm_pos hk y0) h1) hS
      have hpf := sq_few (Nat.le_refl (p * p)) hpp
      refine ⟨_, rfl, _, rfl, _, _, rfl, hk, by omega, by omega, fun l rs H3 s3 hl h1 h2 => ?_⟩
      refine ⟨_, rfl, sz0, fun l0 H4 s4 _ hl0 => ?_⟩
      have hl4 := SqL.of (K := K) (s4 _ _ hl)
      refine ⟨_, _, _, rfl, rfl, hl4, SqL.of hl0, _, rfl, if2 (fun c => ?_) (fun c => ?_)⟩
      · have hrs : rs = [] := by
          cases rs with
          | nil => rfl
          | cons r rr => cases c
        subst hrs
        refine ⟨_, rfl, _, _, rfl, fun v5 H5 s5 n5 => ?_⟩
        have cr : TF.Crit kk ((p : Int), 0) := .inr ⟨p, hp, nm_whole kk p, fun n hn z => (nomatch h2 n hn z), TF.goes_refl kk _⟩
        refine q v5 _ H5 ((s12.trans s3).trans (s4.trans s5)) n5 cr gp (bp.mono p64) ?_ (bp.mono (Nat.le_trans hp46 (Nat.pow_le_pow_right (by decide) (by decide))))
        show p ≤ (TF.nm kk ((p : Int), 0)).natAbs
        rw [nm_whole]
        exact Nat.le_mul_of_pos_left p (by omega)
      · cases rs with
        | nil => cases c
        | cons r rr =>
          obtain ⟨hr1, hr2⟩ := h1 r (by simp)
          have br : Bd p (((r : Int), 1) : P2) := ⟨by rw [Int.natAbs_natCast]; exact Nat.le_of_lt hr1, by show 1 ≤ p; omega⟩
          refine ⟨_, rfl, _, rfl, _, _, rfl, fun v5 H5 s5 n5 => ?_⟩
          have hl5 := s5.seq hl4
          refine ⟨_, rfl, _, _, _, _, rfl, rfl, hl5, (atI_nat (j := 0) (v := V.int (r : Int)) rfl), _, _, rfl, fun v6 H6 s6 n6 => ?_⟩
          refine ⟨_, _, _, _, _, p, rfl, hk, hp46, bp.mono (Nat.le_trans hp46 (Nat.pow_le_pow_right (by decide) (by decide))), br, n5.same s6, n6, fun pt' H7 g' a' b' s7 row e' g1' g2' b1' fa' fb' gb' => ?_⟩
          obtain ⟨w0', w1', w2', hpt', m0', m1', m2'⟩ := row
          have r0 : (((r : Int), 1) : P2) ≠ (0, 0) := fun z => by
            have := congrArg Prod.snd z
            simp only at this
            omega
          have sz := TF.split_prime hk hp hr2 e' g1' g2'
          refine ⟨_, _, _, _, rfl, rfl, hpt', rfl, ?_⟩
          exact q _ g' H7 (((s12.trans s3).trans s4).trans ((s5.trans s6).trans s7)) m0' (.inl (by rw [sz]; exact hp)) (TF.goes_trans g1' gp) ((gb' r0).bd (nm_root hk hr1 (by omega))) (by omega) b1'
def sp_parts (K : PySem.W.Frag) (C : Addr) : Sp := fun vs H Q E => ∃ k x vx, vs = [.int k, vx] ∧ TF.Kind k ∧ Bd 5000 x ∧ NumV K H vx x ∧ (x = (0, 0) → E (.ref C) none H) ∧
  (x ≠ (0, 0) → ∀ p l ps H', Same H H' → H l = none → PartedV K H' p l k x ps → Q (.ref p) H')
def WParts (K : PySem.W.Frag) (k : Int) (x : P2) (vx : V) (H0 : Hp) (lp lf : Addr) (ps : List Nat) (σ : L2.St) (H : Hp) (y : P2) (o4 o5 : Option V) : Prop := ∃ vr qs vs M, σ = [some (.int k), some vx, some vr, some (.ref lf), o4, o5] ∧ Same H0 H ∧ H lp = some (.lst (ps.map natV)) ∧ H lf = some (.lst vs) ∧
  NumV K H vr y ∧ NumsV K H vs qs ∧ PartS k x y qs M
theorem NumsV.snoc {K : PySem.W.Frag} {H : Hp} {vs : List V} {ps : List P2} {v : V} {x : P2} (h : NumsV K H vs ps) (hx : NumV K H v x) : NumsV K H (vs ++ [v]) (ps ++ [x]) := by
  refine ⟨by rw [List.length_append, List.length_append, h.len]; rfl, fun i u y e1 e2 => ?_⟩
  by_cases hi : i < vs.length
  · rw [List.getElem?_append_left hi] at e1
    rw [List.getElem?_append_left (by rw [← h.len]; exact hi)] at e2
    exact h.at_ i u y e1 e2
  · rw [List.getElem?_append_right (by omega)] at e1
    rw [List.getElem?_append_right (by rw [← h.len]; omega)] at e2
    rw [← h.len] at e2
    cases hz : i - vs.length with
    | zero => rw [hz] at e1 e2; cases e1; cases e2; exact hx
    | succ r => rw [hz] at e1; cases e1
def sp_parts0 (K : PySem.W.Frag) (C : Addr) : Sp := fun vs H Q E => ∃ k vx, vs = [.int k, vx] ∧ TF.Kind k ∧ NumV K H vx (0, 0) ∧ E (.ref C) none H
def sp_parts1 (K : PySem.W.Frag) : Sp := fun vs H Q E => ∃ k x vx, vs = [.int k, vx] ∧ TF.Kind k ∧ Bd 5000 x ∧ NumV K H vx x ∧ x ≠ (0, 0) ∧ ∀ p l ps H', Same H H' → H l = none → PartedV K H' p l k x ps → Q (.ref p) H'
theorem ok_parts0 {k : Nat} (T : Txt K mg t) : FnOk P w K mg base (CXL P w) (k + 7) t.f_parts t.d_parts ["kind", "one"] (sp_parts0 K t.a_ByNought) := by
  refine T.d_parts.F.okX sc_parts (fun vs H Q E h => ?_) (fun cdv A outer s H vs Q E hr h => ?_)
  · obtain ⟨kk, vx, rfl, hk, hx, q1⟩ := h
    rfl
  · obtain ⟨kk, vx, rfl, hk, hx, q1⟩ := h
    refine ⟨_, (pss_cons (ps_expr (pe_call (ok_check_kind T) hr rfl T.d_check_kind.m T.d_check_kind.F.kp T.d_check_kind.b .nil passL (pa_cons (pv 0) pa_nil (hs := seN))))
      (pss_cons (ps_if (pt_cmpR (op_eqN hr.units0) (pv 1) (pe_glob (v := .ref t.a_NOUGHT) rfl T.c_NOUGHT.1 rfl) nmEq) (pss_one (ps_raise T.x_ByNought rfl (pa_cons pe_str pa_nil))) pss_nil)
      pss_never)), ?_⟩
    refine ⟨_, rfl, _, rfl, hk, ?_⟩
    exact ⟨_, rfl, (0, 0), (0, 0), hx, ⟨_, rfl, T.c_NOUGHT.2 _⟩, _, rfl, ifT (by simp) ⟨sz1, q1⟩⟩
theorem ok_parts1 {k : Nat} (T : Txt K mg t) : FnOk P w K mg base (CXL P w) (k + 7) t.f_parts t.d_parts ["kind", "one"] (sp_parts1 K) := by
  refine T.d_parts.F.okL sc_parts (fun vs H Q E h => ?_) (fun cdv A outer s H vs Q E hr h => ?_)
  · obtain ⟨kk, x, vx, rfl, hk, bx, hx, hne, q2⟩ := h
    rfl
  · obtain ⟨kk, x, vx, rfl, hk, bx, hx, hne, q2⟩ := h
    have hS := bd_size hk bx
    have fx : FiN x := bx.fi (n := 13) (by decide) (by decide)
    refine ⟨_, (pss_cons (ps_expr (pe_call (ok_check_kind T) hr rfl T.d_check_kind.m T.d_check_kind.F.kp T.d_check_kind.b .nil passL (pa_cons (pv 0) pa_nil (hs := seN))))
      (pss_cons (ps_if (pt_cmpR (op_eqN hr.units0) (pv 1) (pe_glob (v := .ref t.a_NOUGHT) rfl T.c_NOUGHT.1 rfl) nmEq) (pss_one ps_never) pss_nil)
      (pss_cons (ps_set (i := 2) sc_parts.nd rfl (by first | exact Or.inl rfl | exact Or.inr rfl) (pv 1))
      (pss_cons (ps_set (i := 3) sc_parts.nd rfl (by first | exact Or.inl rfl | exact Or.inr rfl) (pe_lstS pa_nil))
      (pss_cons (ps_for PassesOwn.never rfl (pi_list (pe_call (ok_primes_of T) hr rfl T.d_primes_of.m T.d_primes_of.F.kp T.d_primes_of.b .nil passL (pa_cons (pe_call (ok_size T) hr rfl T.d_size.m T.d_size.F.kp T.d_size.b .nil passL (pa_cons (pv 0) (pa_cons (pv 1) pa_nil (hs := seN)) (hs := seN))) pa_nil (hs := seC)))) (pg_name (i := 4) sc_parts.nd rfl (by first | exact Or.inl rfl | exact Or.inr rfl)) (pss_one (ps_while PassesOwn.never (pt_cmpR op_eq (pe_op op_modN (pe_call (ok_size T) hr rfl T.d_size.m T.d_size.F.kp T.d_size.b .nil passL (pa_cons (pv 0) (pa_cons (pv 2) pa_nil (hs := seN)) (hs := seN))) (pv 4)) pe_int nmEq) (pss_cons (ps_set (i := 5) sc_parts.nd rfl (by first | exact Or.inl rfl | exact Or.inr rfl) (pe_call (ok_part_at T) hr rfl T.d_part_at.m T.d_part_at.F.kp T.d_part_at.b .nil passL (pa_cons (pv 0) (pa_cons (pv 2) (pa_cons (pv 4) pa_nil (hs := seN)) (hs := seN)) (hs := seN))))
      (pss_cons (ps_expr (pe_bm PySem.F.plainAttrs_list PySem.F.slot_list_append PySem.F.type_list_append mt_append (pv 3) (pa_cons (pv 5) pa_nil (hs := seN))))
      (pss_one (ps_set (i := 2) sc_parts.nd rfl (by first | exact Or.inl rfl | exact Or.inr rfl) (pe_ix ix_tup (pe_call (ok_split T) hr rfl T.d_split.m T.d_split.F.kp T.d_split.b .nil passL (pa_cons (pv 0) (pa_cons (pv 2) (pa_cons (pv 5) pa_nil (hs := seN)) (hs := seN)) (hs := seN))) pe_int (fun _ _ => by with_unfolding_all rfl)))))))))
      (pss_one (ps_ret (pe_tupS (pa_cons (pv 2) (pa_cons (pv 3) pa_nil (hs := seN)) (hs := seN)))))))))), ?_⟩
    refine ⟨_, rfl, _, rfl, hk, ?_⟩
    refine ⟨_, rfl, x, (0, 0), hx, ⟨_, rfl, T.c_NOUGHT.2 _⟩, _, rfl, ifF (by simpa using hne) ?_⟩
    refine ⟨_, rfl, sz0, fun lf H1 s1 hfn hf1 => ?_⟩
    have hx1 := hx.same s1
    refine ⟨_, rfl, _, rfl, _, _, _, rfl, hk, hx1, fx, _, rfl, TF.nm_pos hk hne, hS, fun lp ps H2 s2 hpn hp2 hall hmem => ?_⟩
    have hne2 : lf ≠ lp := ne_of_none hf1 hpn
    refine ⟨lp, rfl, ⟨_, SqL.of hp2⟩, ?_⟩
    refine for_list (xs := ps.map natV) (fun i σ H3 => ∃ y o4 o5, WParts K kk x vx H lp lf ps σ H3 y o4 o5 ∧ ∀ j q, j < i → ps[j]? = some q → ¬ q ∣ TF.size kk y) ⟨x, none, none, ⟨_, [], [], 5000, rfl, s1.trans s2, hp2, s2 _ _ hf1, hx1.same s2, ⟨rfl, fun i v y e1 _ => by cases e1⟩, PartS.start bx hne⟩, fun j q hj => by omega⟩ (fun i σ H3 _ ⟨_, _, _, ⟨_, _, _, _, _, _, hp, _⟩, _⟩ => SqL.of hp) ?_ ?_
    · rintro i v σ H3 hv ⟨y, o4, o5, ⟨vr, qs, vs, M, rfl, s3, hp3, hf3, nr, nq, PS⟩, hno⟩
      obtain ⟨p, hpi, rfl⟩ : ∃ p, ps[i]? = some p ∧ v = natV p := by
        rw [List.getElem?_map] at hv
        cases hz : ps[i]? with
        | none => rw [hz] at hv; cases hv
        | some p => rw [hz] at hv; cases hv; exact ⟨p, rfl, rfl⟩
      obtain ⟨pp, pd⟩ := hall p (List.mem_of_getElem? hpi)
      have hpl : p < 2 ^ 27 := Nat.lt_of_le_of_lt (Nat.le_of_dvd (TF.nm_pos hk hne) pd) hS
      have hp1 := pp.1
      refine ⟨fun m σ H4 => ∃ y o5, m = TF.size kk y ∧ WParts K kk x vx H lp lf ps σ H4 y (some (natV p)) o5 ∧ ∀ j q, j < i → ps[j]? = some q → ¬ q ∣ TF.size kk y, ⟨_, y, o5, rfl, ⟨vr, qs, vs, M, rfl, s3, hp3, hf3, nr, nq, PS⟩, hno⟩, ?_⟩
      rintro m σ H4 ⟨y, o5, rfl, ⟨vr, qs, vs, M, rfl, s4, hp4, hf4, nr, nq, PS⟩, hno⟩
      have by_ := PS.bits hk hS
      have fy : FiN y := by_.fi (n := 392) (Nat.pow_lt_pow_right (by decide) (by decide)) (by decide)
      have ySm : TF.size kk y < 2 ^ 27 := Nat.lt_of_le_of_lt (Nat.le_of_dvd (TF.nm_pos hk hne) PS.dvd) hS
      refine ⟨_, rfl, _, rfl, _, _, _, rfl, hk, nr, fy, _, rfl, _, _, rfl, rfl, (by show (p : Int) ≠ 0; omega), rfl, _, rfl, if2 (fun c => ?_) (fun c => ?_)⟩
      · have c := V.int.inj (of_decide_eq_true c)
        rw [TF.fmod_zero_iff, emod_dvd] at c
        refine ⟨fun σ' H' => ∃ m', m' < TF.size kk y ∧ ∃ y o5, m' = TF.size kk y ∧ WParts K kk x vx H lp lf ps σ' H' y (some (natV p)) o5 ∧ ∀ j q, j < i → ps[j]? = some q → ¬ q ∣ TF.size kk y, fun σ' H' h => h, ?_⟩
        refine ⟨_, rfl, _, rfl, _, rfl, _, y, _, p, rfl, hk, nr, PS.ne, by_.mono (Nat.pow_le_pow_right (by decide) (by decide)), pp, hpl, c, ySm, fun v5 g H5 s5 n5 cr gg bg hle b1 => ?_⟩
        have hf5 := s5 _ _ hf4
        have hlen : vs.length < sizeLine := by
          have h1 := nq.len
          have h2 := PS.len
          have hsl : sizeLine = 16777216 := sizeLine_eq
          refine Nat.lt_of_not_le fun z => ?_
          have h3 := Nat.pow_le_pow_right (show 0 < 2 by decide) (show 27 ≤ qs.length by omega)
          have h4 := Nat.mul_le_mul h3 (show 1 ≤ TF.size kk y from PS.szpos hk)
          omega
        refine ⟨_, rfl, .inl ⟨rfl, _, SqL.of hf5⟩, _, rfl, lf, _, _, rfl, rfl, hf5, hlen, ?_⟩
        have n5u := n5.updL (zs := vs ++ [v5]) hf5
        have nru := (nr.same s5).updL (zs := vs ++ [v5]) hf5
        have nqu := (nq.same s5).updL (zs := vs ++ [v5]) hf5
        have hfu : upd H5 lf (.lst (vs ++ [v5])) lf = some (.lst (vs ++ [v5])) := upd_same
        have hpu : upd H5 lf (.lst (vs ++ [v5])) lp = some (.lst (ps.map natV)) := by
          rw [upd_ne (Ne.symm hne2)]
          exact s5 _ _ hp4
        have su : Same H (upd H5 lf (.lst (vs ++ [v5]))) := Same.updN (s4.trans s5) hfn
        generalize upd H5 lf (.lst (vs ++ [v5])) = H6 at n5u nru nqu hfu hpu su
        obtain ⟨PS', hlt⟩ := PS.step hk hS (by omega) hpl cr gg bg hle
        have g0 : g ≠ (0, 0) := fun z => by
          subst z
          exact PS.ne (TF.goes_zero.mp gg)
        refine ⟨_, rfl, _, rfl, _, rfl, _, y, g, _, _, rfl, hk, by_.mono (Nat.pow_le_pow_right (by decide) (by decide)), b1, nru, n5u, fun z => absurd z g0, fun _ pt H7 vq vz s7 hpt nq7 nz7 => ?_⟩
        refine ⟨_, _, _, _, rfl, rfl, SqT.of hpt, rfl, ?_⟩
        refine ⟨_, hlt, _, _, rfl, ⟨_, _, _, _, rfl, su.trans s7, s7 _ _ hpu, s7 _ _ hfu, nq7, (NumsV.snoc nqu n5u).same s7, PS'⟩, fun j q hj hq z => hno j q hj hq (Nat.dvd_trans z ?_)⟩
        have e := quo_mul hk gg PS.ne
        refine ⟨TF.size kk g, ?_⟩
        unfold TF.size
        rw [← Int.natAbs_mul, ← TF.nm_mul, e]
      · have c : ¬ p ∣ TF.size kk y := fun z => of_decide_eq_false c (congrArg V.int (by rw [TF.fmod_zero_iff, emod_dvd]; exact z))
        refine ⟨y, _, _, ⟨vr, qs, vs, M, rfl, s4, hp4, hf4, nr, nq, PS⟩, fun j q hj hq => ?_⟩
        by_cases e : j = i
        · subst e
          rw [hpi] at hq
          cases hq
          exact c
        · exact hno j q (by omega) hq
    · rintro σ H3 ⟨y, o4, o5, ⟨vr, qs, vs, M, rfl, s3, hp3, hf3, nr, nq, PS⟩, hno⟩
      have h1 : TF.size kk y = 1 := no_prime_one (PS.szpos hk) PS.dvd fun q hq hd => by
        obtain ⟨j, hj⟩ := List.getElem?_of_mem (hmem q hq hd)
        refine hno j q ?_ hj
        rw [List.length_map]
        exact (List.getElem?_eq_some_iff.mp hj).1
      refine ⟨_, rfl, _, rfl, sz2, fun pt H4 s4 hpt => ?_⟩
      exact q2 pt lf qs H4 (s3.trans s4) hfn ⟨⟨y, vr, vs, SqT.of hpt, nr.same s4, s4 _ _ hf3, nq.same s4, PS.done hk hS h1⟩⟩
theorem ok_parts {k : Nat} (T : Txt K mg t) : FnOk P w K mg base (CXL P w) (k + 7) t.f_parts t.d_parts ["kind", "one"] (sp_parts K t.a_ByNought) :=
  (ok_parts0 T).via (ok_parts1 T) fun vs H Q E ⟨n, x, vx, e, hk, bx, hx, q1, q2⟩ => by
    by_cases h0 : x = (0, 0)
    · subst h0
      exact .inl ⟨n, vx, e, hk, hx, q1 rfl⟩
    · exact .inr ⟨n, x, vx, e, hk, bx, hx, h0, q2 h0⟩
theorem okb_parts {k : Nat} (T : Txt K mg t) : FnOk P w K mg base (CXL P w) (k + 7) t.f_parts t.d_parts ["kind", "one"] (spb t.a_BadKind 1) := by
  refine T.d_parts.F.okX sc_parts (fun vs H Q E h => ?_) (fun cdv A outer s H vs Q E hr h => ?_)
  · obtain ⟨n, rest, rfl, hl, hk, q⟩ := h
    obtain ⟨a, rfl⟩ := rest1 hl
    rfl
  · obtain ⟨n, rest, rfl, hl, hk, q⟩ := h
    obtain ⟨a, rfl⟩ := rest1 hl
    refine ⟨_, (pss_cons (ps_expr (pe_call (okb_check_kind T) hr rfl T.d_check_kind.m T.d_check_kind.F.kp T.d_check_kind.b .nil passX (pa_cons (pv 0) pa_nil (hs := seN))))
      pss_never), ?_⟩
    exact ⟨_, rfl, n, [], rfl, rfl, hk, q⟩
def sp_parts_no_further (K : PySem.W.Frag) : Sp := fun vs H Q E => ∃ k x vx, vs = [.int k, vx] ∧ TF.Kind k ∧ Bd 5000 x ∧ NumV K H vx x ∧ ∀ b H', Same H H' → (b = true ↔ TF.Crit k x) → Q (.bl b) H'
theorem ok_parts_no_further {k : Nat} (T : Txt K mg t) : FnOk P w K mg base (CXL P w) (k + 8) t.f_parts_no_further t.d_parts_no_further ["kind", "one"] (sp_parts_no_further K) := by
  refine T.d_parts_no_further.F.okL sc_parts_no_further (fun vs H Q E h => ?_) (fun cdv A outer s H vs Q E hr h => ?_)
  · obtain ⟨kk, x, vx, rfl, hk, bx, hx, q⟩ := h
    rfl
  · obtain ⟨kk, x, vx, rfl, hk, bx, hx, q⟩ := h
    refine ⟨_, (pss_cons (ps_expr (pe_call (ok_check_kind T) hr rfl T.d_check_kind.m T.d_check_kind.F.kp T.d_check_kind.b .nil passL (pa_cons (pv 0) pa_nil (hs := seN))))
      (pss_one (ps_ret (pe_and (pe_cmpR (op_neN hr.units0) (pv 1) (pe_glob (v := .ref t.a_NOUGHT) rfl T.c_NOUGHT.1 rfl) nmNotEq) (pe_one (pe_cmpR op_eq (pe_callB call_len_seq rfl T.b_len bt_len (pa_cons (pe_ix ix_tup (pe_call (ok_parts T) hr rfl T.d_parts.m T.d_parts.F.kp T.d_parts.b .nil passL (pa_cons (pv 0) (pa_cons (pv 1) pa_nil (hs := seN)) (hs := seN))) pe_int (fun _ _ => by with_unfolding_all rfl)) pa_nil (hs := seS))) pe_int nmEq)))))), ?_⟩
    refine ⟨_, rfl, _, rfl, hk, ?_⟩
    refine ⟨_, rfl, x, (0, 0), hx, ⟨_, rfl, T.c_NOUGHT.2 _⟩, _, rfl, if2 (fun c => ?_) (fun c => ?_)⟩
    · have hne := ne_t c
      refine ⟨_, rfl, _, rfl, _, _, _, rfl, hk, bx, hx, fun z => absurd z hne, fun _ pt l ps H1 s1 _ PV => ?_⟩
      obtain ⟨u, vu, vs, h1, h2, h3, h4, h5⟩ := PV.ex
      refine ⟨_, _, _, _, rfl, rfl, h1, rfl, _, _, rfl, .inl (SqL.of h3), rfl, q _ _ s1 ?_⟩
      rw [← h5.prod, TF.crit_parted hk h5.unit h5.crit, h4.len, decide_eq_true_iff]
      constructor
      · intro z
        have := V.int.inj z
        omega
      · intro z
        rw [z]
        rfl
    · have he := ne_f c
      subst he
      refine q _ _ (Same.refl _) ⟨(fun z => by cases z), fun z => absurd rfl (TF.Crit.prm hk z).1⟩
theorem okb_parts_no_further {k : Nat} (T : Txt K mg t) : FnOk P w K mg base (CXL P w) (k + 8) t.f_parts_no_further t.d_parts_no_further ["kind", "one"] (spb t.a_BadKind 1) := by
  refine T.d_parts_no_further.F.okX sc_parts_no_further (fun vs H Q E h => ?_) (fun cdv A outer s H vs Q E hr h => ?_)
  · obtain ⟨n, rest, rfl, hl, hk, q⟩ := h
    obtain ⟨a, rfl⟩ := rest1 hl
    rfl
  · obtain ⟨n, rest, rfl, hl, hk, q⟩ := h
    obtain ⟨a, rfl⟩ := rest1 hl
    refine ⟨_, (pss_cons (ps_expr (pe_call (okb_check_kind T) hr rfl T.d_check_kind.m T.d_check_kind.F.kp T.d_check_kind.b .nil passX (pa_cons (pv 0) pa_nil (hs := seN))))
      pss_never), ?_⟩
    exact ⟨_, rfl, n, [], rfl, rfl, hk, q⟩
def sp_law_at (K : PySem.W.Frag) : Sp := fun vs H Q _ => ∃ a k, ∃ ns : List Int, vs = [.ref a, .int k] ∧ SqL K H a (ns.map V.int) ∧ 0 ≤ k ∧ ∀ z, Q (.int z) H
theorem ok_law_at {k : Nat} (T : Txt K mg t) : FnOk P w K mg base (CXL P w) (k + 1) t.f_law_at t.d_law_at ["_law_script", "_law_k"] (sp_law_at K) := by
  refine T.d_law_at.F.okL sc_law_at (fun vs H Q E h => ?_) (fun cdv A outer s H vs Q E hr h => ?_)
  · obtain ⟨a, n, ns, rfl, hS, hn, q⟩ := h
    rfl
  · obtain ⟨a, n, ns, rfl, hS, hn, q⟩ := h
    refine ⟨_, (pss_cons (ps_if (pt_cmpR op_lt (pv 1) (pe_callB call_len_seq rfl T.b_len bt_len (pa_cons (pv 0) pa_nil (hs := seN))) nmLt) (pss_one (ps_ret (pe_ix ix_list (pv 0) (pv 1) (fun _ _ => by with_unfolding_all rfl)))) pss_nil)
      (pss_one (ps_ret pe_int))), ?_⟩
    refine ⟨_, rfl, _, rfl, _, _, rfl, .inl hS, _, _, rfl, rfl, _, rfl, if2 (fun c => ?_) (fun c => ?_)⟩
    · have hlt : n < ((ns.map V.int).length : Int) := of_decide_eq_true c
      obtain ⟨j, rfl⟩ : ∃ j : Nat, n = (j : Int) := ⟨n.toNat, by omega⟩
      have hj : j < ns.length := by rw [List.length_map] at hlt; omega
      exact ⟨_, rfl, _, rfl, _, _, _, _, rfl, rfl, hS, atI_nat (v := .int ns[j]) (by rw [List.getElem?_map, List.getElem?_eq_getElem hj]; rfl), q _⟩
    · exact q _
def sp_law_small_by (K : PySem.W.Frag) : Sp := fun vs H Q _ => ∃ a k, ∃ ns : List Int, vs = [.ref a, .int k] ∧ SqL K H a (ns.map V.int) ∧ 0 ≤ k ∧ ∀ v x H', Same H H' → NumV K H' v x → Bd 12 x → Q v H'
theorem ok_law_small_by {k : Nat} (T : Txt K mg t) : FnOk P w K mg base (CXL P w) (k + 2) t.f_law_small_by t.d_law_small_by ["_law_script", "_law_k"] (sp_law_small_by K) := by
  refine T.d_law_small_by.F.okL sc_law_small_by (fun vs H Q E h => ?_) (fun cdv A outer s H vs Q E hr h => ?_)
  · obtain ⟨a, n, ns, rfl, hS, hn, q⟩ := h
    rfl
  · obtain ⟨a, n, ns, rfl, hS, hn, q⟩ := h
    refine ⟨_, (pss_one (ps_ret (pe_pair (pa_cons (pe_op op_sub (pe_op op_mod (pe_call (ok_law_at T) hr rfl T.d_law_at.m T.d_law_at.F.kp T.d_law_at.b .nil passL (pa_cons (pv 0) (pa_cons (pv 1) pa_nil (hs := seN)) (hs := seN))) pe_int) pe_int) (pa_cons (pe_op op_sub (pe_op op_mod (pe_call (ok_law_at T) hr rfl T.d_law_at.m T.d_law_at.F.kp T.d_law_at.b .nil passL (pa_cons (pv 0) (pa_cons (pe_op op_add (pv 1) pe_int) pa_nil (hs := seB)) (hs := seN))) pe_int) pe_int) pa_nil (hs := seB)) (hs := seB))))), ?_⟩
    refine ⟨_, rfl, _, rfl, _, _, ns, rfl, hS, hn, fun z1 => ⟨_, _, rfl, rfl, (by show (0 : Int) < 25; decide), _, _, rfl, rfl, ?_⟩⟩
    refine ⟨_, rfl, _, rfl, _, _, rfl, rfl, _, _, ns, rfl, hS, (by omega), fun z2 => ⟨_, _, rfl, rfl, (by show (0 : Int) < 25; decide), _, _, rfl, rfl, ?_⟩⟩
    exact ⟨_, _, rfl, fun v H' s n => q v _ H' s n ⟨by show (z1 % 25 - 12).natAbs ≤ 12; omega, by show (z2 % 25 - 12).natAbs ≤ 12; omega⟩⟩
theorem bits12 {a b : Int} (ha : a.natAbs ≤ 12) (hb : b.natAbs ≤ 12) : Builtin.Int.intBits (a * b) ≤ 64 := by
  have h : (a * b).natAbs ≤ 12 * 12 := by rw [Int.natAbs_mul]; exact Nat.mul_le_mul ha hb
  exact intBits_le_iff.mpr (Nat.lt_of_le_of_lt h (by decide))
def sp_law_product (K : PySem.W.Frag) : Sp := fun vs H Q _ => ∃ k x y vx vy, vs = [.int k, vx, vy] ∧ NumV K H vx x ∧ NumV K H vy y ∧ Bd 12 x ∧ Bd 12 y ∧ ∀ v H', Same H H' → NumV K H' v (TF.mul k x y) → Q v H'
theorem ok_law_product {k : Nat} (T : Txt K mg t) : FnOk P w K mg base (CXL P w) (k + 1) t.f_law_product t.d_law_product ["_law_kind", "_law_one", "_law_two"] (sp_law_product K) := by
  refine T.d_law_product.F.okL sc_law_product (fun vs H Q E h => ?_) (fun cdv A outer s H vs Q E hr h => ?_)
  · obtain ⟨n, x, y, vx, vy, rfl, hx, hy, bx, by_, q⟩ := h
    rfl
  · obtain ⟨n, x, y, vx, vy, rfl, hx, hy, bx, by_, q⟩ := h
    have fx : FiN x := bx.fi (n := 10) (by decide) (by decide)
    have fy : FiN y := by_.fi (n := 10) (by decide) (by decide)
    refine ⟨_, (pss_cons (ps_set (i := 3) sc_law_product.nd rfl (by first | exact Or.inl rfl | exact Or.inr rfl) (pe_op op_add (pe_op op_mulF (pe_n0 (pv 1)) (pe_n0 (pv 2))) (pe_op op_mulF (pe_op op_mulF (pe_n1 (pv 1)) (pe_n1 (pv 2))) (pv 0))))
      (pss_one (ps_ret (pe_pair (pa_cons (pv 3) (pa_cons (pe_op op_add (pe_op op_mulF (pe_n1 (pv 1)) (pe_n0 (pv 2))) (pe_op op_mulF (pe_n0 (pv 1)) (pe_n1 (pv 2)))) pa_nil (hs := seB)) (hs := seN)))))), ?_⟩
    refine ⟨_, rfl, _, hx, _, rfl, _, hy, _, _, rfl, rfl, fx.1.mulOk fy.1, _, rfl, _, hx, _, rfl, _, hy, _, _, rfl, rfl, fx.2.mulOk fy.2, _, rfl, _, _, rfl, rfl, .of_left (bits12 bx.2 by_.2), _, _, rfl, rfl, ?_⟩
    refine ⟨_, rfl, _, rfl, _, hx, _, rfl, _, hy, _, _, rfl, rfl, fx.2.mulOk fy.1, _, rfl, _, hx, _, rfl, _, hy, _, _, rfl, rfl, fx.1.mulOk fy.2, _, _, rfl, rfl, _, _, rfl, fun v H' s n => q v H' s ?_⟩
    rw [← mul_law]
    exact n
def sp_law_size_of (K : PySem.W.Frag) : Sp := fun vs H Q _ => ∃ k x vx, vs = [.int k, vx] ∧ NumV K H vx x ∧ Bd 12 x ∧ ∀ H', Same H H' → Q (.int (TF.nm k x).natAbs) H'
theorem ok_law_size_of {k : Nat} (T : Txt K mg t) : FnOk P w K mg base (CXL P w) (k + 2) t.f_law_size_of t.d_law_size_of ["_law_kind", "_law_one"] (sp_law_size_of K) := by
  refine T.d_law_size_of.F.okL sc_law_size_of (fun vs H Q E h => ?_) (fun cdv A outer s H vs Q E hr h => ?_)
  · obtain ⟨n, x, vx, rfl, hx, bx, q⟩ := h
    rfl
  · obtain ⟨n, x, vx, rfl, hx, bx, q⟩ := h
    refine ⟨_, (pss_one (ps_ret (pe_callB call_abs rfl T.b_abs bt_abs (pa_cons (pe_n0 (pe_call (ok_law_product T) hr rfl T.d_law_product.m T.d_law_product.F.kp T.d_law_product.b .nil passL (pa_cons (pv 0) (pa_cons (pv 1) (pa_cons (pe_pair (pa_cons (pe_n0 (pv 1)) (pa_cons (pe_op op_sub pe_int (pe_n1 (pv 1))) pa_nil (hs := seB)) (hs := seS))) pa_nil (hs := seT)) (hs := seN)) (hs := seN)))) pa_nil (hs := seS))))), ?_⟩
    refine ⟨_, rfl, _, rfl, _, rfl, _, hx, _, rfl, _, hx, _, _, rfl, rfl, _, _, rfl, fun v1 H1 s1 n1 => ?_⟩
    rw [conj_law] at n1
    refine ⟨_, x, TF.conj x, _, _, rfl, hx.same s1, n1, bx, bx.conj, fun v2 H2 s2 n2 => ?_⟩
    rw [TF.mul_conj] at n2
    exact ⟨_, n2, _, rfl, by rw [abs_if]; exact q _ (s1.trans s2)⟩
def cls8 (t : Adr) : Nat → Addr
  | 0 => t.a_BadKind
  | 1 => t.a_ByNought
  | _ => t.a_NoUnit
def Sp8 (t : Adr) (o : Option Nat) (H : Hp) (Q : VK) (E : XK) : Prop := match o with
  | none => ∀ v H', Same H H' → Q v H'
  | some c => ∀ H', Same H H' → E (.ref (cls8 t c)) none H'
def sp8two (K : PySem.W.Frag) (t : Adr) (wh : Nat) : Sp := fun vs H Q E => ∃ k x y vx vy, vs = [.int k, vx, vy] ∧ NumV K H vx x ∧ NumV K H vy y ∧ Bd 12 x ∧ Bd 12 y ∧ Sp8 t (out8 wh k x y) H Q E
def sp8one (K : PySem.W.Frag) (t : Adr) (wh : Nat) : Sp := fun vs H Q E => ∃ k x y vx, vs = [.int k, vx] ∧ NumV K H vx x ∧ Bd 12 x ∧ Sp8 t (out8 wh k x y) H Q E
def sp8unit (t : Adr) : Sp := fun vs H Q E => ∃ k j x y, vs = [.int k, .int 1, .int j] ∧ j.natAbs ≤ 12 ∧ Sp8 t (out8 12 k x y) H Q E
theorem b12 {x : P2} (h : Bd 12 x) : Bd (2 ^ 1000) x := h.mono (Nat.le_trans (show 12 ≤ 2 ^ 46 by decide) (Nat.pow_le_pow_right (by decide) (by decide)))
theorem b12' {x : P2} (h : Bd 12 x) : Bd (2 ^ 3000) x := h.mono (Nat.le_trans (show 12 ≤ 2 ^ 46 by decide) (Nat.pow_le_pow_right (by decide) (by decide)))
theorem f12 {x : P2} (h : Bd 12 x) : FiN x := h.fi (n := 10) (by decide) (by decide)
theorem out_bad {wh : Nat} {k : Int} {x y : P2} (hk : ¬ TF.Kind k) : out8 wh k x y = some 0 := by unfold out8; rw [if_pos hk]
theorem out_none {wh : Nat} {k : Int} {x y : P2} (hk : TF.Kind k) (h1 : ¬ (wh = 2 ∧ y = (0, 0) ∨ wh = 10 ∧ x = (0, 0))) (h2 : ¬ ((wh = 8 ∨ wh = 9) ∧ (TF.nm k x).natAbs ≠ 1)) : out8 wh k x y = none := by
  unfold out8
  rw [if_neg (fun z => z hk), if_neg h1, if_neg h2]
theorem out_nought {wh : Nat} {k : Int} {x y : P2} (hk : TF.Kind k) (h1 : wh = 2 ∧ y = (0, 0) ∨ wh = 10 ∧ x = (0, 0)) : out8 wh k x y = some 1 := by
  unfold out8
  rw [if_neg (fun z => z hk), if_pos h1]
theorem out_unit {wh : Nat} {k : Int} {x y : P2} (hk : TF.Kind k) (h1 : ¬ (wh = 2 ∧ y = (0, 0) ∨ wh = 10 ∧ x = (0, 0))) (h2 : (wh = 8 ∨ wh = 9) ∧ (TF.nm k x).natAbs ≠ 1) : out8 wh k x y = some 2 := by
  unfold out8
  rw [if_neg (fun z => z hk), if_neg h1, if_pos h2]
theorem two8 {f : Addr} {fd : FuncData} {ps : List Str} {k wh : Nat} {sp : Sp} (F : FnOk P w K mg base (CXL P w) k f fd ps sp) (Fb : FnOk P w K mg base (CXL P w) k f fd ps (spb t.a_BadKind 2))
    (h : ∀ kk x y vx vy H Q E, TF.Kind kk → NumV K H vx x → NumV K H vy y → Bd 12 x → Bd 12 y → Sp8 t (out8 wh kk x y) H Q E → sp [.int kk, vx, vy] H Q E) : FnOk P w K mg base (CXL P w) k f fd ps (sp8two K t wh) := by
  refine F.via Fb fun vs H Q E q => ?_
  obtain ⟨kk, x, y, vx, vy, rfl, nx, ny, bx, by_, q⟩ := q
  by_cases hk : TF.Kind kk
  · exact .inl (h kk x y vx vy H Q E hk nx ny bx by_ q)
  · rw [out_bad hk] at q
    exact .inr ⟨kk, [vx, vy], rfl, rfl, hk, q⟩
theorem one8 {f : Addr} {fd : FuncData} {ps : List Str} {k wh : Nat} {sp : Sp} (F : FnOk P w K mg base (CXL P w) k f fd ps sp) (Fb : FnOk P w K mg base (CXL P w) k f fd ps (spb t.a_BadKind 1))
    (h : ∀ kk x y vx H Q E, TF.Kind kk → NumV K H vx x → Bd 12 x → Sp8 t (out8 wh kk x y) H Q E → sp [.int kk, vx] H Q E) : FnOk P w K mg base (CXL P w) k f fd ps (sp8one K t wh) := by
  refine F.via Fb fun vs H Q E q => ?_
  obtain ⟨kk, x, y, vx, rfl, nx, bx, q⟩ := q
  by_cases hk : TF.Kind kk
  · exact .inl (h kk x y vx H Q E hk nx bx q)
  · rw [out_bad hk] at q
    exact .inr ⟨kk, [vx], rfl, rfl, hk, q⟩
theorem ok8_added {k : Nat} (T : Txt K mg t) : FnOk P w K mg base (CXL P w) (k + 6) t.f_added t.d_added ["kind", "one", "two"] (sp8two K t 0) :=
  two8 (ok_added T) (okb_added T) fun kk x y vx vy H Q E hk nx ny bx by_ q => by
    rw [out_none hk (by simp) (by simp)] at q
    exact ⟨kk, x, y, vx, vy, rfl, hk, nx, ny, fun v H' s _ => q v H' s⟩
theorem ok8_multiplied {k : Nat} (T : Txt K mg t) : FnOk P w K mg base (CXL P w) (k + 6) t.f_multiplied t.d_multiplied ["kind", "one", "two"] (sp8two K t 1) :=
  two8 (ok_multiplied T) (okb_multiplied T) fun kk x y vx vy H Q E hk nx ny bx by_ q => by
    rw [out_none hk (by simp) (by simp)] at q
    exact ⟨kk, x, y, vx, vy, rfl, hk, nx, ny, f12 bx, f12 by_, fun v H' s _ => q v H' s⟩
theorem ok8_split {k : Nat} (T : Txt K mg t) : FnOk P w K mg base (CXL P w) (k + 6) t.f_split t.d_split ["kind", "one", "two"] (sp8two K t 2) :=
  two8 (ok_split T) (okb_split T) fun kk x y vx vy H Q E hk nx ny bx by_ q => by
    refine ⟨kk, x, y, vx, vy, rfl, hk, b12 bx, b12 by_, nx, ny, fun e => ?_, fun e p H' vq vr s _ _ _ => ?_⟩
    · rw [out_nought hk (.inl ⟨rfl, e⟩)] at q
      exact q _ (Same.refl _)
    · rw [out_none hk (by simp [e]) (by simp)] at q
      exact q _ H' s
theorem ok8_divides {k : Nat} (T : Txt K mg t) : FnOk P w K mg base (CXL P w) (k + 6) t.f_divides t.d_divides ["kind", "one", "two"] (sp8two K t 3) :=
  two8 (ok_divides T) (okb_divides T) fun kk x y vx vy H Q E hk nx ny bx by_ q => by
    rw [out_none hk (by simp) (by simp)] at q
    exact ⟨kk, x, y, vx, vy, rfl, hk, b12 bx, b12 by_, nx, ny, fun b H' s _ => q _ H' s⟩
theorem ok8_alike {k : Nat} (T : Txt K mg t) : FnOk P w K mg base (CXL P w) (k + 6) t.f_alike t.d_alike ["kind", "one", "two"] (sp8two K t 4) :=
  two8 (ok_alike T) (okb_alike T) fun kk x y vx vy H Q E hk nx ny bx by_ q => by
    rw [out_none hk (by simp) (by simp)] at q
    exact ⟨kk, x, y, vx, vy, rfl, hk, b12 bx, b12 by_, nx, ny, fun b H' s _ => q _ H' s⟩
theorem ok8_common {k : Nat} (T : Txt K mg t) : FnOk P w K mg base (CXL P w) (k + 6) t.f_common t.d_common ["kind", "one", "two"] (sp8two K t 5) :=
  two8 (ok_common T) (okb_common T) fun kk x y vx vy H Q E hk nx ny bx by_ q => by
    rw [out_none hk (by simp) (by simp)] at q
    exact ⟨kk, x, y, vx, vy, rfl, hk, bx.mono (by decide), by_.mono (by decide), nx, ny, fun p H' g a b s _ _ _ _ _ _ _ => q _ H' s⟩
theorem ok8_size {k : Nat} (T : Txt K mg t) : FnOk P w K mg base (CXL P w) (k + 14) t.f_size t.d_size ["kind", "one"] (sp8one K t 6) :=
  one8 (ok_size T) (okb_size T) fun kk x y vx H Q E hk nx bx q => by
    rw [out_none hk (by simp) (by simp)] at q
    exact ⟨kk, x, vx, rfl, hk, nx, f12 bx, q _ H (Same.refl _)⟩
theorem ok8_is_unit {k : Nat} (T : Txt K mg t) : FnOk P w K mg base (CXL P w) (k + 14) t.f_is_unit t.d_is_unit ["kind", "one"] (sp8one K t 7) :=
  one8 (ok_is_unit T) (okb_is_unit T) fun kk x y vx H Q E hk nx bx q => by
    rw [out_none hk (by simp) (by simp)] at q
    exact ⟨kk, x, vx, rfl, hk, nx, f12 bx, fun b H' s _ => q _ H' s⟩
theorem ok8_turned {k : Nat} (T : Txt K mg t) : FnOk P w K mg base (CXL P w) (k + 14) t.f_turned t.d_turned ["kind", "one"] (sp8one K t 8) :=
  one8 (ok_turned T) (okb_turned T) fun kk x y vx H Q E hk nx bx q => by
    refine ⟨kk, x, vx, rfl, hk, nx, f12 bx, fun e H' s => ?_, fun e v z H' s _ _ => ?_⟩
    · rw [out_unit hk (by simp) ⟨.inl rfl, e⟩] at q
      exact q H' s
    · rw [out_none hk (by simp) (fun z => z.2 e)] at q
      exact q _ H' s
theorem ok8_told_unit {k : Nat} (T : Txt K mg t) : FnOk P w K mg base (CXL P w) (k + 14) t.f_told_unit t.d_told_unit ["kind", "one"] (sp8one K t 9) :=
  one8 (ok_told_unit T) (okb_told_unit T) fun kk x y vx H Q E hk nx bx q => by
    refine ⟨kk, x, vx, rfl, hk, nx, b12' bx, fun e H' s => ?_, fun e v H' sm => ?_⟩
    · rw [out_unit hk (by simp) ⟨.inr rfl, e⟩] at q
      exact q H' s
    · rw [out_none hk (by simp) (fun z => z.2 e)] at q
      exact q _ H' sm
theorem ok8_parts {k : Nat} (T : Txt K mg t) : FnOk P w K mg base (CXL P w) (k + 14) t.f_parts t.d_parts ["kind", "one"] (sp8one K t 10) :=
  one8 (ok_parts T) (okb_parts T) fun kk x y vx H Q E hk nx bx q => by
    refine ⟨kk, x, vx, rfl, hk, bx.mono (by decide), nx, fun e => ?_, fun e p l ps H' s _ _ => ?_⟩
    · rw [out_nought hk (.inr ⟨rfl, e⟩)] at q
      exact q _ (Same.refl _)
    · rw [out_none hk (by simp [e]) (by simp)] at q
      exact q _ H' s
theorem ok8_parts_no_further {k : Nat} (T : Txt K mg t) : FnOk P w K mg base (CXL P w) (k + 14) t.f_parts_no_further t.d_parts_no_further ["kind", "one"] (sp8one K t 11) :=
  one8 (ok_parts_no_further T) (okb_parts_no_further T) fun kk x y vx H Q E hk nx bx q => by
    rw [out_none hk (by simp) (by simp)] at q
    exact ⟨kk, x, vx, rfl, hk, bx.mono (by decide), nx, fun b H' s _ => q _ H' s⟩
theorem ok8_unit_of {k : Nat} (T : Txt K mg t) : FnOk P w K mg base (CXL P w) (k + 14) t.f_unit_of t.d_unit_of ["kind", "sign", "times"] (sp8unit t) := by
  refine (ok_unit_of T).via (okb_unit_of T) fun vs H Q E q => ?_
  obtain ⟨kk, j, x, y, rfl, hj, q⟩ := q
  by_cases hk : TF.Kind kk
  · rw [out_none hk (by simp) (by simp)] at q
    exact .inl ⟨kk, 1, j, rfl, hk, .inl rfl, by omega, fun v H' s _ => q _ H' s⟩
  · rw [out_bad hk] at q
    exact .inr ⟨kk, [.int 1, .int j], rfl, rfl, hk, q⟩
theorem Sp8.imp {o : Option Nat} {H : Hp} {Q Q' : VK} {E E' : XK} (h : Sp8 t o H Q E) (hq : ∀ v H', Q v H' → Q' v H') (he : ∀ C H', E C none H' → E' C none H') : Sp8 t o H Q' E' := by
  cases o with
  | none => exact fun v H' s => hq _ _ (h v H' s)
  | some c => exact fun H' s => he _ _ (h H' s)
def Done8 (t : Adr) (o : Option Nat) (H : Hp) (Q : VK) (E : XK) : Prop := Sp8 t o H (fun _ H' => Q .non H') E
def sp_law_two_ways (K : PySem.W.Frag) (t : Adr) : Sp := fun vs H Q E => ∃ (wh : Nat) (k : Int) (x y : P2) (vx vy : V), vs = [.int (wh : Int), .int k, vx, vy] ∧ wh < 6 ∧ NumV K H vx x ∧ NumV K H vy y ∧ Bd 12 x ∧ Bd 12 y ∧ Done8 t (out8 wh k x y) H Q E
theorem ok_law_two_ways {k : Nat} (T : Txt K mg t) : FnOk P w K mg base (CXL P w) (k + 7) t.f_law_two_ways t.d_law_two_ways ["_law_which", "_law_kind", "_law_one", "_law_two"] (sp_law_two_ways K t) := by
  refine T.d_law_two_ways.F.okX sc_law_two_ways (fun vs H Q E h => ?_) (fun cdv A outer s H vs Q E hr h => ?_)
  · obtain ⟨wh, kk, x, y, vx, vy, rfl, _⟩ := h
    rfl
  · obtain ⟨wh, kk, x, y, vx, vy, rfl, hw, nx, ny, bx, by_, q⟩ := h
    refine ⟨_, (pss_one (ps_if (pt_cmpR op_eq (pv 0) pe_int nmEq) (pss_one (ps_expr (pe_call (ok8_added T) hr rfl T.d_added.m T.d_added.F.kp T.d_added.b .nil passX (pa_cons (pv 1) (pa_cons (pv 2) (pa_cons (pv 3) pa_nil (hs := seN)) (hs := seN)) (hs := seN))))) (pss_one (ps_if (pt_cmpR op_eq (pv 0) pe_int nmEq) (pss_one (ps_expr (pe_call (ok8_multiplied T) hr rfl T.d_multiplied.m T.d_multiplied.F.kp T.d_multiplied.b .nil passX (pa_cons (pv 1) (pa_cons (pv 2) (pa_cons (pv 3) pa_nil (hs := seN)) (hs := seN)) (hs := seN))))) (pss_one (ps_if (pt_cmpR op_eq (pv 0) pe_int nmEq) (pss_one (ps_expr (pe_call (ok8_split T) hr rfl T.d_split.m T.d_split.F.kp T.d_split.b .nil passX (pa_cons (pv 1) (pa_cons (pv 2) (pa_cons (pv 3) pa_nil (hs := seN)) (hs := seN)) (hs := seN))))) (pss_one (ps_if (pt_cmpR op_eq (pv 0) pe_int nmEq) (pss_one (ps_expr (pe_call (ok8_divides T) hr rfl T.d_divides.m T.d_divides.F.kp T.d_divides.b .nil passX (pa_cons (pv 1) (pa_cons (pv 2) (pa_cons (pv 3) pa_nil (hs := seN)) (hs := seN)) (hs := seN))))) (pss_one (ps_if (pt_cmpR op_eq (pv 0) pe_int nmEq) (pss_one (ps_expr (pe_call (ok8_alike T) hr rfl T.d_alike.m T.d_alike.F.kp T.d_alike.b .nil passX (pa_cons (pv 1) (pa_cons (pv 2) (pa_cons (pv 3) pa_nil (hs := seN)) (hs := seN)) (hs := seN))))) (pss_one (ps_expr (pe_call (ok8_common T) hr rfl T.d_common.m T.d_common.F.kp T.d_common.b .nil passX (pa_cons (pv 1) (pa_cons (pv 2) (pa_cons (pv 3) pa_nil (hs := seN)) (hs := seN)) (hs := seN))))))))))))))), ?_⟩
    match wh, hw, q with
    | 0, _, q => exact ⟨_, rfl, rfl, _, rfl, ifT rfl ⟨_, rfl, _, rfl, _, rfl, kk, x, y, _, _, rfl, nx, ny, bx, by_, q⟩⟩
    | 1, _, q => exact ⟨_, rfl, rfl, _, rfl, ifF rfl ⟨_, rfl, rfl, _, rfl, ifT rfl ⟨_, rfl, _, rfl, _, rfl, kk, x, y, _, _, rfl, nx, ny, bx, by_, q⟩⟩⟩
    | 2, _, q => exact ⟨_, rfl, rfl, _, rfl, ifF rfl ⟨_, rfl, rfl, _, rfl, ifF rfl ⟨_, rfl, rfl, _, rfl, ifT rfl ⟨_, rfl, _, rfl, _, rfl, kk, x, y, _, _, rfl, nx, ny, bx, by_, q⟩⟩⟩⟩
    | 3, _, q => exact ⟨_, rfl, rfl, _, rfl, ifF rfl ⟨_, rfl, rfl, _, rfl, ifF rfl ⟨_, rfl, rfl, _, rfl, ifF rfl ⟨_, rfl, rfl, _, rfl, ifT rfl ⟨_, rfl, _, rfl, _, rfl, kk, x, y, _, _, rfl, nx, ny, bx, by_, q⟩⟩⟩⟩⟩
    | 4, _, q => exact ⟨_, rfl, rfl, _, rfl, ifF rfl ⟨_, rfl, rfl, _, rfl, ifF rfl ⟨_, rfl, rfl, _, rfl, ifF rfl ⟨_, rfl, rfl, _, rfl, ifF rfl ⟨_, rfl, rfl, _, rfl, ifT rfl ⟨_, rfl, _, rfl, _, rfl, kk, x, y, _, _, rfl, nx, ny, bx, by_, q⟩⟩⟩⟩⟩⟩
    | 5, _, q => exact ⟨_, rfl, rfl, _, rfl, ifF rfl ⟨_, rfl, rfl, _, rfl, ifF rfl ⟨_, rfl, rfl, _, rfl, ifF rfl ⟨_, rfl, rfl, _, rfl, ifF rfl ⟨_, rfl, rfl, _, rfl, ifF rfl ⟨_, rfl, _, rfl, _, rfl, kk, x, y, _, _, rfl, nx, ny, bx, by_, q⟩⟩⟩⟩⟩⟩
def sp_law_one_way (K : PySem.W.Frag) (t : Adr) : Sp := fun vs H Q E => ∃ (wh : Nat) (k : Int) (x y : P2) (vx : V), vs = [.int (wh : Int), .int k, vx] ∧ 6 ≤ wh ∧ wh ≤ 12 ∧ NumV K H vx x ∧ Bd 12 x ∧ Done8 t (out8 wh k x y) H Q E
theorem ok_law_one_way {k : Nat} (T : Txt K mg t) : FnOk P w K mg base (CXL P w) (k + 15) t.f_law_one_way t.d_law_one_way ["_law_which", "_law_kind", "_law_one"] (sp_law_one_way K t) := by
  refine T.d_law_one_way.F.okX sc_law_one_way (fun vs H Q E h => ?_) (fun cdv A outer s H vs Q E hr h => ?_)
  · obtain ⟨wh, kk, x, y, vx, rfl, _⟩ := h
    rfl
  · obtain ⟨wh, kk, x, y, vx, rfl, h6, h12, nx, bx, q⟩ := h
    refine ⟨_, (pss_one (ps_if (pt_cmpR op_eq (pv 0) pe_int nmEq) (pss_one (ps_expr (pe_call (ok8_size T) hr rfl T.d_size.m T.d_size.F.kp T.d_size.b .nil passX (pa_cons (pv 1) (pa_cons (pv 2) pa_nil (hs := seN)) (hs := seN))))) (pss_one (ps_if (pt_cmpR op_eq (pv 0) pe_int nmEq) (pss_one (ps_expr (pe_call (ok8_is_unit T) hr rfl T.d_is_unit.m T.d_is_unit.F.kp T.d_is_unit.b .nil passX (pa_cons (pv 1) (pa_cons (pv 2) pa_nil (hs := seN)) (hs := seN))))) (pss_one (ps_if (pt_cmpR op_eq (pv 0) pe_int nmEq) (pss_one (ps_expr (pe_call (ok8_turned T) hr rfl T.d_turned.m T.d_turned.F.kp T.d_turned.b .nil passX (pa_cons (pv 1) (pa_cons (pv 2) pa_nil (hs := seN)) (hs := seN))))) (pss_one (ps_if (pt_cmpR op_eq (pv 0) pe_int nmEq) (pss_one (ps_expr (pe_call (ok8_told_unit T) hr rfl T.d_told_unit.m T.d_told_unit.F.kp T.d_told_unit.b .nil passX (pa_cons (pv 1) (pa_cons (pv 2) pa_nil (hs := seN)) (hs := seN))))) (pss_one (ps_if (pt_cmpR op_eq (pv 0) pe_int nmEq) (pss_one (ps_expr (pe_call (ok8_parts T) hr rfl T.d_parts.m T.d_parts.F.kp T.d_parts.b .nil passX (pa_cons (pv 1) (pa_cons (pv 2) pa_nil (hs := seN)) (hs := seN))))) (pss_one (ps_if (pt_cmpR op_eq (pv 0) pe_int nmEq) (pss_one (ps_expr (pe_call (ok8_parts_no_further T) hr rfl T.d_parts_no_further.m T.d_parts_no_further.F.kp T.d_parts_no_further.b .nil passX (pa_cons (pv 1) (pa_cons (pv 2) pa_nil (hs := seN)) (hs := seN))))) (pss_one (ps_expr (pe_call (ok8_unit_of T) hr rfl T.d_unit_of.m T.d_unit_of.F.kp T.d_unit_of.b .nil passX (pa_cons (pv 1) (pa_cons pe_int (pa_cons (pe_n0 (pv 2)) pa_nil (hs := seS)) (hs := seK)) (hs := seN))))))))))))))))), ?_⟩
    have hw : wh = 6 ∨ wh = 7 ∨ wh = 8 ∨ wh = 9 ∨ wh = 10 ∨ wh = 11 ∨ wh = 12 := by omega
    rcases hw with rfl | rfl | rfl | rfl | rfl | rfl | rfl
    · exact ⟨_, rfl, rfl, _, rfl, ifT rfl ⟨_, rfl, _, rfl, kk, x, y, _, rfl, nx, bx, q⟩⟩
    · exact ⟨_, rfl, rfl, _, rfl, ifF rfl ⟨_, rfl, rfl, _, rfl, ifT rfl ⟨_, rfl, _, rfl, kk, x, y, _, rfl, nx, bx, q⟩⟩⟩
    · exact ⟨_, rfl, rfl, _, rfl, ifF rfl ⟨_, rfl, rfl, _, rfl, ifF rfl ⟨_, rfl, rfl, _, rfl, ifT rfl ⟨_, rfl, _, rfl, kk, x, y, _, rfl, nx, bx, q⟩⟩⟩⟩
    · exact ⟨_, rfl, rfl, _, rfl, ifF rfl ⟨_, rfl, rfl, _, rfl, ifF rfl ⟨_, rfl, rfl, _, rfl, ifF rfl ⟨_, rfl, rfl, _, rfl, ifT rfl ⟨_, rfl, _, rfl, kk, x, y, _, rfl, nx, bx, q⟩⟩⟩⟩⟩
    · exact ⟨_, rfl, rfl, _, rfl, ifF rfl ⟨_, rfl, rfl, _, rfl, ifF rfl ⟨_, rfl, rfl, _, rfl, ifF rfl ⟨_, rfl, rfl, _, rfl, ifF rfl ⟨_, rfl, rfl, _, rfl, ifT rfl ⟨_, rfl, _, rfl, kk, x, y, _, rfl, nx, bx, q⟩⟩⟩⟩⟩⟩
    · exact ⟨_, rfl, rfl, _, rfl, ifF rfl ⟨_, rfl, rfl, _, rfl, ifF rfl ⟨_, rfl, rfl, _, rfl, ifF rfl ⟨_, rfl, rfl, _, rfl, ifF rfl ⟨_, rfl, rfl, _, rfl, ifF rfl ⟨_, rfl, rfl, _, rfl, ifT rfl ⟨_, rfl, _, rfl, kk, x, y, _, rfl, nx, bx, q⟩⟩⟩⟩⟩⟩⟩
    · exact ⟨_, rfl, rfl, _, rfl, ifF rfl ⟨_, rfl, rfl, _, rfl, ifF rfl ⟨_, rfl, rfl, _, rfl, ifF rfl ⟨_, rfl, rfl, _, rfl, ifF rfl ⟨_, rfl, rfl, _, rfl, ifF rfl ⟨_, rfl, rfl, _, rfl, ifF rfl ⟨_, rfl, _, rfl, _, nx, kk, x.1, x, y, rfl, bx.1, q⟩⟩⟩⟩⟩⟩⟩
def sp_law_said (K : PySem.W.Frag) : Sp := fun vs H Q E => ∃ (wh : Nat) (k : Int) (x y : P2) (vx vy : V), vs = [.int (wh : Int), .int k, vx, vy] ∧ wh ≤ 12 ∧ NumV K H vx x ∧ NumV K H vy y ∧ Bd 12 x ∧ Bd 12 y ∧ ∀ H', Same H H' → Q (.str (word8 (out8 wh k x y))) H'
theorem out8_lt {wh : Nat} {k : Int} {x y : P2} {c : Nat} (h : out8 wh k x y = some c) : c = 0 ∨ c = 1 ∨ c = 2 := by
  unfold out8 at h
  split at h
  · cases h; exact .inl rfl
  · split at h
    · cases h; exact .inr (.inl rfl)
    · split at h
      · cases h; exact .inr (.inr rfl)
      · cases h
theorem len5 {σ : L2.St} (h : σ.length = 5) : ∃ a b c d e, σ = [a, b, c, d, e] := by
  match σ, h with
  | [a, b, c, d, e], _ => exact ⟨a, b, c, d, e, rfl⟩
theorem len6 {σ : L2.St} (h : σ.length = 6) : ∃ a b c d e f, σ = [a, b, c, d, e, f] := by
  match σ, h with
  | [a, b, c, d, e, f], _ => exact ⟨a, b, c, d, e, f, rfl⟩
theorem ok_law_said {k : Nat} (T : Txt K mg t) : FnOk P w K mg base (CXL P w) (k + 16) t.f_law_said t.d_law_said ["_law_which", "_law_kind", "_law_one", "_law_two"] (sp_law_said K) := by
  refine T.d_law_said.F.okL sc_law_said (fun vs H Q E h => ?_) (fun cdv A outer s H vs Q E hr h => ?_)
  · obtain ⟨wh, kk, x, y, vx, vy, rfl, _⟩ := h
    rfl
  · obtain ⟨wh, kk, x, y, vx, vy, rfl, hw, nx, ny, bx, by_, q⟩ := h
    refine ⟨_, (pss_cons (ps_set (i := 4) sc_law_said.nd rfl (by first | exact Or.inl rfl | exact Or.inr rfl) pe_str)
      (pss_cons (ps_tryH (E' := (fun Cv _ H' => ∃ c, out8 wh kk x y = some c ∧ Cv = .ref (cls8 t c) ∧ Same H H')) rfl rfl rfl (fun pn xe hp => (pss_one (ps_if (pt_cmpR op_lt (pv 0) pe_int nmLt) (pss_one (ps_expr (pe_call (ok_law_two_ways T) hr rfl T.d_law_two_ways.m T.d_law_two_ways.F.kp T.d_law_two_ways.b .nil hp (pa_cons (pv 0) (pa_cons (pv 1) (pa_cons (pv 2) (pa_cons (pv 3) pa_nil (hs := seN)) (hs := seN)) (hs := seN)) (hs := seN))))) (pss_one (ps_expr (pe_call (ok_law_one_way T) hr rfl T.d_law_one_way.m T.d_law_one_way.F.kp T.d_law_one_way.b .nil hp (pa_cons (pv 0) (pa_cons (pv 1) (pa_cons (pv 2) pa_nil (hs := seN)) (hs := seN)) (hs := seN)))))))) (ph_cons T.x_BadKind rfl rfl (fun ev => (pss_one (ps_set (i := 4) sc_law_said.nd rfl (by first | exact Or.inl rfl | exact Or.inr rfl) pe_str))) (ph_cons T.x_ByNought rfl rfl (fun ev => (pss_one (ps_set (i := 4) sc_law_said.nd rfl (by first | exact Or.inl rfl | exact Or.inr rfl) pe_str))) (ph_cons T.x_NoUnit rfl rfl (fun ev => (pss_one (ps_set (i := 4) sc_law_said.nd rfl (by first | exact Or.inl rfl | exact Or.inr rfl) pe_str))) ph_nil))))
      (pss_one (ps_ret (pv 4))))), ?_⟩
    refine ⟨⟨_, rfl, _, _, rfl, rfl, _, rfl, if2 (fun c => ?_) (fun c => ?_)⟩, fun Cv σ' H' ⟨c, e1, e2, e3⟩ hl => ?_⟩
    · have hw6 : wh < 6 := by have := of_decide_eq_true c; omega
      refine ⟨_, rfl, _, rfl, _, rfl, _, rfl, wh, kk, x, y, _, _, rfl, hw6, nx, ny, bx, by_, ?_⟩
      cases ho : out8 wh kk x y with
      | none => exact fun v H' s => ⟨_, rfl, by have := q H' s; rw [ho] at this; exact this⟩
      | some c => exact fun H' s => ⟨c, rfl, rfl, s⟩
    · have hw6 : 6 ≤ wh := by have := of_decide_eq_false c; omega
      refine ⟨_, rfl, _, rfl, _, rfl, wh, kk, x, y, _, rfl, hw6, hw, nx, bx, ?_⟩
      cases ho : out8 wh kk x y with
      | none => exact fun v H' s => ⟨_, rfl, by have := q H' s; rw [ho] at this; exact this⟩
      | some c => exact fun H' s => ⟨c, rfl, rfl, s⟩
    · have q := q H' e3
      rw [e1] at q
      refine ⟨_, e2, ?_⟩
      obtain ⟨p1, p2, p3, p4, p5, rfl⟩ := len5 hl
      rcases out8_lt e1 with rfl | rfl | rfl
      · exact ⟨_, T.m_BadKind_BadKind, ifT rfl fun _ => ⟨_, rfl, q⟩⟩
      · exact ⟨_, T.m_ByNought_BadKind, ifF rfl ⟨_, T.m_ByNought_ByNought, ifT rfl fun _ => ⟨_, rfl, q⟩⟩⟩
      · exact ⟨_, T.m_NoUnit_BadKind, ifF rfl ⟨_, T.m_NoUnit_ByNought, ifF rfl ⟨_, T.m_NoUnit_NoUnit, ifT rfl fun _ => ⟨_, rfl, q⟩⟩⟩⟩
def sp_law_refuses (K : PySem.W.Frag) : Sp := fun vs H Q E => ∃ (wh : Nat) (k : Int) (x y : P2) (vx vy : V), vs = [.int (wh : Int), .int k, vx, vy] ∧ wh ≤ 12 ∧ NumV K H vx x ∧ NumV K H vy y ∧ Bd 12 x ∧ Bd 12 y ∧ ∀ H', Same H H' → Q (.bl (out8 wh k x y).isSome) H'
theorem is8 {c : Nat} (hc : c = 0 ∨ c = 1 ∨ c = 2) (T : Txt K mg t) : ∃ b0 b1 b2, PySem.W.exmOne K (.ref (cls8 t c)) (.ref t.a_FoldError) = some true ∧ ExcQ K (cls8 t c) ∧ PySem.W.kitOne K (.ref (cls8 t c)) (.ref t.a_BadKind) = some b0 ∧ PySem.W.kitOne K (.ref (cls8 t c)) (.ref t.a_ByNought) = some b1 ∧
    PySem.W.kitOne K (.ref (cls8 t c)) (.ref t.a_NoUnit) = some b2 ∧ PySem.W.kitOne K (.ref (cls8 t c)) (.ref t.a_NoLine) = some false ∧ PySem.W.kitOne K (.ref (cls8 t c)) (.type "ValueError") = some true ∧ PySem.Spec.countIn (.bool true) ([b0, b1, b2, false].map PyData.bool) = 1 := by
  rcases hc with rfl | rfl | rfl
  · exact ⟨_, _, _, T.m_BadKind_FoldError, T.q_BadKind, T.i_BadKind_BadKind, T.i_BadKind_ByNought, T.i_BadKind_NoUnit, T.i_BadKind_NoLine, T.i_BadKind_ValueError, by decide⟩
  · exact ⟨_, _, _, T.m_ByNought_FoldError, T.q_ByNought, T.i_ByNought_BadKind, T.i_ByNought_ByNought, T.i_ByNought_NoUnit, T.i_ByNought_NoLine, T.i_ByNought_ValueError, by decide⟩
  · exact ⟨_, _, _, T.m_NoUnit_FoldError, T.q_NoUnit, T.i_NoUnit_BadKind, T.i_NoUnit_ByNought, T.i_NoUnit_NoUnit, T.i_NoUnit_NoLine, T.i_NoUnit_ValueError, by decide⟩
theorem ok_law_refuses {k : Nat} (T : Txt K mg t) : FnOk P w K mg base (CXL P w) (k + 16) t.f_law_refuses t.d_law_refuses ["_law_which", "_law_kind", "_law_one", "_law_two"] (sp_law_refuses K) := by
  refine T.d_law_refuses.F.okL sc_law_refuses (fun vs H Q E h => ?_) (fun cdv A outer s H vs Q E hr h => ?_)
  · obtain ⟨wh, kk, x, y, vx, vy, rfl, _⟩ := h
    rfl
  · obtain ⟨wh, kk, x, y, vx, vy, rfl, hw, nx, ny, bx, by_, q⟩ := h
    refine ⟨_, (pss_cons (ps_tryH (E' := (fun Cv _ H' => ∃ c, out8 wh kk x y = some c ∧ Cv = .ref (cls8 t c) ∧ Same H H')) rfl rfl rfl (fun pn xe hp => (pss_one (ps_if (pt_cmpR op_lt (pv 0) pe_int nmLt) (pss_one (ps_expr (pe_call (ok_law_two_ways T) hr rfl T.d_law_two_ways.m T.d_law_two_ways.F.kp T.d_law_two_ways.b .nil hp (pa_cons (pv 0) (pa_cons (pv 1) (pa_cons (pv 2) (pa_cons (pv 3) pa_nil (hs := seN)) (hs := seN)) (hs := seN)) (hs := seN))))) (pss_one (ps_expr (pe_call (ok_law_one_way T) hr rfl T.d_law_one_way.m T.d_law_one_way.F.kp T.d_law_one_way.b .nil hp (pa_cons (pv 0) (pa_cons (pv 1) (pa_cons (pv 2) pa_nil (hs := seN)) (hs := seN)) (hs := seN)))))))) (ph_as (i := 5) T.x_FoldError rfl rfl rfl sc_law_refuses.nd rfl rfl (fun ev => (pss_cons (ps_set (i := 4) sc_law_refuses.nd rfl (by first | exact Or.inl rfl | exact Or.inr rfl) (pe_lstS (pa_cons (pe_callB call_isX rfl T.b_isinstance bt_isinstance (pa_cons (pv 5) (pa_cons (pe_glob (v := .ref t.a_BadKind) rfl T.x_BadKind.m rfl) pa_nil (hs := seN)) (hs := seN))) (pa_cons (pe_callB call_isX rfl T.b_isinstance bt_isinstance (pa_cons (pv 5) (pa_cons (pe_glob (v := .ref t.a_ByNought) rfl T.x_ByNought.m rfl) pa_nil (hs := seN)) (hs := seN))) (pa_cons (pe_callB call_isX rfl T.b_isinstance bt_isinstance (pa_cons (pv 5) (pa_cons (pe_glob (v := .ref t.a_NoUnit) rfl T.x_NoUnit.m rfl) pa_nil (hs := seN)) (hs := seN))) pa_nil (hs := seC)) (hs := seC)) (hs := seC))))
      (pss_cons (ps_set (i := 4) sc_law_refuses.nd rfl (by first | exact Or.inl rfl | exact Or.inr rfl) (pe_op op_cat (pv 4) (pe_lstS (pa_cons (pe_callB call_isX rfl T.b_isinstance bt_isinstance (pa_cons (pv 5) (pa_cons (pe_glob (v := .ref t.a_NoLine) rfl T.x_NoLine.m rfl) pa_nil (hs := seN)) (hs := seN))) pa_nil (hs := seC)))))
      (pss_one (ps_ret (pe_and (pe_callB call_isX rfl T.b_isinstance bt_isinstance (pa_cons (pv 5) (pa_cons (pe_bltn rfl T.b_ValueError bt_ValueError (v := .ty "ValueError") rfl) pa_nil (hs := seN)) (hs := seN))) (pe_one (pe_cmpR op_eq (pe_bm PySem.F.plainAttrs_list PySem.F.slot_list_count PySem.F.type_list_count mt_countB (pv 4) (pa_cons pe_bl pa_nil (hs := seK))) pe_int nmEq)))))))) ph_nil))
      (pss_one (ps_ret pe_bl))), ?_⟩
    refine ⟨⟨_, rfl, _, _, rfl, rfl, _, rfl, if2 (fun c => ?_) (fun c => ?_)⟩, fun Cv σ' H' ⟨c, e1, e2, e3⟩ hl => ?_⟩
    · have hw6 : wh < 6 := by have := of_decide_eq_true c; omega
      refine ⟨_, rfl, _, rfl, _, rfl, _, rfl, wh, kk, x, y, _, _, rfl, hw6, nx, ny, bx, by_, ?_⟩
      cases ho : out8 wh kk x y with
      | none => exact fun v H' s => by have := q H' s; rw [ho] at this; exact this
      | some c => exact fun H' s => ⟨c, rfl, rfl, s⟩
    · have hw6 : 6 ≤ wh := by have := of_decide_eq_false c; omega
      refine ⟨_, rfl, _, rfl, _, rfl, wh, kk, x, y, _, rfl, hw6, hw, nx, bx, ?_⟩
      cases ho : out8 wh kk x y with
      | none => exact fun v H' s => by have := q H' s; rw [ho] at this; exact this
      | some c => exact fun H' s => ⟨c, rfl, rfl, s⟩
    · obtain ⟨b0, b1, b2, hm, hq, i0, i1, i2, i3, iv, hcount⟩ := is8 (out8_lt e1) T
      refine ⟨_, e2, true, hm, ifT rfl fun e he => ?_⟩
      obtain ⟨p1, p2, p3, p4, p5, p6, rfl⟩ := len6 hl
      have hE : upd H' e (.ext (AtC e (cls8 t c))) e = some (.ext (AtC e (cls8 t c))) := upd_same
      have s0 : Same H' (upd H' e (.ext (AtC e (cls8 t c)))) := Same.up he
      generalize upd H' e (.ext (AtC e (cls8 t c))) = H1 at hE s0
      refine ⟨_, rfl, _, _, _, _, _, rfl, .own _, hE, hq, i0, _, rfl, _, _, _, _, _, rfl, .own _, hE, hq, i1, _, rfl, _, _, _, _, _, rfl, .own _, hE, hq, i2, sz3, fun pl H2 s2 _ hpl => ?_⟩
      have hE2 := s2 _ _ hE
      refine ⟨_, rfl, _, rfl, _, _, _, _, _, rfl, .own _, hE2, hq, i3, sz1, fun pm H3 s3 _ hpm => ?_⟩
      have hpl3 := s3 _ _ hpl
      refine ⟨_, _, _, _, rfl, rfl, hpl3, hpm, (by show 4 ≤ sizeLine; decide), fun pc hpc => ?_⟩
      have sC : Same H3 (upd H3 pc (.lst ([.bl b0, .bl b1, .bl b2] ++ [.bl false]))) := Same.up hpc
      have hc : upd H3 pc (.lst ([.bl b0, .bl b1, .bl b2] ++ [.bl false])) pc = some (.lst ([b0, b1, b2, false].map V.bl)) := upd_same
      generalize upd H3 pc (.lst ([.bl b0, .bl b1, .bl b2] ++ [.bl false])) = H4 at sC hc
      have hE4 := sC _ _ (s3 _ _ hE2)
      have q := q H4 (e3.trans (s0.trans (s2.trans (s3.trans sC))))
      rw [e1] at q
      refine ⟨_, rfl, _, _, _, _, _, rfl, .ty _, hE4, hq, iv, _, rfl, iteT ?_⟩
      refine ⟨_, rfl, .inl ⟨rfl, _, SqL.of hc⟩, _, _, _, rfl, rfl, SqL.of hc, ?_⟩
      rw [hcount]
      exact ⟨rfl, q⟩
def sp_law (K : PySem.W.Frag) : Sp := fun vs H Q _ => ∃ (a : Addr) (ns : List Int), vs = [.ref a] ∧ SqL K H a (ns.map V.int) ∧ ns.length ≤ 63 ∧ ∀ H', Q (.bl true) H'
theorem at10 {α : Type} (a b c d e f g h i j : α) (n : Int) : ∃ v, atI [a, b, c, d, e, f, g, h, i, j] (n % 10) = some v ∧ (v = a ∨ v = b ∨ v = c ∨ v = d ∨ v = e ∨ v = f ∨ v = g ∨ v = h ∨ v = i ∨ v = j) := by
  have hh : n % 10 = 0 ∨ n % 10 = 1 ∨ n % 10 = 2 ∨ n % 10 = 3 ∨ n % 10 = 4 ∨ n % 10 = 5 ∨ n % 10 = 6 ∨ n % 10 = 7 ∨ n % 10 = 8 ∨ n % 10 = 9 := by omega
  rcases hh with z | z | z | z | z | z | z | z | z | z <;> rw [z]
  · exact ⟨a, rfl, by simp⟩
  · exact ⟨b, rfl, by simp⟩
  · exact ⟨c, rfl, by simp⟩
  · exact ⟨d, rfl, by simp⟩
  · exact ⟨e, rfl, by simp⟩
  · exact ⟨f, rfl, by simp⟩
  · exact ⟨g, rfl, by simp⟩
  · exact ⟨h, rfl, by simp⟩
  · exact ⟨i, rfl, by simp⟩
  · exact ⟨j, rfl, by simp⟩
theorem at6 {α : Type} (a b c d e f : α) (n : Int) : ∃ v, atI [a, b, c, d, e, f] (n % 6) = some v ∧ (v = a ∨ v = b ∨ v = c ∨ v = d ∨ v = e ∨ v = f) := by
  have hh : n % 6 = 0 ∨ n % 6 = 1 ∨ n % 6 = 2 ∨ n % 6 = 3 ∨ n % 6 = 4 ∨ n % 6 = 5 := by omega
  rcases hh with z | z | z | z | z | z <;> rw [z]
  · exact ⟨a, rfl, by simp⟩
  · exact ⟨b, rfl, by simp⟩
  · exact ⟨c, rfl, by simp⟩
  · exact ⟨d, rfl, by simp⟩
  · exact ⟨e, rfl, by simp⟩
  · exact ⟨f, rfl, by simp⟩
def due1 (j : Nat) (x y : P2) : Option Nat := if j = 2 ∧ y = (0, 0) ∨ j = 10 ∧ x = (0, 0) then some 1 else none
def due2 (j : Nat) (k : Int) (x y : P2) : Option Nat := if (j = 8 ∨ j = 9) ∧ (TF.nm k x).natAbs ≠ 1 then some 2 else due1 j x y
theorem due_out (j : Nat) (k : Int) (x y : P2) : (if ¬ TF.Kind k then some 0 else due2 j k x y) = out8 j k x y := by
  unfold out8 due2 due1
  by_cases hk : TF.Kind k
  · simp only [hk, not_true_eq_false, if_false]
    by_cases h1 : (j = 8 ∨ j = 9) ∧ (TF.nm k x).natAbs ≠ 1
    · have h2 : ¬ (j = 2 ∧ y = (0, 0) ∨ j = 10 ∧ x = (0, 0)) := by omega
      rw [if_pos h1, if_neg h2, if_pos h1]
    · rw [if_neg h1, if_neg h1]
  · simp only [hk, not_false_eq_true, if_true]
theorem inV_iff {z : Int} : ∀ {as : List Int}, inV (.int z) (as.map V.int) = true ↔ z ∈ as
  | [] => by simp [inV]
  | a :: as => by
    have ih := inV_iff (z := z) (as := as)
    unfold inV at ih ⊢
    rw [List.map_cons, List.any_cons, Bool.or_eq_true, ih, List.mem_cons]
    have e : (eqV (.int a) (.int z) = true) ↔ z = a := by
      show (a == z) = true ↔ z = a
      rw [beq_iff_eq]
      exact eq_comm
    rw [e]
theorem word_done {wh : Nat} {k : Int} {x y : P2} : (out8 wh k x y).isSome = !decide (V.str (word8 (out8 wh k x y)) = V.str "done") := by
  cases ho : out8 wh k x y with
  | none => simp [word8]
  | some c => rcases out8_lt ho with rfl | rfl | rfl <;> (simp only [word8, Option.isSome_some, V.str.injEq]; decide +kernel)
theorem ok_law {k : Nat} (T : Txt K mg t) : FnOk P w K mg base (CXL P w) (k + 18) t.f_law t.d_law ["_law_script"] (sp_law K) := by
  refine T.d_law.F.okL sc_law (fun vs H Q E h => ?_) (fun cdv A outer s H vs Q E hr h => ?_)
  · obtain ⟨a, ns, rfl, _⟩ := h
    rfl
  · obtain ⟨a, ns, rfl, hS, hlen, q⟩ := h
    refine ⟨_, (pss_cons (ps_set (i := 0) sc_law.nd rfl (by first | exact Or.inl rfl | exact Or.inr rfl) (pe_slice sl_list (pv 0) po_none (po_some pe_int)))
      (pss_cons (ps_set (i := 1) sc_law.nd rfl (by first | exact Or.inl rfl | exact Or.inr rfl) (pe_ix ix_list (pe_lstS (pa_cons (pe_un un_neg pe_int) (pa_cons (pe_un un_neg pe_int) (pa_cons pe_int (pa_cons pe_int (pa_cons (pe_un un_neg pe_int) (pa_cons pe_int (pa_cons pe_int (pa_cons pe_int (pa_cons pe_int (pa_cons (pe_op op_pow pe_int pe_int) pa_nil (hs := seB)) (hs := seK)) (hs := seK)) (hs := seK)) (hs := seK)) (hs := seU)) (hs := seK)) (hs := seK)) (hs := seU)) (hs := seU))) (pe_op op_mod (pe_call (ok_law_at T) hr rfl T.d_law_at.m T.d_law_at.F.kp T.d_law_at.b .nil passL (pa_cons (pv 0) (pa_cons pe_int pa_nil (hs := seK)) (hs := seN))) pe_int) (fun _ _ => by with_unfolding_all rfl)))
      (pss_cons (ps_set (i := 2) sc_law.nd rfl (by first | exact Or.inl rfl | exact Or.inr rfl) (pe_call (ok_law_small_by T) hr rfl T.d_law_small_by.m T.d_law_small_by.F.kp T.d_law_small_by.b .nil passL (pa_cons (pv 0) (pa_cons pe_int pa_nil (hs := seK)) (hs := seN))))
      (pss_cons (ps_set (i := 3) sc_law.nd rfl (by first | exact Or.inl rfl | exact Or.inr rfl) (pe_call (ok_law_small_by T) hr rfl T.d_law_small_by.m T.d_law_small_by.F.kp T.d_law_small_by.b .nil passL (pa_cons (pv 0) (pa_cons pe_int pa_nil (hs := seK)) (hs := seN))))
      (pss_cons (ps_set (i := 4) sc_law.nd rfl (by first | exact Or.inl rfl | exact Or.inr rfl) (pe_op op_mod (pe_call (ok_law_at T) hr rfl T.d_law_at.m T.d_law_at.F.kp T.d_law_at.b .nil passL (pa_cons (pv 0) (pa_cons pe_int pa_nil (hs := seK)) (hs := seN))) pe_int))
      (pss_cons (ps_J (ps_if (pt_cmpR op_eq (pv 4) pe_int nmEq) (pss_one (ps_set (i := 2) sc_law.nd rfl (by first | exact Or.inl rfl | exact Or.inr rfl) (pe_pair (pa_cons pe_int (pa_cons pe_int pa_nil (hs := seK)) (hs := seK))))) pss_nil))
      (pss_cons (ps_J (ps_if (PW.pt (pw_or (pt_cmpR op_eq (pv 4) pe_int nmEq) (pw_or1 (PW.pt (pw_and (pt_cmpR op_eq (pv 4) pe_int nmEq) (pw_and1 (pt_cmpR op_eq (pe_op op_mod (pe_call (ok_law_at T) hr rfl T.d_law_at.m T.d_law_at.F.kp T.d_law_at.b .nil passL (pa_cons (pv 0) (pa_cons pe_int pa_nil (hs := seK)) (hs := seN))) pe_int) pe_int nmEq))))))) (pss_one (ps_set (i := 3) sc_law.nd rfl (by first | exact Or.inl rfl | exact Or.inr rfl) (pe_pair (pa_cons pe_int (pa_cons pe_int pa_nil (hs := seK)) (hs := seK))))) pss_nil))
      (pss_cons (ps_J (ps_if (pt_cmpR op_eq (pv 4) pe_int nmEq) (pss_one (ps_set (i := 2) sc_law.nd rfl (by first | exact Or.inl rfl | exact Or.inr rfl) (pe_ix ix_list (pe_lstS (pa_cons (pe_pair (pa_cons pe_int (pa_cons pe_int pa_nil (hs := seK)) (hs := seK))) (pa_cons (pe_pair (pa_cons (pe_un un_neg pe_int) (pa_cons pe_int pa_nil (hs := seK)) (hs := seU))) (pa_cons (pe_pair (pa_cons pe_int (pa_cons pe_int pa_nil (hs := seK)) (hs := seK))) (pa_cons (pe_pair (pa_cons pe_int (pa_cons pe_int pa_nil (hs := seK)) (hs := seK))) (pa_cons (pe_pair (pa_cons pe_int (pa_cons pe_int pa_nil (hs := seK)) (hs := seK))) (pa_cons (pe_pair (pa_cons pe_int (pa_cons (pe_un un_neg pe_int) pa_nil (hs := seU)) (hs := seK))) pa_nil (hs := seT)) (hs := seT)) (hs := seT)) (hs := seT)) (hs := seT)) (hs := seT))) (pe_op op_mod (pe_call (ok_law_at T) hr rfl T.d_law_at.m T.d_law_at.F.kp T.d_law_at.b .nil passL (pa_cons (pv 0) (pa_cons pe_int pa_nil (hs := seK)) (hs := seN))) pe_int) (fun _ _ => by with_unfolding_all rfl)))) pss_nil))
      (pss_cons (ps_for PassesOwn.never rfl (pi_range1 rfl T.b_range (pa_cons pe_int pa_nil (hs := seK))) (pg_name (i := 5) sc_law.nd rfl (by first | exact Or.inl rfl | exact Or.inr rfl)) (pss_cons (ps_set (i := 6) sc_law.nd rfl (by first | exact Or.inl rfl | exact Or.inr rfl) pe_str)
      (pss_cons (ps_J (ps_if (PW.pt (pw_or (PW.pt (pw_and (pt_cmpR op_eq (pv 5) pe_int nmEq) (pw_and1 (pt_cmpR (op_eqN hr.units0) (pv 3) (pe_pair (pa_cons pe_int (pa_cons pe_int pa_nil (hs := seK)) (hs := seK))) nmEq)))) (pw_or1 (PW.pt (pw_and (pt_cmpR op_eq (pv 5) pe_int nmEq) (pw_and1 (pt_cmpR (op_eqN hr.units0) (pv 2) (pe_pair (pa_cons pe_int (pa_cons pe_int pa_nil (hs := seK)) (hs := seK))) nmEq))))))) (pss_one (ps_set (i := 6) sc_law.nd rfl (by first | exact Or.inl rfl | exact Or.inr rfl) pe_str)) pss_nil))
      (pss_cons (ps_J (ps_if (PW.pt (pw_and (pt_cmpR op_in_seq (pv 5) (pe_lstS (pa_cons pe_int (pa_cons pe_int pa_nil (hs := seK)) (hs := seK))) (by with_unfolding_all rfl)) (pw_and1 (pt_cmpR op_ne (pe_call (ok_law_size_of T) hr rfl T.d_law_size_of.m T.d_law_size_of.F.kp T.d_law_size_of.b .nil passL (pa_cons (pv 1) (pa_cons (pv 2) pa_nil (hs := seN)) (hs := seN))) pe_int nmNotEq)))) (pss_one (ps_set (i := 6) sc_law.nd rfl (by first | exact Or.inl rfl | exact Or.inr rfl) pe_str)) pss_nil))
      (pss_cons (ps_J (ps_if (pt_cmpR op_notIn_seq (pv 1) (pe_lstS (pa_cons (pe_un un_neg pe_int) (pa_cons (pe_un un_neg pe_int) (pa_cons pe_int (pa_cons pe_int pa_nil (hs := seK)) (hs := seK)) (hs := seU)) (hs := seU))) (by with_unfolding_all rfl)) (pss_one (ps_set (i := 6) sc_law.nd rfl (by first | exact Or.inl rfl | exact Or.inr rfl) pe_str)) pss_nil))
      (pss_cons (ps_if (pt_cmpR op_ne (pe_call (ok_law_said T) hr rfl T.d_law_said.m T.d_law_said.F.kp T.d_law_said.b .nil passL (pa_cons (pv 5) (pa_cons (pv 1) (pa_cons (pv 2) (pa_cons (pv 3) pa_nil (hs := seN)) (hs := seN)) (hs := seN)) (hs := seN))) (pv 6) nmNotEq) (pss_one (ps_ret pe_bl)) pss_nil)
      (pss_one (ps_if (pt_cmpR op_ne (pe_call (ok_law_refuses T) hr rfl T.d_law_refuses.m T.d_law_refuses.F.kp T.d_law_refuses.b .nil passL (pa_cons (pv 5) (pa_cons (pv 1) (pa_cons (pv 2) (pa_cons (pv 3) pa_nil (hs := seN)) (hs := seN)) (hs := seN)) (hs := seN))) (pe_cmpR op_ne (pv 6) pe_str nmNotEq) nmNotEq) (pss_one (ps_ret pe_bl)) pss_nil))))))))
      (pss_one (ps_ret pe_bl))))))))))), ?_⟩
    refine ⟨_, rfl, _, rfl, _, _, rfl, hS, fun p hp => ?_⟩
    have hS1 : SqL K (upd H p (.lst (cutV (ns.map V.int) none (some 500)))) p (ns.map V.int) := by
      have e : cutV (ns.map V.int) none (some ((500 : Nat) : Int)) = ns.map V.int := cutV_all (by rw [List.length_map]; omega)
      have e' : cutV (ns.map V.int) none (some 500) = ns.map V.int := e
      rw [e']
      exact SqL.of upd_same
    generalize upd H p (.lst (cutV (ns.map V.int) none (some 500))) = H2 at hS1
    -- the kind
    refine ⟨_, rfl, _, rfl, _, rfl, _, _, rfl, rfl, ⟨by decide, by decide, by decide⟩, (by show 10 ≤ sizeLine; decide), fun q1 H3 s3 _ hq1 => ?_⟩
    have hS3 := s3.seq hS1
    refine ⟨_, rfl, _, _, ns, rfl, hS3, by omega, fun z => ?_⟩
    obtain ⟨v, e, hv⟩ := at10 (V.int (-2)) (V.int (-1)) (V.int 2) (V.int 3) (V.int (-3)) (V.int 0) (V.int 1) (V.int 4) (V.int 5) (V.int (10 ^ (30 : Int).toNat)) z
    refine ⟨_, _, rfl, rfl, (by show (0 : Int) < 10; decide), _, _, _, _, rfl, rfl, SqL.of hq1, e, ?_⟩
    obtain ⟨kk, rfl⟩ : ∃ kk, v = .int kk := by rcases hv with rfl | rfl | rfl | rfl | rfl | rfl | rfl | rfl | rfl | rfl <;> exact ⟨_, rfl⟩
    -- the two numbers
    refine ⟨_, rfl, _, _, ns, rfl, hS3, by omega, fun v1 x1 H4 s4 n1 b1 => ?_⟩
    have hS4 := s4.seq hS3
    refine ⟨_, rfl, _, _, ns, rfl, hS4, by omega, fun v2 x2 H5 s5 n2 b2 => ?_⟩
    have n1 := n1.same s5
    have hS5 := s5.seq hS4
    refine ⟨_, rfl, _, _, ns, rfl, hS5, by omega, fun z5 => ⟨_, _, rfl, rfl, (by show (0 : Int) < 5; decide), ?_⟩⟩
    refine ⟨fun σ H6 => ∃ v1 x1, σ = [some (.ref p), some (.int kk), some v1, some v2, some (.int (z5 % 5)), none, none] ∧ Same H5 H6 ∧ NumV K H6 v1 x1 ∧ Bd 12 x1, ?_, ?_⟩
    rotate_left
    · refine ⟨_, rfl, rfl, _, rfl, if2 (fun c => ?_) (fun c => ?_)⟩
      · exact ⟨_, _, rfl, fun w1 G1 t1 m1 => ⟨_, _, rfl, t1, m1, ⟨by decide, by decide⟩⟩⟩
      · exact ⟨_, _, rfl, Same.refl _, n1, b1⟩
    rintro σ H6 ⟨v1, x1, rfl, s6, n1, b1⟩
    have n2 := n2.same s6
    have hS6 := s6.seq hS5
    refine ⟨fun σ H7 => ∃ v2 x2, σ = [some (.ref p), some (.int kk), some v1, some v2, some (.int (z5 % 5)), none, none] ∧ Same H6 H7 ∧ NumV K H7 v2 x2 ∧ Bd 12 x2, ?_, ?_⟩
    rotate_left
    · refine ⟨_, rfl, rfl, _, rfl, if2 (fun c => iteT ?_) (fun c => ?_)⟩
      · exact ⟨_, _, rfl, fun w1 G1 t1 m1 => ⟨_, _, rfl, t1, m1, ⟨by decide, by decide⟩⟩⟩
      · refine ⟨_, rfl, rfl, _, rfl, if2 (fun c => ?_) (fun c => ?_)⟩
        · refine ⟨_, rfl, _, _, ns, rfl, hS6, by omega, fun z6 => ⟨_, _, rfl, rfl, (by show (0 : Int) < 2; decide), rfl, _, rfl, if2 (fun c => ?_) (fun c => ?_)⟩⟩
          · exact ⟨_, _, rfl, fun w1 G1 t1 m1 => ⟨_, _, rfl, t1, m1, ⟨by decide, by decide⟩⟩⟩
          · exact ⟨_, _, rfl, Same.refl _, n2, b2⟩
        · exact iteF ⟨_, _, rfl, Same.refl _, n2, b2⟩
    rintro σ H7 ⟨v2, x2, rfl, s7, n2, b2⟩
    have n1 := n1.same s7
    have hS7 := s7.seq hS6
    refine ⟨fun σ H8 => ∃ v1 x1, σ = [some (.ref p), some (.int kk), some v1, some v2, some (.int (z5 % 5)), none, none] ∧ Same H7 H8 ∧ NumV K H8 v1 x1 ∧ Bd 12 x1, ?_, ?_⟩
    rotate_left
    · refine ⟨_, rfl, rfl, _, rfl, if2 (fun c => ?_) (fun c => ?_)⟩
      · refine ⟨_, _, rfl, fun w1 D1 d1 m1 => ⟨_, rfl, _, _, rfl, fun w2 D2 d2 m2 => ⟨_, _, rfl, fun w3 D3 d3 m3 => ⟨_, _, rfl, fun w4 D4 d4 m4 => ⟨_, _, rfl, fun w5 D5 d5 m5 => ⟨_, rfl, _, _, rfl, fun w6 D6 d6 m6 => ⟨(by show 6 ≤ sizeLine; decide), fun pl G s _ hpl => ?_⟩⟩⟩⟩⟩⟩⟩
        have d26 := d3.trans (d4.trans (d5.trans (d6.trans s)))
        have hS9 := (d1.trans (d2.trans d26)).seq hS7
        refine ⟨_, rfl, _, _, ns, rfl, hS9, by omega, fun z6 => ?_⟩
        obtain ⟨v, e, hv⟩ := at6 w1 w2 w3 w4 w5 w6 z6
        refine ⟨_, _, rfl, rfl, (by show (0 : Int) < 6; decide), _, _, _, _, rfl, rfl, SqL.of hpl, e, ?_⟩
        have sA := d1.trans (d2.trans d26)
        rcases hv with rfl | rfl | rfl | rfl | rfl | rfl
        · exact ⟨_, _, rfl, sA, m1.same (d2.trans d26), ⟨by decide, by decide⟩⟩
        · exact ⟨_, _, rfl, sA, m2.same d26, ⟨by decide, by decide⟩⟩
        · exact ⟨_, _, rfl, sA, m3.same (d4.trans (d5.trans (d6.trans s))), ⟨by decide, by decide⟩⟩
        · exact ⟨_, _, rfl, sA, m4.same (d5.trans (d6.trans s)), ⟨by decide, by decide⟩⟩
        · exact ⟨_, _, rfl, sA, m5.same (d6.trans s), ⟨by decide, by decide⟩⟩
        · exact ⟨_, _, rfl, sA, m6.same s, ⟨by decide, by decide⟩⟩
      · exact ⟨_, _, rfl, Same.refl _, n1, b1⟩
    rintro σ H8 ⟨v1, x1, rfl, s8, n1, b1⟩
    have n2 := n2.same s8
    refine ⟨_, rfl, by decide, by decide, ?_⟩
    refine for_range (fun j σ H9 => ∃ o5 o6, σ = [some (.ref p), some (.int kk), some v1, some v2, some (.int (z5 % 5)), o5, o6] ∧ Same H8 H9) ⟨_, _, rfl, Same.refl _⟩ ?_ (fun σ H9 _ => q _)
    rintro j σ H9 hj ⟨o5, o6, rfl, s9⟩
    have n1 := n1.same s9
    have n2 := n2.same s9
    refine ⟨fun σ G => Same H9 G ∧ σ = [some (.ref p), some (.int kk), some v1, some v2, some (.int (z5 % 5)), some (.int (0 + (j : Int))), some (.str (word8 (due1 j x1 x2)))], ?_, ?_⟩
    rotate_left
    · refine ⟨_, rfl, rfl, _, rfl, if2 (fun c => ?_) (fun c => ?_)⟩
      · have ej : j = 2 := by have : (0 + (j : Int)) = 2 := by simpa using c
                              omega
        refine ⟨_, rfl, _, _, rfl, fun w1 G1 t1 m1 => ⟨x2, (0, 0), n2.same t1, m1, _, rfl, if2 (fun c2 => ?_) (fun c2 => ?_)⟩⟩
        · have e : due1 j x1 x2 = some 1 := if_pos (.inl ⟨ej, eq_of_test c2⟩)
          exact iteT ⟨t1, by rw [e]; rfl⟩
        · have e : due1 j x1 x2 = none := if_neg (fun z => by rcases z with ⟨_, z⟩ | ⟨z, _⟩; exact ne_of_test c2 z; omega)
          refine ⟨_, rfl, rfl, _, rfl, if2 (fun c3 => ?_) (fun c3 => iteF ⟨t1, by rw [e]; rfl⟩)⟩
          have : (0 + (j : Int)) = 10 := by simpa using c3
          omega
      · have ej : j ≠ 2 := by have : (0 + (j : Int)) ≠ 2 := by simpa using c
                              omega
        refine iteF ⟨_, rfl, rfl, _, rfl, if2 (fun c2 => ?_) (fun c2 => ?_)⟩
        · have ej2 : j = 10 := by have : (0 + (j : Int)) = 10 := by simpa using c2
                                  omega
          refine ⟨_, rfl, _, _, rfl, fun w1 G1 t1 m1 => ⟨x1, (0, 0), n1.same t1, m1, _, rfl, if2 (fun c3 => ?_) (fun c3 => ?_)⟩⟩
          · have e : due1 j x1 x2 = some 1 := if_pos (.inr ⟨ej2, eq_of_test c3⟩)
            exact ⟨t1, by rw [e]; rfl⟩
          · have e : due1 j x1 x2 = none := if_neg (fun z => by rcases z with ⟨z, _⟩ | ⟨_, z⟩; exact ej z; exact ne_of_test c3 z)
            exact ⟨t1, by rw [e]; rfl⟩
        · have ej2 : j ≠ 10 := by have : (0 + (j : Int)) ≠ 10 := by simpa using c2
                                  omega
          have e : due1 j x1 x2 = none := if_neg (fun z => by rcases z with ⟨z, _⟩ | ⟨z, _⟩; exact ej z; exact ej2 z)
          exact iteF ⟨Same.refl _, by rw [e]; rfl⟩
    rintro σ G1 ⟨g1, rfl⟩
    have n1 := n1.same g1
    have n2 := n2.same g1
    refine ⟨fun σ G => Same G1 G ∧ σ = [some (.ref p), some (.int kk), some v1, some v2, some (.int (z5 % 5)), some (.int (0 + (j : Int))), some (.str (word8 (due2 j kk x1 x2)))], ?_, ?_⟩
    rotate_left
    · refine ⟨_, rfl, sz2, fun p1 F1 f1 _ hp1 => ⟨_, _, rfl, .inl (SqL.of hp1), rfl, rfl, _, rfl, if2 (fun c => ?_) (fun c => ?_)⟩⟩
      · have hin : (0 + (j : Int)) ∈ [(8 : Int), 9] := inV_iff.mp c
        have h89 : j = 8 ∨ j = 9 := by simp at hin; omega
        refine ⟨_, rfl, _, rfl, _, x1, _, rfl, n1.same f1, b1, fun F2 f2 => ⟨rfl, _, rfl, if2 (fun c2 => ?_) (fun c2 => ?_)⟩⟩
        · have e : due2 j kk x1 x2 = some 2 := if_pos ⟨h89, by simp at c2; omega⟩
          exact ⟨f1.trans f2, by rw [e]; rfl⟩
        · have e : due2 j kk x1 x2 = due1 j x1 x2 := if_neg (fun z => z.2 (by simp at c2; omega))
          exact ⟨f1.trans f2, by rw [e]⟩
      · have e : due2 j kk x1 x2 = due1 j x1 x2 := if_neg (fun z => by
          have : inV (.int (0 + (j : Int))) ([(8 : Int), 9].map V.int) = true := inV_iff.mpr (by have := z.1; simp; omega)
          have c' : inV (.int (0 + (j : Int))) ([(8 : Int), 9].map V.int) = false := c
          rw [this] at c'
          cases c')
        exact iteF ⟨f1, by rw [e]⟩
    rintro σ G2 ⟨g2, rfl⟩
    have n1 := n1.same g2
    have n2 := n2.same g2
    refine ⟨fun σ G => Same G2 G ∧ σ = [some (.ref p), some (.int kk), some v1, some v2, some (.int (z5 % 5)), some (.int (0 + (j : Int))), some (.str (word8 (out8 j kk x1 x2)))], ?_, ?_⟩
    rotate_left
    · refine ⟨_, rfl, _, rfl, _, rfl, sz4, fun p1 F1 f1 _ hp1 => ⟨_, _, rfl, .inl (SqL.of hp1), rfl, rfl, _, rfl, if2 (fun c => ?_) (fun c => ?_)⟩⟩
      · have hk : ¬ TF.Kind kk := fun hk => by
          have c' : (!inV (.int kk) ([(-2 : Int), -1, 2, 3].map V.int)) = true := c
          have : inV (.int kk) ([(-2 : Int), -1, 2, 3].map V.int) = true := inV_iff.mpr (by rcases hk with rfl | rfl | rfl | rfl <;> simp)
          rw [this] at c'
          cases c'
        exact ⟨f1, by rw [← due_out, if_pos hk]; rfl⟩
      · have hk : TF.Kind kk := by
          have c' : (!inV (.int kk) ([(-2 : Int), -1, 2, 3].map V.int)) = false := c
          have : inV (.int kk) ([(-2 : Int), -1, 2, 3].map V.int) = true := by simpa using c'
          have := inV_iff.mp this
          simp at this
          exact this
        exact ⟨f1, by rw [← due_out, if_neg (fun z => z hk)]⟩
    rintro σ G3 ⟨g3, rfl⟩
    have n1 := n1.same g3
    have n2 := n2.same g3
    have ej : (0 + (j : Int)) = (j : Int) := by omega
    refine ⟨_, rfl, _, rfl, _, rfl, _, rfl, j, kk, x1, x2, v1, v2, congrArg (fun z => [V.int z, .int kk, v1, v2]) ej, (by have : (13 : Int).toNat = 13 := rfl; omega), n1, n2, b1, b2, fun G4 g4 => ?_⟩
    refine ⟨_, rfl, rfl, _, rfl, ifF (by simp) ?_⟩
    refine ⟨_, rfl, _, rfl, _, rfl, _, rfl, j, kk, x1, x2, v1, v2, congrArg (fun z => [V.int z, .int kk, v1, v2]) ej, (by have : (13 : Int).toNat = 13 := rfl; omega), n1.same g4, n2.same g4, b1, b2, fun G5 g5 => ?_⟩
    refine ⟨_, rfl, rfl, rfl, _, rfl, ifF ?_ ⟨_, _, rfl, s9.trans (g1.trans (g2.trans (g3.trans (g4.trans g5))))⟩⟩
    exact bl_ne word_done
end
theorem all_mk {l : PySem.W.OpenLaw} {w : World} {K : PySem.W.Frag} {h : Heap} {mg : Str → Option Value} {fa : Addr} (X : K.In h) (G : h.Ns mainGlobals mg) (hfa : mg "law" = some (.ref fa))
    {f0 : Addr} {od0 an0 : Option Addr} {sl0 : Array (Option Value)} {oc0 kV0 dc0 pm0 cd0 ct0 : Value}
    (a0 : PySem.W.nsIn K mainGlobals "check_kind" = some (some (.ref f0))) (l0 : K.lookup f0 = some ⟨oc0, od0, .func (PySem.W.fnOf "check_kind" "check_kind" (defArgs s_check_kind) (defBody s_check_kind) (defScope s_check_kind) .none kV0 dc0 pm0 an0 cd0 ct0), sl0⟩) (c0 : PySem.W.codeIn K cd0 "check_kind" = true) (k0 : PySem.W.keepIn K (.ref f0) = true)
    {f1 : Addr} {od1 an1 : Option Addr} {sl1 : Array (Option Value)} {oc1 kV1 dc1 pm1 cd1 ct1 : Value}
    (a1 : PySem.W.nsIn K mainGlobals "added" = some (some (.ref f1))) (l1 : K.lookup f1 = some ⟨oc1, od1, .func (PySem.W.fnOf "added" "added" (defArgs s_added) (defBody s_added) (defScope s_added) .none kV1 dc1 pm1 an1 cd1 ct1), sl1⟩) (c1 : PySem.W.codeIn K cd1 "added" = true) (k1 : PySem.W.keepIn K (.ref f1) = true)
    {f2 : Addr} {od2 an2 : Option Addr} {sl2 : Array (Option Value)} {oc2 kV2 dc2 pm2 cd2 ct2 : Value}
    (a2 : PySem.W.nsIn K mainGlobals "multiplied" = some (some (.ref f2))) (l2 : K.lookup f2 = some ⟨oc2, od2, .func (PySem.W.fnOf "multiplied" "multiplied" (defArgs s_multiplied) (defBody s_multiplied) (defScope s_multiplied) .none kV2 dc2 pm2 an2 cd2 ct2), sl2⟩) (c2 : PySem.W.codeIn K cd2 "multiplied" = true) (k2 : PySem.W.keepIn K (.ref f2) = true)
    {f3 : Addr} {od3 an3 : Option Addr} {sl3 : Array (Option Value)} {oc3 kV3 dc3 pm3 cd3 ct3 : Value}
    (a3 : PySem.W.nsIn K mainGlobals "signed_size" = some (some (.ref f3))) (l3 : K.lookup f3 = some ⟨oc3, od3, .func (PySem.W.fnOf "signed_size" "signed_size" (defArgs s_signed_size) (defBody s_signed_size) (defScope s_signed_size) .none kV3 dc3 pm3 an3 cd3 ct3), sl3⟩) (c3 : PySem.W.codeIn K cd3 "signed_size" = true) (k3 : PySem.W.keepIn K (.ref f3) = true)
    {f4 : Addr} {od4 an4 : Option Addr} {sl4 : Array (Option Value)} {oc4 kV4 dc4 pm4 cd4 ct4 : Value}
    (a4 : PySem.W.nsIn K mainGlobals "size" = some (some (.ref f4))) (l4 : K.lookup f4 = some ⟨oc4, od4, .func (PySem.W.fnOf "size" "size" (defArgs s_size) (defBody s_size) (defScope s_size) .none kV4 dc4 pm4 an4 cd4 ct4), sl4⟩) (c4 : PySem.W.codeIn K cd4 "size" = true) (k4 : PySem.W.keepIn K (.ref f4) = true)
    {f5 : Addr} {od5 an5 : Option Addr} {sl5 : Array (Option Value)} {oc5 kV5 dc5 pm5 cd5 ct5 : Value}
    (a5 : PySem.W.nsIn K mainGlobals "mirror" = some (some (.ref f5))) (l5 : K.lookup f5 = some ⟨oc5, od5, .func (PySem.W.fnOf "mirror" "mirror" (defArgs s_mirror) (defBody s_mirror) (defScope s_mirror) .none kV5 dc5 pm5 an5 cd5 ct5), sl5⟩) (c5 : PySem.W.codeIn K cd5 "mirror" = true) (k5 : PySem.W.keepIn K (.ref f5) = true)
    {f6 : Addr} {od6 an6 : Option Addr} {sl6 : Array (Option Value)} {oc6 kV6 dc6 pm6 cd6 ct6 : Value}
    (a6 : PySem.W.nsIn K mainGlobals "rounded" = some (some (.ref f6))) (l6 : K.lookup f6 = some ⟨oc6, od6, .func (PySem.W.fnOf "rounded" "rounded" (defArgs s_rounded) (defBody s_rounded) (defScope s_rounded) .none kV6 dc6 pm6 an6 cd6 ct6), sl6⟩) (c6 : PySem.W.codeIn K cd6 "rounded" = true) (k6 : PySem.W.keepIn K (.ref f6) = true)
    {f7 : Addr} {od7 an7 : Option Addr} {sl7 : Array (Option Value)} {oc7 kV7 dc7 pm7 cd7 ct7 : Value}
    (a7 : PySem.W.nsIn K mainGlobals "nearest_quotient" = some (some (.ref f7))) (l7 : K.lookup f7 = some ⟨oc7, od7, .func (PySem.W.fnOf "nearest_quotient" "nearest_quotient" (defArgs s_nearest_quotient) (defBody s_nearest_quotient) (defScope s_nearest_quotient) .none kV7 dc7 pm7 an7 cd7 ct7), sl7⟩) (c7 : PySem.W.codeIn K cd7 "nearest_quotient" = true) (k7 : PySem.W.keepIn K (.ref f7) = true)
    {f8 : Addr} {od8 an8 : Option Addr} {sl8 : Array (Option Value)} {oc8 kV8 dc8 pm8 cd8 ct8 : Value}
    (a8 : PySem.W.nsIn K mainGlobals "without" = some (some (.ref f8))) (l8 : K.lookup f8 = some ⟨oc8, od8, .func (PySem.W.fnOf "without" "without" (defArgs s_without) (defBody s_without) (defScope s_without) .none kV8 dc8 pm8 an8 cd8 ct8), sl8⟩) (c8 : PySem.W.codeIn K cd8 "without" = true) (k8 : PySem.W.keepIn K (.ref f8) = true)
    {f9 : Addr} {od9 an9 : Option Addr} {sl9 : Array (Option Value)} {oc9 kV9 dc9 pm9 cd9 ct9 : Value}
    (a9 : PySem.W.nsIn K mainGlobals "split" = some (some (.ref f9))) (l9 : K.lookup f9 = some ⟨oc9, od9, .func (PySem.W.fnOf "split" "split" (defArgs s_split) (defBody s_split) (defScope s_split) .none kV9 dc9 pm9 an9 cd9 ct9), sl9⟩) (c9 : PySem.W.codeIn K cd9 "split" = true) (k9 : PySem.W.keepIn K (.ref f9) = true)
    {f10 : Addr} {od10 an10 : Option Addr} {sl10 : Array (Option Value)} {oc10 kV10 dc10 pm10 cd10 ct10 : Value}
    (a10 : PySem.W.nsIn K mainGlobals "divides" = some (some (.ref f10))) (l10 : K.lookup f10 = some ⟨oc10, od10, .func (PySem.W.fnOf "divides" "divides" (defArgs s_divides) (defBody s_divides) (defScope s_divides) .none kV10 dc10 pm10 an10 cd10 ct10), sl10⟩) (c10 : PySem.W.codeIn K cd10 "divides" = true) (k10 : PySem.W.keepIn K (.ref f10) = true)
    {f11 : Addr} {od11 an11 : Option Addr} {sl11 : Array (Option Value)} {oc11 kV11 dc11 pm11 cd11 ct11 : Value}
    (a11 : PySem.W.nsIn K mainGlobals "alike" = some (some (.ref f11))) (l11 : K.lookup f11 = some ⟨oc11, od11, .func (PySem.W.fnOf "alike" "alike" (defArgs s_alike) (defBody s_alike) (defScope s_alike) .none kV11 dc11 pm11 an11 cd11 ct11), sl11⟩) (c11 : PySem.W.codeIn K cd11 "alike" = true) (k11 : PySem.W.keepIn K (.ref f11) = true)
    {f12 : Addr} {od12 an12 : Option Addr} {sl12 : Array (Option Value)} {oc12 kV12 dc12 pm12 cd12 ct12 : Value}
    (a12 : PySem.W.nsIn K mainGlobals "common" = some (some (.ref f12))) (l12 : K.lookup f12 = some ⟨oc12, od12, .func (PySem.W.fnOf "common" "common" (defArgs s_common) (defBody s_common) (defScope s_common) .none kV12 dc12 pm12 an12 cd12 ct12), sl12⟩) (c12 : PySem.W.codeIn K cd12 "common" = true) (k12 : PySem.W.keepIn K (.ref f12) = true)
    {f13 : Addr} {od13 an13 : Option Addr} {sl13 : Array (Option Value)} {oc13 kV13 dc13 pm13 cd13 ct13 : Value}
    (a13 : PySem.W.nsIn K mainGlobals "is_unit" = some (some (.ref f13))) (l13 : K.lookup f13 = some ⟨oc13, od13, .func (PySem.W.fnOf "is_unit" "is_unit" (defArgs s_is_unit) (defBody s_is_unit) (defScope s_is_unit) .none kV13 dc13 pm13 an13 cd13 ct13), sl13⟩) (c13 : PySem.W.codeIn K cd13 "is_unit" = true) (k13 : PySem.W.keepIn K (.ref f13) = true)
    {f14 : Addr} {od14 an14 : Option Addr} {sl14 : Array (Option Value)} {oc14 kV14 dc14 pm14 cd14 ct14 : Value}
    (a14 : PySem.W.nsIn K mainGlobals "check_unit" = some (some (.ref f14))) (l14 : K.lookup f14 = some ⟨oc14, od14, .func (PySem.W.fnOf "check_unit" "check_unit" (defArgs s_check_unit) (defBody s_check_unit) (defScope s_check_unit) .none kV14 dc14 pm14 an14 cd14 ct14), sl14⟩) (c14 : PySem.W.codeIn K cd14 "check_unit" = true) (k14 : PySem.W.keepIn K (.ref f14) = true)
    {f15 : Addr} {od15 an15 : Option Addr} {sl15 : Array (Option Value)} {oc15 kV15 dc15 pm15 cd15 ct15 : Value}
    (a15 : PySem.W.nsIn K mainGlobals "times_whole" = some (some (.ref f15))) (l15 : K.lookup f15 = some ⟨oc15, od15, .func (PySem.W.fnOf "times_whole" "times_whole" (defArgs s_times_whole) (defBody s_times_whole) (defScope s_times_whole) .none kV15 dc15 pm15 an15 cd15 ct15), sl15⟩) (c15 : PySem.W.codeIn K cd15 "times_whole" = true) (k15 : PySem.W.keepIn K (.ref f15) = true)
    {f16 : Addr} {od16 an16 : Option Addr} {sl16 : Array (Option Value)} {oc16 kV16 dc16 pm16 cd16 ct16 : Value}
    (a16 : PySem.W.nsIn K mainGlobals "turned" = some (some (.ref f16))) (l16 : K.lookup f16 = some ⟨oc16, od16, .func (PySem.W.fnOf "turned" "turned" (defArgs s_turned) (defBody s_turned) (defScope s_turned) .none kV16 dc16 pm16 an16 cd16 ct16), sl16⟩) (c16 : PySem.W.codeIn K cd16 "turned" = true) (k16 : PySem.W.keepIn K (.ref f16) = true)
    {f17 : Addr} {od17 an17 : Option Addr} {sl17 : Array (Option Value)} {oc17 kV17 dc17 pm17 cd17 ct17 : Value}
    (a17 : PySem.W.nsIn K mainGlobals "taken" = some (some (.ref f17))) (l17 : K.lookup f17 = some ⟨oc17, od17, .func (PySem.W.fnOf "taken" "taken" (defArgs s_taken) (defBody s_taken) (defScope s_taken) .none kV17 dc17 pm17 an17 cd17 ct17), sl17⟩) (c17 : PySem.W.codeIn K cd17 "taken" = true) (k17 : PySem.W.keepIn K (.ref f17) = true)
    {f18 : Addr} {od18 an18 : Option Addr} {sl18 : Array (Option Value)} {oc18 kV18 dc18 pm18 cd18 ct18 : Value}
    (a18 : PySem.W.nsIn K mainGlobals "unit_of" = some (some (.ref f18))) (l18 : K.lookup f18 = some ⟨oc18, od18, .func (PySem.W.fnOf "unit_of" "unit_of" (defArgs s_unit_of) (defBody s_unit_of) (defScope s_unit_of) .none kV18 dc18 pm18 an18 cd18 ct18), sl18⟩) (c18 : PySem.W.codeIn K cd18 "unit_of" = true) (k18 : PySem.W.keepIn K (.ref f18) = true)
    {f19 : Addr} {od19 an19 : Option Addr} {sl19 : Array (Option Value)} {oc19 kV19 dc19 pm19 cd19 ct19 : Value}
    (a19 : PySem.W.nsIn K mainGlobals "steps_to" = some (some (.ref f19))) (l19 : K.lookup f19 = some ⟨oc19, od19, .func (PySem.W.fnOf "steps_to" "steps_to" (defArgs s_steps_to) (defBody s_steps_to) (defScope s_steps_to) .none kV19 dc19 pm19 an19 cd19 ct19), sl19⟩) (c19 : PySem.W.codeIn K cd19 "steps_to" = true) (k19 : PySem.W.keepIn K (.ref f19) = true)
    {f20 : Addr} {od20 an20 : Option Addr} {sl20 : Array (Option Value)} {oc20 kV20 dc20 pm20 cd20 ct20 : Value}
    (a20 : PySem.W.nsIn K mainGlobals "sign_of" = some (some (.ref f20))) (l20 : K.lookup f20 = some ⟨oc20, od20, .func (PySem.W.fnOf "sign_of" "sign_of" (defArgs s_sign_of) (defBody s_sign_of) (defScope s_sign_of) .none kV20 dc20 pm20 an20 cd20 ct20), sl20⟩) (c20 : PySem.W.codeIn K cd20 "sign_of" = true) (k20 : PySem.W.keepIn K (.ref f20) = true)
    {f21 : Addr} {od21 an21 : Option Addr} {sl21 : Array (Option Value)} {oc21 kV21 dc21 pm21 cd21 ct21 : Value}
    (a21 : PySem.W.nsIn K mainGlobals "told_unit" = some (some (.ref f21))) (l21 : K.lookup f21 = some ⟨oc21, od21, .func (PySem.W.fnOf "told_unit" "told_unit" (defArgs s_told_unit) (defBody s_told_unit) (defScope s_told_unit) .none kV21 dc21 pm21 an21 cd21 ct21), sl21⟩) (c21 : PySem.W.codeIn K cd21 "told_unit" = true) (k21 : PySem.W.keepIn K (.ref f21) = true)
    {f22 : Addr} {od22 an22 : Option Addr} {sl22 : Array (Option Value)} {oc22 kV22 dc22 pm22 cd22 ct22 : Value}
    (a22 : PySem.W.nsIn K mainGlobals "primes_of" = some (some (.ref f22))) (l22 : K.lookup f22 = some ⟨oc22, od22, .func (PySem.W.fnOf "primes_of" "primes_of" (defArgs s_primes_of) (defBody s_primes_of) (defScope s_primes_of) .none kV22 dc22 pm22 an22 cd22 ct22), sl22⟩) (c22 : PySem.W.codeIn K cd22 "primes_of" = true) (k22 : PySem.W.keepIn K (.ref f22) = true)
    {f23 : Addr} {od23 an23 : Option Addr} {sl23 : Array (Option Value)} {oc23 kV23 dc23 pm23 cd23 ct23 : Value}
    (a23 : PySem.W.nsIn K mainGlobals "roots" = some (some (.ref f23))) (l23 : K.lookup f23 = some ⟨oc23, od23, .func (PySem.W.fnOf "roots" "roots" (defArgs s_roots) (defBody s_roots) (defScope s_roots) .none kV23 dc23 pm23 an23 cd23 ct23), sl23⟩) (c23 : PySem.W.codeIn K cd23 "roots" = true) (k23 : PySem.W.keepIn K (.ref f23) = true)
    {f24 : Addr} {od24 an24 : Option Addr} {sl24 : Array (Option Value)} {oc24 kV24 dc24 pm24 cd24 ct24 : Value}
    (a24 : PySem.W.nsIn K mainGlobals "part_at" = some (some (.ref f24))) (l24 : K.lookup f24 = some ⟨oc24, od24, .func (PySem.W.fnOf "part_at" "part_at" (defArgs s_part_at) (defBody s_part_at) (defScope s_part_at) .none kV24 dc24 pm24 an24 cd24 ct24), sl24⟩) (c24 : PySem.W.codeIn K cd24 "part_at" = true) (k24 : PySem.W.keepIn K (.ref f24) = true)
    {f25 : Addr} {od25 an25 : Option Addr} {sl25 : Array (Option Value)} {oc25 kV25 dc25 pm25 cd25 ct25 : Value}
    (a25 : PySem.W.nsIn K mainGlobals "parts" = some (some (.ref f25))) (l25 : K.lookup f25 = some ⟨oc25, od25, .func (PySem.W.fnOf "parts" "parts" (defArgs s_parts) (defBody s_parts) (defScope s_parts) .none kV25 dc25 pm25 an25 cd25 ct25), sl25⟩) (c25 : PySem.W.codeIn K cd25 "parts" = true) (k25 : PySem.W.keepIn K (.ref f25) = true)
    {f26 : Addr} {od26 an26 : Option Addr} {sl26 : Array (Option Value)} {oc26 kV26 dc26 pm26 cd26 ct26 : Value}
    (a26 : PySem.W.nsIn K mainGlobals "parts_no_further" = some (some (.ref f26))) (l26 : K.lookup f26 = some ⟨oc26, od26, .func (PySem.W.fnOf "parts_no_further" "parts_no_further" (defArgs s_parts_no_further) (defBody s_parts_no_further) (defScope s_parts_no_further) .none kV26 dc26 pm26 an26 cd26 ct26), sl26⟩) (c26 : PySem.W.codeIn K cd26 "parts_no_further" = true) (k26 : PySem.W.keepIn K (.ref f26) = true)
    {f27 : Addr} {od27 an27 : Option Addr} {sl27 : Array (Option Value)} {oc27 kV27 dc27 pm27 cd27 ct27 : Value}
    (a27 : PySem.W.nsIn K mainGlobals "_law_at" = some (some (.ref f27))) (l27 : K.lookup f27 = some ⟨oc27, od27, .func (PySem.W.fnOf "_law_at" "_law_at" (defArgs s_law_at) (defBody s_law_at) (defScope s_law_at) .none kV27 dc27 pm27 an27 cd27 ct27), sl27⟩) (c27 : PySem.W.codeIn K cd27 "_law_at" = true) (k27 : PySem.W.keepIn K (.ref f27) = true)
    {f28 : Addr} {od28 an28 : Option Addr} {sl28 : Array (Option Value)} {oc28 kV28 dc28 pm28 cd28 ct28 : Value}
    (a28 : PySem.W.nsIn K mainGlobals "_law_small_by" = some (some (.ref f28))) (l28 : K.lookup f28 = some ⟨oc28, od28, .func (PySem.W.fnOf "_law_small_by" "_law_small_by" (defArgs s_law_small_by) (defBody s_law_small_by) (defScope s_law_small_by) .none kV28 dc28 pm28 an28 cd28 ct28), sl28⟩) (c28 : PySem.W.codeIn K cd28 "_law_small_by" = true) (k28 : PySem.W.keepIn K (.ref f28) = true)
    {f29 : Addr} {od29 an29 : Option Addr} {sl29 : Array (Option Value)} {oc29 kV29 dc29 pm29 cd29 ct29 : Value}
    (a29 : PySem.W.nsIn K mainGlobals "_law_product" = some (some (.ref f29))) (l29 : K.lookup f29 = some ⟨oc29, od29, .func (PySem.W.fnOf "_law_product" "_law_product" (defArgs s_law_product) (defBody s_law_product) (defScope s_law_product) .none kV29 dc29 pm29 an29 cd29 ct29), sl29⟩) (c29 : PySem.W.codeIn K cd29 "_law_product" = true) (k29 : PySem.W.keepIn K (.ref f29) = true)
    {f30 : Addr} {od30 an30 : Option Addr} {sl30 : Array (Option Value)} {oc30 kV30 dc30 pm30 cd30 ct30 : Value}
    (a30 : PySem.W.nsIn K mainGlobals "_law_size_of" = some (some (.ref f30))) (l30 : K.lookup f30 = some ⟨oc30, od30, .func (PySem.W.fnOf "_law_size_of" "_law_size_of" (defArgs s_law_size_of) (defBody s_law_size_of) (defScope s_law_size_of) .none kV30 dc30 pm30 an30 cd30 ct30), sl30⟩) (c30 : PySem.W.codeIn K cd30 "_law_size_of" = true) (k30 : PySem.W.keepIn K (.ref f30) = true)
    {f31 : Addr} {od31 an31 : Option Addr} {sl31 : Array (Option Value)} {oc31 kV31 dc31 pm31 cd31 ct31 : Value}
    (a31 : PySem.W.nsIn K mainGlobals "_law_two_ways" = some (some (.ref f31))) (l31 : K.lookup f31 = some ⟨oc31, od31, .func (PySem.W.fnOf "_law_two_ways" "_law_two_ways" (defArgs s_law_two_ways) (defBody s_law_two_ways) (defScope s_law_two_ways) .none kV31 dc31 pm31 an31 cd31 ct31), sl31⟩) (c31 : PySem.W.codeIn K cd31 "_law_two_ways" = true) (k31 : PySem.W.keepIn K (.ref f31) = true)
    {f32 : Addr} {od32 an32 : Option Addr} {sl32 : Array (Option Value)} {oc32 kV32 dc32 pm32 cd32 ct32 : Value}
    (a32 : PySem.W.nsIn K mainGlobals "_law_one_way" = some (some (.ref f32))) (l32 : K.lookup f32 = some ⟨oc32, od32, .func (PySem.W.fnOf "_law_one_way" "_law_one_way" (defArgs s_law_one_way) (defBody s_law_one_way) (defScope s_law_one_way) .none kV32 dc32 pm32 an32 cd32 ct32), sl32⟩) (c32 : PySem.W.codeIn K cd32 "_law_one_way" = true) (k32 : PySem.W.keepIn K (.ref f32) = true)
    {f33 : Addr} {od33 an33 : Option Addr} {sl33 : Array (Option Value)} {oc33 kV33 dc33 pm33 cd33 ct33 : Value}
    (a33 : PySem.W.nsIn K mainGlobals "_law_said" = some (some (.ref f33))) (l33 : K.lookup f33 = some ⟨oc33, od33, .func (PySem.W.fnOf "_law_said" "_law_said" (defArgs s_law_said) (defBody s_law_said) (defScope s_law_said) .none kV33 dc33 pm33 an33 cd33 ct33), sl33⟩) (c33 : PySem.W.codeIn K cd33 "_law_said" = true) (k33 : PySem.W.keepIn K (.ref f33) = true)
    {f34 : Addr} {od34 an34 : Option Addr} {sl34 : Array (Option Value)} {oc34 kV34 dc34 pm34 cd34 ct34 : Value}
    (a34 : PySem.W.nsIn K mainGlobals "_law_refuses" = some (some (.ref f34))) (l34 : K.lookup f34 = some ⟨oc34, od34, .func (PySem.W.fnOf "_law_refuses" "_law_refuses" (defArgs s_law_refuses) (defBody s_law_refuses) (defScope s_law_refuses) .none kV34 dc34 pm34 an34 cd34 ct34), sl34⟩) (c34 : PySem.W.codeIn K cd34 "_law_refuses" = true) (k34 : PySem.W.keepIn K (.ref f34) = true)
    {f35 : Addr} {od35 an35 : Option Addr} {sl35 : Array (Option Value)} {oc35 kV35 dc35 pm35 cd35 ct35 : Value}
    (a35 : PySem.W.nsIn K mainGlobals "law" = some (some (.ref f35))) (l35 : K.lookup f35 = some ⟨oc35, od35, .func (PySem.W.fnOf "law" "law" (defArgs s_law) (defBody s_law) (defScope s_law) .none kV35 dc35 pm35 an35 cd35 ct35), sl35⟩) (c35 : PySem.W.codeIn K cd35 "law" = true) (k35 : PySem.W.keepIn K (.ref f35) = true)
    {ca0 : Addr} {cd_0 : Option Addr} {cn0 : Nat} {csl0 : Array (Option Value)} {t0_0 t0_1 t0_2 t0_3 : Tok}
    (ca_0 : PySem.W.nsIn K mainGlobals "KINDS" = some (some (.ref ca0))) (cl_0 : K.lookup ca0 = some ⟨.type "tuple", cd_0, .seq #[.int (-2) t0_0, .int (-1) t0_1, .int (2) t0_2, .int (3) t0_3] cn0, csl0⟩)
    {ca1 : Addr} {cd_1 : Option Addr} {cn1 : Nat} {csl1 : Array (Option Value)} {t1_0 t1_1 : Tok}
    (ca_1 : PySem.W.nsIn K mainGlobals "NOUGHT" = some (some (.ref ca1))) (cl_1 : K.lookup ca1 = some ⟨.type "tuple", cd_1, .seq #[.int (0) t1_0, .int (0) t1_1] cn1, csl1⟩)
    {ca2 : Addr} {cd_2 : Option Addr} {cn2 : Nat} {csl2 : Array (Option Value)} {t2_0 t2_1 : Tok}
    (ca_2 : PySem.W.nsIn K mainGlobals "ONE" = some (some (.ref ca2))) (cl_2 : K.lookup ca2 = some ⟨.type "tuple", cd_2, .seq #[.int (1) t2_0, .int (0) t2_1] cn2, csl2⟩)
    {da : Addr} {dn : Nat} {dt1 dt2 dt3 dt4 : Tok} {db1 db2 db3 db4 : Addr}
    (da_0 : PySem.W.nsIn K mainGlobals "BASIC" = some (some (.ref da))) (dl_0 : K.lookup da = some ⟨.type "dict", none, .dict #[⟨hashInt (-2), .int (-2) dt1, .ref db1⟩, ⟨hashInt (-1), .int (-1) dt2, .ref db2⟩, ⟨hashInt 2, .int 2 dt3, .ref db3⟩, ⟨hashInt 3, .int 3 dt4, .ref db4⟩] dn, #[]⟩)
    {dd0 : Option Addr} {de0 : Nat} {ds0 : Array (Option Value)} {du0 dv0 : Tok} (dl_1 : K.lookup db1 = some ⟨.type "tuple", dd0, .seq #[.int (-1) du0, .int (0) dv0] de0, ds0⟩)
    {dd1 : Option Addr} {de1 : Nat} {ds1 : Array (Option Value)} {du1 dv1 : Tok} (dl_2 : K.lookup db2 = some ⟨.type "tuple", dd1, .seq #[.int (0) du1, .int (1) dv1] de1, ds1⟩)
    {dd2 : Option Addr} {de2 : Nat} {ds2 : Array (Option Value)} {du2 dv2 : Tok} (dl_3 : K.lookup db3 = some ⟨.type "tuple", dd2, .seq #[.int (1) du2, .int (1) dv2] de2, ds2⟩)
    {dd3 : Option Addr} {de3 : Nat} {ds3 : Array (Option Value)} {du3 dv3 : Tok} (dl_4 : K.lookup db4 = some ⟨.type "tuple", dd3, .seq #[.int (2) du3, .int (1) dv3] de3, ds3⟩)
    {ec0 : Addr} (en_0 : PySem.W.nsIn K mainGlobals "FoldError" = some (some (.ref ec0))) (eq_0 : PySem.W.excIn K ec0 bmV newV = true)
    {ec1 : Addr} (en_1 : PySem.W.nsIn K mainGlobals "BadKind" = some (some (.ref ec1))) (eq_1 : PySem.W.excIn K ec1 bmV newV = true)
    {ec2 : Addr} (en_2 : PySem.W.nsIn K mainGlobals "ByNought" = some (some (.ref ec2))) (eq_2 : PySem.W.excIn K ec2 bmV newV = true)
    {ec3 : Addr} (en_3 : PySem.W.nsIn K mainGlobals "NoUnit" = some (some (.ref ec3))) (eq_3 : PySem.W.excIn K ec3 bmV newV = true)
    {ec4 : Addr} (en_4 : PySem.W.nsIn K mainGlobals "NoLine" = some (some (.ref ec4))) (eq_4 : PySem.W.excIn K ec4 bmV newV = true)
    (z1_1 : PySem.W.findIn K (.ref ec1) "__getattribute__" = some (some (.builtin "BaseException.__getattribute__"))) (z2_1 : PySem.W.findIn K (.ref ec1) "__getattr__" = some none) (z3_1 : PySem.W.findIn K (.ref ec1) "__class__" = some (some (.builtin "object.__class__"))) (z4_1 : PySem.W.mroIn K ec1 (.type "BaseException") = some true) (z5_1 : PySem.W.mroIn K ec1 (.type "object") = some true)
    (zm_1_0 : PySem.W.exmOne K (.ref ec1) (.ref ec0) = some true) (zi_1_0 : PySem.W.kitOne K (.ref ec1) (.ref ec0) = some true)
    (zm_1_1 : PySem.W.exmOne K (.ref ec1) (.ref ec1) = some true) (zi_1_1 : PySem.W.kitOne K (.ref ec1) (.ref ec1) = some true)
    (zm_1_2 : PySem.W.exmOne K (.ref ec1) (.ref ec2) = some false) (zi_1_2 : PySem.W.kitOne K (.ref ec1) (.ref ec2) = some false)
    (zm_1_3 : PySem.W.exmOne K (.ref ec1) (.ref ec3) = some false) (zi_1_3 : PySem.W.kitOne K (.ref ec1) (.ref ec3) = some false)
    (zm_1_4 : PySem.W.exmOne K (.ref ec1) (.ref ec4) = some false) (zi_1_4 : PySem.W.kitOne K (.ref ec1) (.ref ec4) = some false)
    (zi_1_v : PySem.W.kitOne K (.ref ec1) (.type "ValueError") = some true)
    (z1_2 : PySem.W.findIn K (.ref ec2) "__getattribute__" = some (some (.builtin "BaseException.__getattribute__"))) (z2_2 : PySem.W.findIn K (.ref ec2) "__getattr__" = some none) (z3_2 : PySem.W.findIn K (.ref ec2) "__class__" = some (some (.builtin "object.__class__"))) (z4_2 : PySem.W.mroIn K ec2 (.type "BaseException") = some true) (z5_2 : PySem.W.mroIn K ec2 (.type "object") = some true)
    (zm_2_0 : PySem.W.exmOne K (.ref ec2) (.ref ec0) = some true) (zi_2_0 : PySem.W.kitOne K (.ref ec2) (.ref ec0) = some true)
    (zm_2_1 : PySem.W.exmOne K (.ref ec2) (.ref ec1) = some false) (zi_2_1 : PySem.W.kitOne K (.ref ec2) (.ref ec1) = some false)
    (zm_2_2 : PySem.W.exmOne K (.ref ec2) (.ref ec2) = some true) (zi_2_2 : PySem.W.kitOne K (.ref ec2) (.ref ec2) = some true)
    (zm_2_3 : PySem.W.exmOne K (.ref ec2) (.ref ec3) = some false) (zi_2_3 : PySem.W.kitOne K (.ref ec2) (.ref ec3) = some false)
    (zm_2_4 : PySem.W.exmOne K (.ref ec2) (.ref ec4) = some false) (zi_2_4 : PySem.W.kitOne K (.ref ec2) (.ref ec4) = some false)
    (zi_2_v : PySem.W.kitOne K (.ref ec2) (.type "ValueError") = some true)
    (z1_3 : PySem.W.findIn K (.ref ec3) "__getattribute__" = some (some (.builtin "BaseException.__getattribute__"))) (z2_3 : PySem.W.findIn K (.ref ec3) "__getattr__" = some none) (z3_3 : PySem.W.findIn K (.ref ec3) "__class__" = some (some (.builtin "object.__class__"))) (z4_3 : PySem.W.mroIn K ec3 (.type "BaseException") = some true) (z5_3 : PySem.W.mroIn K ec3 (.type "object") = some true)
    (zm_3_0 : PySem.W.exmOne K (.ref ec3) (.ref ec0) = some true) (zi_3_0 : PySem.W.kitOne K (.ref ec3) (.ref ec0) = some true)
    (zm_3_1 : PySem.W.exmOne K (.ref ec3) (.ref ec1) = some false) (zi_3_1 : PySem.W.kitOne K (.ref ec3) (.ref ec1) = some false)
    (zm_3_2 : PySem.W.exmOne K (.ref ec3) (.ref ec2) = some false) (zi_3_2 : PySem.W.kitOne K (.ref ec3) (.ref ec2) = some false)
    (zm_3_3 : PySem.W.exmOne K (.ref ec3) (.ref ec3) = some true) (zi_3_3 : PySem.W.kitOne K (.ref ec3) (.ref ec3) = some true)
    (zm_3_4 : PySem.W.exmOne K (.ref ec3) (.ref ec4) = some false) (zi_3_4 : PySem.W.kitOne K (.ref ec3) (.ref ec4) = some false)
    (zi_3_v : PySem.W.kitOne K (.ref ec3) (.type "ValueError") = some true)
    (b_ValueError : PySem.W.nsIn K mainGlobals "ValueError" = some none)
    (b_abs : PySem.W.nsIn K mainGlobals "abs" = some none)
    (b_isinstance : PySem.W.nsIn K mainGlobals "isinstance" = some none)
    (b_len : PySem.W.nsIn K mainGlobals "len" = some none)
    (b_range : PySem.W.nsIn K mainGlobals "range" = some none)
    (b_tuple : PySem.W.nsIn K mainGlobals "tuple" = some none)
    : ∃ fd : FuncData, (∀ (s : Shared) (v : Value), BindsTo s fd ⟨[v], []⟩ [("_law_script", v)]) ∧ ∀ base : Heap, K.In base → base.Ns mainGlobals mg → FnOk l.prog w K mg base (CX1 l.prog w) 20 fa fd ["_law_script"] (sp_law K) := by
  have e := hfa.symm.trans (PySem.W.mg_of X G a35)
  cases e
  have F0 := fun_mk (st := s_check_kind) l0 c0 k0
  have B0 := F0.binds (ps := ["kind"]) fun _ _ _ _ _ _ us hl => match us, hl with | [_], _ => rfl
  have F1 := fun_mk (st := s_added) l1 c1 k1
  have B1 := F1.binds (ps := ["kind", "one", "two"]) fun _ _ _ _ _ _ us hl => match us, hl with | [_, _, _], _ => rfl
  have F2 := fun_mk (st := s_multiplied) l2 c2 k2
  have B2 := F2.binds (ps := ["kind", "one", "two"]) fun _ _ _ _ _ _ us hl => match us, hl with | [_, _, _], _ => rfl
  have F3 := fun_mk (st := s_signed_size) l3 c3 k3
  have B3 := F3.binds (ps := ["kind", "one"]) fun _ _ _ _ _ _ us hl => match us, hl with | [_, _], _ => rfl
  have F4 := fun_mk (st := s_size) l4 c4 k4
  have B4 := F4.binds (ps := ["kind", "one"]) fun _ _ _ _ _ _ us hl => match us, hl with | [_, _], _ => rfl
  have F5 := fun_mk (st := s_mirror) l5 c5 k5
  have B5 := F5.binds (ps := ["one"]) fun _ _ _ _ _ _ us hl => match us, hl with | [_], _ => rfl
  have F6 := fun_mk (st := s_rounded) l6 c6 k6
  have B6 := F6.binds (ps := ["part", "whole"]) fun _ _ _ _ _ _ us hl => match us, hl with | [_, _], _ => rfl
  have F7 := fun_mk (st := s_nearest_quotient) l7 c7 k7
  have B7 := F7.binds (ps := ["kind", "one", "two"]) fun _ _ _ _ _ _ us hl => match us, hl with | [_, _, _], _ => rfl
  have F8 := fun_mk (st := s_without) l8 c8 k8
  have B8 := F8.binds (ps := ["kind", "one", "factor", "two"]) fun _ _ _ _ _ _ us hl => match us, hl with | [_, _, _, _], _ => rfl
  have F9 := fun_mk (st := s_split) l9 c9 k9
  have B9 := F9.binds (ps := ["kind", "one", "two"]) fun _ _ _ _ _ _ us hl => match us, hl with | [_, _, _], _ => rfl
  have F10 := fun_mk (st := s_divides) l10 c10 k10
  have B10 := F10.binds (ps := ["kind", "one", "two"]) fun _ _ _ _ _ _ us hl => match us, hl with | [_, _, _], _ => rfl
  have F11 := fun_mk (st := s_alike) l11 c11 k11
  have B11 := F11.binds (ps := ["kind", "one", "two"]) fun _ _ _ _ _ _ us hl => match us, hl with | [_, _, _], _ => rfl
  have F12 := fun_mk (st := s_common) l12 c12 k12
  have B12 := F12.binds (ps := ["kind", "one", "two"]) fun _ _ _ _ _ _ us hl => match us, hl with | [_, _, _], _ => rfl
  have F13 := fun_mk (st := s_is_unit) l13 c13 k13
  have B13 := F13.binds (ps := ["kind", "one"]) fun _ _ _ _ _ _ us hl => match us, hl with | [_, _], _ => rfl
  have F14 := fun_mk (st := s_check_unit) l14 c14 k14
  have B14 := F14.binds (ps := ["kind", "one"]) fun _ _ _ _ _ _ us hl => match us, hl with | [_, _], _ => rfl
  have F15 := fun_mk (st := s_times_whole) l15 c15 k15
  have B15 := F15.binds (ps := ["whole", "one"]) fun _ _ _ _ _ _ us hl => match us, hl with | [_, _], _ => rfl
  have F16 := fun_mk (st := s_turned) l16 c16 k16
  have B16 := F16.binds (ps := ["kind", "one"]) fun _ _ _ _ _ _ us hl => match us, hl with | [_, _], _ => rfl
  have F17 := fun_mk (st := s_taken) l17 c17 k17
  have B17 := F17.binds (ps := ["kind", "one", "times"]) fun _ _ _ _ _ _ us hl => match us, hl with | [_, _, _], _ => rfl
  have F18 := fun_mk (st := s_unit_of) l18 c18 k18
  have B18 := F18.binds (ps := ["kind", "sign", "times"]) fun _ _ _ _ _ _ us hl => match us, hl with | [_, _, _], _ => rfl
  have F19 := fun_mk (st := s_steps_to) l19 c19 k19
  have B19 := F19.binds (ps := ["kind", "one"]) fun _ _ _ _ _ _ us hl => match us, hl with | [_, _], _ => rfl
  have F20 := fun_mk (st := s_sign_of) l20 c20 k20
  have B20 := F20.binds (ps := ["kind", "one"]) fun _ _ _ _ _ _ us hl => match us, hl with | [_, _], _ => rfl
  have F21 := fun_mk (st := s_told_unit) l21 c21 k21
  have B21 := F21.binds (ps := ["kind", "one"]) fun _ _ _ _ _ _ us hl => match us, hl with | [_, _], _ => rfl
  have F22 := fun_mk (st := s_primes_of) l22 c22 k22
  have B22 := F22.binds (ps := ["whole"]) fun _ _ _ _ _ _ us hl => match us, hl with | [_], _ => rfl
  have F23 := fun_mk (st := s_roots) l23 c23 k23
  have B23 := F23.binds (ps := ["kind", "prime"]) fun _ _ _ _ _ _ us hl => match us, hl with | [_, _], _ => rfl
  have F24 := fun_mk (st := s_part_at) l24 c24 k24
  have B24 := F24.binds (ps := ["kind", "one", "prime"]) fun _ _ _ _ _ _ us hl => match us, hl with | [_, _, _], _ => rfl
  have F25 := fun_mk (st := s_parts) l25 c25 k25
  have B25 := F25.binds (ps := ["kind", "one"]) fun _ _ _ _ _ _ us hl => match us, hl with | [_, _], _ => rfl
  have F26 := fun_mk (st := s_parts_no_further) l26 c26 k26
  have B26 := F26.binds (ps := ["kind", "one"]) fun _ _ _ _ _ _ us hl => match us, hl with | [_, _], _ => rfl
  have F27 := fun_mk (st := s_law_at) l27 c27 k27
  have B27 := F27.binds (ps := ["_law_script", "_law_k"]) fun _ _ _ _ _ _ us hl => match us, hl with | [_, _], _ => rfl
  have F28 := fun_mk (st := s_law_small_by) l28 c28 k28
  have B28 := F28.binds (ps := ["_law_script", "_law_k"]) fun _ _ _ _ _ _ us hl => match us, hl with | [_, _], _ => rfl
  have F29 := fun_mk (st := s_law_product) l29 c29 k29
  have B29 := F29.binds (ps := ["_law_kind", "_law_one", "_law_two"]) fun _ _ _ _ _ _ us hl => match us, hl with | [_, _, _], _ => rfl
  have F30 := fun_mk (st := s_law_size_of) l30 c30 k30
  have B30 := F30.binds (ps := ["_law_kind", "_law_one"]) fun _ _ _ _ _ _ us hl => match us, hl with | [_, _], _ => rfl
  have F31 := fun_mk (st := s_law_two_ways) l31 c31 k31
  have B31 := F31.binds (ps := ["_law_which", "_law_kind", "_law_one", "_law_two"]) fun _ _ _ _ _ _ us hl => match us, hl with | [_, _, _, _], _ => rfl
  have F32 := fun_mk (st := s_law_one_way) l32 c32 k32
  have B32 := F32.binds (ps := ["_law_which", "_law_kind", "_law_one"]) fun _ _ _ _ _ _ us hl => match us, hl with | [_, _, _], _ => rfl
  have F33 := fun_mk (st := s_law_said) l33 c33 k33
  have B33 := F33.binds (ps := ["_law_which", "_law_kind", "_law_one", "_law_two"]) fun _ _ _ _ _ _ us hl => match us, hl with | [_, _, _, _], _ => rfl
  have F34 := fun_mk (st := s_law_refuses) l34 c34 k34
  have B34 := F34.binds (ps := ["_law_which", "_law_kind", "_law_one", "_law_two"]) fun _ _ _ _ _ _ us hl => match us, hl with | [_, _, _, _], _ => rfl
  have F35 := fun_mk (st := s_law) l35 c35 k35
  have B35 := F35.binds (ps := ["_law_script"]) fun _ _ _ _ _ _ us hl => match us, hl with | [_], _ => rfl
  have C0 : mg "KINDS" = some (.ref ca0) ∧ ∀ H : Hp, SqT K H ca0 [.int (-2), .int (-1), .int (2), .int (3)] := ⟨PySem.W.mg_of X G ca_0, fun H => .inr ⟨_, _, _, cl_0, rfl, rfl, (by show 4 ≤ sizeLine; decide), .cons ⟨t0_0, rfl⟩ (.cons ⟨t0_1, rfl⟩ (.cons ⟨t0_2, rfl⟩ (.cons ⟨t0_3, rfl⟩ (.nil))))⟩⟩
  have C1 : mg "NOUGHT" = some (.ref ca1) ∧ ∀ H : Hp, SqT K H ca1 [.int (0), .int (0)] := ⟨PySem.W.mg_of X G ca_1, fun H => .inr ⟨_, _, _, cl_1, rfl, rfl, (by show 2 ≤ sizeLine; decide), .cons ⟨t1_0, rfl⟩ (.cons ⟨t1_1, rfl⟩ (.nil))⟩⟩
  have C2 : mg "ONE" = some (.ref ca2) ∧ ∀ H : Hp, SqT K H ca2 [.int (1), .int (0)] := ⟨PySem.W.mg_of X G ca_2, fun H => .inr ⟨_, _, _, cl_2, rfl, rfl, (by show 2 ≤ sizeLine; decide), .cons ⟨t2_0, rfl⟩ (.cons ⟨t2_1, rfl⟩ (.nil))⟩⟩
  have CD : mg "BASIC" = some (.ref da) ∧ BasD K da := ⟨PySem.W.mg_of X G da_0, ⟨_, _, _, _, _, _, _, _, _, dl_0, fun H => .inr ⟨_, _, _, dl_1, rfl, rfl, (by show 2 ≤ sizeLine; decide), .cons ⟨du0, rfl⟩ (.cons ⟨dv0, rfl⟩ .nil)⟩, fun H => .inr ⟨_, _, _, dl_2, rfl, rfl, (by show 2 ≤ sizeLine; decide), .cons ⟨du1, rfl⟩ (.cons ⟨dv1, rfl⟩ .nil)⟩, fun H => .inr ⟨_, _, _, dl_3, rfl, rfl, (by show 2 ≤ sizeLine; decide), .cons ⟨du2, rfl⟩ (.cons ⟨dv2, rfl⟩ .nil)⟩, fun H => .inr ⟨_, _, _, dl_4, rfl, rfl, (by show 2 ≤ sizeLine; decide), .cons ⟨du3, rfl⟩ (.cons ⟨dv3, rfl⟩ .nil)⟩⟩⟩
  have T : Txt K mg ⟨f0, _, f1, _, f2, _, f3, _, f4, _, f5, _, f6, _, f7, _, f8, _, f9, _, f10, _, f11, _, f12, _, f13, _, f14, _, f15, _, f16, _, f17, _, f18, _, f19, _, f20, _, f21, _, f22, _, f23, _, f24, _, f25, _, f26, _, f27, _, f28, _, f29, _, f30, _, f31, _, f32, _, f33, _, f34, _, fa, _, ca0, ca1, ca2, da, ec0, ec1, ec2, ec3, ec4⟩ := ⟨⟨F0, B0, PySem.W.mg_of X G a0⟩, ⟨F1, B1, PySem.W.mg_of X G a1⟩, ⟨F2, B2, PySem.W.mg_of X G a2⟩, ⟨F3, B3, PySem.W.mg_of X G a3⟩, ⟨F4, B4, PySem.W.mg_of X G a4⟩, ⟨F5, B5, PySem.W.mg_of X G a5⟩, ⟨F6, B6, PySem.W.mg_of X G a6⟩, ⟨F7, B7, PySem.W.mg_of X G a7⟩, ⟨F8, B8, PySem.W.mg_of X G a8⟩, ⟨F9, B9, PySem.W.mg_of X G a9⟩, ⟨F10, B10, PySem.W.mg_of X G a10⟩, ⟨F11, B11, PySem.W.mg_of X G a11⟩, ⟨F12, B12, PySem.W.mg_of X G a12⟩, ⟨F13, B13, PySem.W.mg_of X G a13⟩, ⟨F14, B14, PySem.W.mg_of X G a14⟩, ⟨F15, B15, PySem.W.mg_of X G a15⟩, ⟨F16, B16, PySem.W.mg_of X G a16⟩, ⟨F17, B17, PySem.W.mg_of X G a17⟩, ⟨F18, B18, PySem.W.mg_of X G a18⟩, ⟨F19, B19, PySem.W.mg_of X G a19⟩, ⟨F20, B20, PySem.W.mg_of X G a20⟩, ⟨F21, B21, PySem.W.mg_of X G a21⟩, ⟨F22, B22, PySem.W.mg_of X G a22⟩, ⟨F23, B23, PySem.W.mg_of X G a23⟩, ⟨F24, B24, PySem.W.mg_of X G a24⟩, ⟨F25, B25, PySem.W.mg_of X G a25⟩, ⟨F26, B26, PySem.W.mg_of X G a26⟩, ⟨F27, B27, PySem.W.mg_of X G a27⟩, ⟨F28, B28, PySem.W.mg_of X G a28⟩, ⟨F29, B29, PySem.W.mg_of X G a29⟩, ⟨F30, B30, PySem.W.mg_of X G a30⟩, ⟨F31, B31, PySem.W.mg_of X G a31⟩, ⟨F32, B32, PySem.W.mg_of X G a32⟩, ⟨F33, B33, PySem.W.mg_of X G a33⟩, ⟨F34, B34, PySem.W.mg_of X G a34⟩, ⟨F35, B35, PySem.W.mg_of X G a35⟩, C0, C1, C2, CD, ⟨PySem.W.mg_of X G en_0, eq_0⟩, ⟨PySem.W.mg_of X G en_1, eq_1⟩, ⟨PySem.W.mg_of X G en_2, eq_2⟩, ⟨PySem.W.mg_of X G en_3, eq_3⟩, ⟨PySem.W.mg_of X G en_4, eq_4⟩, ⟨z1_1, z2_1, z3_1, z4_1, z5_1⟩, zm_1_0, zi_1_0, zm_1_1, zi_1_1, zm_1_2, zi_1_2, zm_1_3, zi_1_3, zm_1_4, zi_1_4, zi_1_v, ⟨z1_2, z2_2, z3_2, z4_2, z5_2⟩, zm_2_0, zi_2_0, zm_2_1, zi_2_1, zm_2_2, zi_2_2, zm_2_3, zi_2_3, zm_2_4, zi_2_4, zi_2_v, ⟨z1_3, z2_3, z3_3, z4_3, z5_3⟩, zm_3_0, zi_3_0, zm_3_1, zi_3_1, zm_3_2, zi_3_2, zm_3_3, zi_3_3, zm_3_4, zi_3_4, zi_3_v, PySem.W.mg_none_of X G b_ValueError, PySem.W.mg_none_of X G b_abs, PySem.W.mg_none_of X G b_isinstance, PySem.W.mg_none_of X G b_len, PySem.W.mg_none_of X G b_range, PySem.W.mg_none_of X G b_tuple⟩
  exact ⟨_, fun s v => .of_eq rfl, fun base _ _ => ok_law T⟩
theorem walk {l : PySem.W.OpenLaw} {q : Program} {loose : List Str} {XP : (Str → Option Value) → Heap → Prop} {YP : World → Heap → Prop} {d : DefRec} {K : Params → PySem.W.Frag} (hn : l.most = some 63) (hdf : d.params.defaults = [])
    (hY : ∀ (w : World) (h : Heap), YP w h → (K w.params).In h)
    (F : ∀ (w : World) (mg : Str → Option Value) (fa : Addr) (h : Heap), (K w.params).In h → h.Ns mainGlobals mg → mg d.name = some (.ref fa) →
      ∃ fd : FuncData, (∀ (s : Shared) (u : Value), BindsTo s fd ⟨[u], []⟩ [("_law_script", u)]) ∧ ∀ base : Heap, (K w.params).In base → base.Ns mainGlobals mg → FnOk l.prog w (K w.params) mg base (CX1 l.prog w) 20 fa fd ["_law_script"] (sp_law (K w.params))) :
    PySem.W.WalkO q loose XP YP l.row.toRowW d [] (fun f vs => PySem.call f vs) :=
  L2.walk_of (n := 63) (k := 20) (x := "_law_script") (CX := fun w => CX1 l.prog w) (sp := fun w => sp_law (K w.params)) hn (by decide) hdf ⟨rfl, by decide, by decide⟩ hY F (fun _ _ a ns hl _ hS => ⟨a, ns, rfl, hS, hl, fun _ => rfl⟩) fun _ _ _ _ _ z => L4.cx1_false z
end Law
open PySem PySem.W PyProof.Rows
set_option maxRecDepth 100000 in
set_option maxHeartbeats 0 in
theorem PySem.Challenge.cw_twofold_k08_refused_holds : PySem.Challenge.rw_twofold_k08_refused.Holds := by
  w_on; o_law; k_head; (case hw => w_witness2)
  k_fill
  refine Law.walk (l := PySem.Challenge.rw_twofold_k08_refused) rfl rfl (fun w h Y => PySem.W.kIn_of Y) ?F
  case F =>
    intro w mg fa h KX G hmg
    refine' Law.all_mk KX G hmg ?a0 ?l0 ?c0 ?k0 ?a1 ?l1 ?c1 ?k1 ?a2 ?l2 ?c2 ?k2 ?a3 ?l3 ?c3 ?k3 ?a4 ?l4 ?c4 ?k4 ?a5 ?l5 ?c5 ?k5 ?a6 ?l6 ?c6 ?k6 ?a7 ?l7 ?c7 ?k7 ?a8 ?l8 ?c8 ?k8 ?a9 ?l9 ?c9 ?k9 ?a10 ?l10 ?c10 ?k10 ?a11 ?l11 ?c11 ?k11 ?a12 ?l12 ?c12 ?k12 ?a13 ?l13 ?c13 ?k13 ?a14 ?l14 ?c14 ?k14 ?a15 ?l15 ?c15 ?k15 ?a16 ?l16 ?c16 ?k16 ?a17 ?l17 ?c17 ?k17 ?a18 ?l18 ?c18 ?k18 ?a19 ?l19 ?c19 ?k19 ?a20 ?l20 ?c20 ?k20 ?a21 ?l21 ?c21 ?k21 ?a22 ?l22 ?c22 ?k22 ?a23 ?l23 ?c23 ?k23 ?a24 ?l24 ?c24 ?k24 ?a25 ?l25 ?c25 ?k25 ?a26 ?l26 ?c26 ?k26 ?a27 ?l27 ?c27 ?k27 ?a28 ?l28 ?c28 ?k28 ?a29 ?l29 ?c29 ?k29 ?a30 ?l30 ?c30 ?k30 ?a31 ?l31 ?c31 ?k31 ?a32 ?l32 ?c32 ?k32 ?a33 ?l33 ?c33 ?k33 ?a34 ?l34 ?c34 ?k34 ?a35 ?l35 ?c35 ?k35 ?ca_0 ?cl_0 ?ca_1 ?cl_1 ?ca_2 ?cl_2 ?da_0 ?dl_0 ?dl_1 ?dl_2 ?dl_3 ?dl_4 ?en_0 ?eq_0 ?en_1 ?eq_1 ?en_2 ?eq_2 ?en_3 ?eq_3 ?en_4 ?eq_4 ?z1_1 ?z2_1 ?z3_1 ?z4_1 ?z5_1 ?zm_1_0 ?zi_1_0 ?zm_1_1 ?zi_1_1 ?zm_1_2 ?zi_1_2 ?zm_1_3 ?zi_1_3 ?zm_1_4 ?zi_1_4 ?zi_1_v ?z1_2 ?z2_2 ?z3_2 ?z4_2 ?z5_2 ?zm_2_0 ?zi_2_0 ?zm_2_1 ?zi_2_1 ?zm_2_2 ?zi_2_2 ?zm_2_3 ?zi_2_3 ?zm_2_4 ?zi_2_4 ?zi_2_v ?z1_3 ?z2_3 ?z3_3 ?z4_3 ?z5_3 ?zm_3_0 ?zi_3_0 ?zm_3_1 ?zi_3_1 ?zm_3_2 ?zi_3_2 ?zm_3_3 ?zi_3_3 ?zm_3_4 ?zi_3_4 ?zi_3_v ?b_ValueError ?b_abs ?b_isinstance ?b_len ?b_range ?b_tuple
    (case a0 => k_is)
    (case l0 => k_is)
    (case c0 => k_is)
    (case k0 => k_is)
    (case a1 => k_is)
    (case l1 => k_is)
    (case c1 => k_is)
    (case k1 => k_is)
    (case a2 => k_is)
    (case l2 => k_is)
    (case c2 => k_is)
    (case k2 => k_is)
    (case a3 => k_is)
    (case l3 => k_is)
    (case c3 => k_is)
    (case k3 => k_is)
    (case a4 => k_is)
    (case l4 => k_is)
    (case c4 => k_is)
    (case k4 => k_is)
    (case a5 => k_is)
    (case l5 => k_is)
    (case c5 => k_is)
    (case k5 => k_is)
    (case a6 => k_is)
    (case l6 => k_is)
    (case c6 => k_is)
    (case k6 => k_is)
    (case a7 => k_is)
    (case l7 => k_is)
    (case c7 => k_is)
    (case k7 => k_is)
    (case a8 => k_is)
    (case l8 => k_is)
    (case c8 => k_is)
    (case k8 => k_is)
    (case a9 => k_is)
    (case l9 => k_is)
    (case c9 => k_is)
    (case k9 => k_is)
    (case a10 => k_is)
    (case l10 => k_is)
    (case c10 => k_is)
    (case k10 => k_is)
    (case a11 => k_is)
    (case l11 => k_is)
    (case c11 => k_is)
    (case k11 => k_is)
    (case a12 => k_is)
    (case l12 => k_is)
    (case c12 => k_is)
    (case k12 => k_is)
    (case a13 => k_is)
    (case l13 => k_is)
    (case c13 => k_is)
    (case k13 => k_is)
    (case a14 => k_is)
    (case l14 => k_is)
    (case c14 => k_is)
    (case k14 => k_is)
    (case a15 => k_is)
    (case l15 => k_is)
    (case c15 => k_is)
    (case k15 => k_is)
    (case a16 => k_is)
    (case l16 => k_is)
    (case c16 => k_is)
    (case k16 => k_is)
    (case a17 => k_is)
    (case l17 => k_is)
    (case c17 => k_is)
    (case k17 => k_is)
    (case a18 => k_is)
    (case l18 => k_is)
    (case c18 => k_is)
    (case k18 => k_is)
    (case a19 => k_is)
    (case l19 => k_is)
    (case c19 => k_is)
    (case k19 => k_is)
    (case a20 => k_is)
    (case l20 => k_is)
    (case c20 => k_is)
    (case k20 => k_is)
    (case a21 => k_is)
    (case l21 => k_is)
    (case c21 => k_is)
    (case k21 => k_is)
    (case a22 => k_is)
    (case l22 => k_is)
    (case c22 => k_is)
    (case k22 => k_is)
    (case a23 => k_is)
    (case l23 => k_is)
    (case c23 => k_is)
    (case k23 => k_is)
    (case a24 => k_is)
    (case l24 => k_is)
    (case c24 => k_is)
    (case k24 => k_is)
    (case a25 => k_is)
    (case l25 => k_is)
    (case c25 => k_is)
    (case k25 => k_is)
    (case a26 => k_is)
    (case l26 => k_is)
    (case c26 => k_is)
    (case k26 => k_is)
    (case a27 => k_is)
    (case l27 => k_is)
    (case c27 => k_is)
    (case k27 => k_is)
    (case a28 => k_is)
    (case l28 => k_is)
    (case c28 => k_is)
    (case k28 => k_is)
    (case a29 => k_is)
    (case l29 => k_is)
    (case c29 => k_is)
    (case k29 => k_is)
    (case a30 => k_is)
    (case l30 => k_is)
    (case c30 => k_is)
    (case k30 => k_is)
    (case a31 => k_is)
    (case l31 => k_is)
    (case c31 => k_is)
    (case k31 => k_is)
    (case a32 => k_is)
    (case l32 => k_is)
    (case c32 => k_is)
    (case k32 => k_is)
    (case a33 => k_is)
    (case l33 => k_is)
    (case c33 => k_is)
    (case k33 => k_is)
    (case a34 => k_is)
    (case l34 => k_is)
    (case c34 => k_is)
    (case k34 => k_is)
    (case a35 => k_is)
    (case l35 => k_is)
    (case c35 => k_is)
    (case k35 => k_is)
    (case ca_0 => k_is)
    (case cl_0 => k_is)
    (case ca_1 => k_is)
    (case cl_1 => k_is)
    (case ca_2 => k_is)
    (case cl_2 => k_is)
    (case da_0 => k_is)
    (case dl_0 => k_is)
    (case dl_1 => k_is)
    (case dl_2 => k_is)
    (case dl_3 => k_is)
    (case dl_4 => k_is)
    (case en_0 => k_is)
    (case eq_0 => k_exc)
    (case en_1 => k_is)
    (case eq_1 => k_exc)
    (case en_2 => k_is)
    (case eq_2 => k_exc)
    (case en_3 => k_is)
    (case eq_3 => k_exc)
    (case en_4 => k_is)
    (case eq_4 => k_exc)
    (case z1_1 => k_is)
    (case z2_1 => k_is)
    (case z3_1 => k_is)
    (case z4_1 => k_is)
    (case z5_1 => k_is)
    (case zm_1_0 => kts_exm)
    (case zi_1_0 => kit_is)
    (case zm_1_1 => kts_exm)
    (case zi_1_1 => kit_is)
    (case zm_1_2 => kts_exm)
    (case zi_1_2 => kit_is)
    (case zm_1_3 => kts_exm)
    (case zi_1_3 => kit_is)
    (case zm_1_4 => kts_exm)
    (case zi_1_4 => kit_is)
    (case zi_1_v => kit_is)
    (case z1_2 => k_is)
    (case z2_2 => k_is)
    (case z3_2 => k_is)
    (case z4_2 => k_is)
    (case z5_2 => k_is)
    (case zm_2_0 => kts_exm)
    (case zi_2_0 => kit_is)
    (case zm_2_1 => kts_exm)
    (case zi_2_1 => kit_is)
    (case zm_2_2 => kts_exm)
    (case zi_2_2 => kit_is)
    (case zm_2_3 => kts_exm)
    (case zi_2_3 => kit_is)
    (case zm_2_4 => kts_exm)
    (case zi_2_4 => kit_is)
    (case zi_2_v => kit_is)
    (case z1_3 => k_is)
    (case z2_3 => k_is)
    (case z3_3 => k_is)
    (case z4_3 => k_is)
    (case z5_3 => k_is)
    (case zm_3_0 => kts_exm)
    (case zi_3_0 => kit_is)
    (case zm_3_1 => kts_exm)
    (case zi_3_1 => kit_is)
    (case zm_3_2 => kts_exm)
    (case zi_3_2 => kit_is)
    (case zm_3_3 => kts_exm)
    (case zi_3_3 => kit_is)
    (case zm_3_4 => kts_exm)
    (case zi_3_4 => kit_is)
    (case zi_3_v => kit_is)
    (case b_ValueError => k_is)
    (case b_abs => k_is)
    (case b_isinstance => k_is)
    (case b_len => k_is)
    (case b_range => k_is)
    (case b_tuple => k_is)
