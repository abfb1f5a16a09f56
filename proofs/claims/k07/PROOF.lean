import PyProof.Rows.All
import Wide.All
import OpenK.AllK
import Wide.FinOn
import Lean
import PyProof.EqAt
import PyProof.EqKinds
import PyProof.TupleCall
import PyProof.NeKinds
import PyProof.ExcAttrAll.ValueError
import KE.RegKTryMore
import KE.RegKIsAll
import PyProof.NsDelKeeps
import PyProof.Rows.StrFromFirst
import PyProof.Rows.StrClose3
import PyProof.Rows.StrNews2
import KE.KRevIter
import PyProof.CollectIter
import PyProof.JoinWalk
import PySem.Challenge.RW_twofold_k07_lines
set_option Elab.async false
set_option linter.all false
set_option maxRecDepth 100000
/-! THE HAND LAYER, for ints, bools, texts, own classes, LISTS and tuples (index, slices, in, append, pop ..), calls, loops. Paste it whole ahead of your own text; what your proof does not reach may be deleted. -/
namespace L2
open PySem PySem.Spec PyProof.Rows

/-- a key: an int or a str -/
abbrev Key := Sum Int Str
def keyIs : Key → Value → Bool
  | .inl k, v => Value.isInt k v
  | .inr x, v => Value.isStrOf x v
def keyH (w : World) : Key → Int
  | .inl k => hashInt k
  | .inr x => hashStr w x
theorem keyIs_shape : ∀ {k : Key} {v : Value}, keyIs k v = true → (∃ i t, k = Sum.inl i ∧ v = Value.int i t) ∨ (∃ x t, k = Sum.inr x ∧ v = Value.str x t)
  | .inl i, v, h => by
    obtain ⟨t, e⟩ := Value.isInt_shape (k := i) (v := v) h
    exact .inl ⟨i, t, rfl, e⟩
  | .inr x, v, h => by
    obtain ⟨t, e⟩ := Value.isStrOf_shape (x := x) (v := v) h
    exact .inr ⟨x, t, rfl, e⟩
theorem keyIs_int (i : Int) (t : Tok) : keyIs (.inl i) (.int i t) = true := by simp [keyIs, Value.isInt]
theorem keyIs_str (x : Str) (t : Tok) : keyIs (.inr x) (.str x t) = true := by simp [keyIs, Value.isStrOf]
theorem key_ll (a b : Int) : decide ((Sum.inl a : Key) = Sum.inl b) = (a == b) := by
  by_cases e : a = b
  · subst e; simp
  · have h : ¬ (Sum.inl a : Key) = Sum.inl b := fun q => e (Sum.inl.inj q)
    rw [decide_eq_false h]
    exact (beq_eq_false_iff_ne.mpr e).symm
theorem key_rr (a b : Str) : decide ((Sum.inr a : Key) = Sum.inr b) = decide (a = b) := by
  by_cases e : a = b
  · subst e; simp
  · have h : ¬ (Sum.inr a : Key) = Sum.inr b := fun q => e (Sum.inr.inj q)
    rw [decide_eq_false h, decide_eq_false e]
theorem key_lr (a : Int) (b : Str) : decide ((Sum.inl a : Key) = Sum.inr b) = false := decide_eq_false (fun q => nomatch q)
theorem key_rl (a : Str) (b : Int) : decide ((Sum.inr a : Key) = Sum.inl b) = false := decide_eq_false (fun q => nomatch q)

def mixKind (prog : Program) (w : World) : PySem.KeyKind prog w Key where
  is := keyIs
  hash := keyH w
  inj := fun v a b ha hb => by
    rcases keyIs_shape ha with ⟨i, t, rfl, rfl⟩ | ⟨x, t, rfl, rfl⟩
    · rcases keyIs_shape hb with ⟨j, u, rfl, e⟩ | ⟨y, u, rfl, e⟩
      · injection e with e1 _; rw [e1]
      · exact nomatch e
    · rcases keyIs_shape hb with ⟨j, u, rfl, e⟩ | ⟨y, u, rfl, e⟩
      · exact nomatch e
      · injection e with e1 _; rw [e1]
  byValue := fun k v h => by
    rcases keyIs_shape h with ⟨i, t, rfl, rfl⟩ | ⟨x, t, rfl, rfl⟩ <;> rfl
  pyHash := fun hv h => by
    rcases keyIs_shape hv with ⟨i, t, rfl, rfl⟩ | ⟨x, t, rfl, rfl⟩
    · exact wpAny_pyHash_int h
    · exact wpAny_pyHash_str h
  eqBool := fun hu hv h => by
    rcases keyIs_shape hu with ⟨i, t, rfl, rfl⟩ | ⟨x, t, rfl, rfl⟩
    · rcases keyIs_shape hv with ⟨j, u, rfl, rfl⟩ | ⟨y, u, rfl, rfl⟩
      · rw [key_ll] at h; exact wpAny_eqBool_int h
      · rw [key_lr] at h; exact SeqAt.EqAt.int_str i t y u _ _ _ _ h
    · rcases keyIs_shape hv with ⟨j, u, rfl, rfl⟩ | ⟨y, u, rfl, rfl⟩
      · rw [key_rl] at h; exact SeqAt.EqAt.str_int x t j u _ _ _ _ h
      · rw [key_rr] at h; exact wpAny_eqBool_str h
  «strs» := fun k x t v h => by
    rcases keyIs_shape h with ⟨i, u, rfl, e⟩ | ⟨y, u, rfl, e⟩
    · exact nomatch e
    · injection e with e1 _
      subst e1
      cases v <;> rfl

theorem mixKind_is (prog : Program) (w : World) (k : Key) (v : Value) : (mixKind prog w).is k v = keyIs k v := rfl
theorem mixKind_int (prog : Program) (w : World) (i : Int) (t : Tok) : (mixKind prog w).is (.inl i) (.int i t) = true := keyIs_int i t
theorem mixKind_str (prog : Program) (w : World) (x : Str) (t : Tok) : (mixKind prog w).is (.inr x) (.str x t) = true := keyIs_str x t
end L2

namespace L2
open PySem PySem.Spec PyProof.Rows

/-- a value, without the heap -/
inductive V where
  | non | bl (b : Bool) | int (i : Int) | str (x : Str) | byt (b : Array UInt8) | flt (b : UInt64) | ref (a : Addr) | ty (n : String)
  deriving DecidableEq

def RelV : V → Value → Prop
  | .non, u => u = Value.none
  | .bl b, u => u = Value.bool b
  | .int i, u => ∃ t, u = Value.int i t
  | .str x, u => ∃ t, u = Value.str x t
  | .byt b, u => ∃ t, u = Value.bytes b t
  | .flt b, u => ∃ t, u = Value.float b t
  | .ref a, u => u = Value.ref a
  | .ty n, u => u = Value.type n

abbrev Vals : List V → List Value → Prop := Paired RelV
theorem Vals.length {xs : List V} {us : List Value} (r : Vals xs us) : xs.length = us.length := Paired.length r
theorem Vals.get : ∀ {xs : List V} {us : List Value} {i : Nat} {x : V}, Vals xs us → xs[i]? = some x → ∃ u, us[i]? = some u ∧ RelV x u
  | _, _, _, _, .nil, e => by simp at e
  | _, _, 0, _, .cons r _, e => by simp at e; subst e; exact ⟨_, rfl, r⟩
  | _, _, i + 1, x, .cons _ t, e => by
    obtain ⟨u, h1, h2⟩ := Vals.get (i := i) (x := x) t (by simpa using e)
    exact ⟨u, by simpa using h1, h2⟩
theorem Vals.set {x : V} {u : Value} (r : RelV x u) : ∀ {xs : List V} {us : List Value} (i : Nat), Vals xs us → Vals (xs.set i x) (us.set i u)
  | _, _, _, .nil => .nil
  | _, _, 0, .cons _ t => .cons r t
  | _, _, i + 1, .cons q t => .cons q (Vals.set r i t)
theorem Vals.append : ∀ {xs ys : List V} {us ws : List Value}, Vals xs us → Vals ys ws → Vals (xs ++ ys) (us ++ ws)
  | _, _, _, _, .nil, s => s
  | _, _, _, _, .cons r t, s => .cons r (Vals.append t s)
theorem Vals.take : ∀ {xs : List V} {us : List Value} (n : Nat), Vals xs us → Vals (xs.take n) (us.take n)
  | _, _, 0, _ => .nil
  | _, _, _ + 1, .nil => .nil
  | _, _, n + 1, .cons r t => .cons r (Vals.take n t)
theorem Vals.drop : ∀ {xs : List V} {us : List Value} (n : Nat), Vals xs us → Vals (xs.drop n) (us.drop n)
  | _, _, 0, r => r
  | _, _, _ + 1, .nil => .nil
  | _, _, n + 1, .cons _ t => Vals.drop n t
theorem Vals.none_of : ∀ {xs : List V} {us : List Value} {i : Nat}, Vals xs us → xs[i]? = none → us[i]? = none := fun {xs us i} r e => by
  have h1 := r.length
  have h2 : xs.length ≤ i := List.getElem?_eq_none_iff.mp e
  exact List.getElem?_eq_none_iff.mpr (by omega)

def RelO : Option V → Option Value → Prop
  | some v, some u => RelV v u
  | none, none => True
  | _, _ => False
def KV {κ : Type} : List (κ × V) → List (κ × Value) → Prop := Paired fun (p : κ × V) (q : κ × Value) => p.1 = q.1 ∧ RelV p.2 q.2

/-- a key of a dict (00_mix): an int or a text -/
def kV : Key → V
  | .inl i => .int i
  | .inr x => .str x

/-- what stands at a tracked address -/
inductive HO where
  /-- a list -/
  | lst (xs : List V)
  /-- a tuple (never changes) -/
  | tup (xs : List V)
  /-- a dict whose keys are ints and texts; one whose keys are tuples of ints and texts (the empty one is both) -/
  | dK (kvs : List (Key × V)) | dT (kvs : List (List Key × V))
  /-- a set of ints: its members, its size -/
  | set (S : Int → Bool) (n : Nat)
  /-- an instance of the class at C, its dict at dx, its attributes -/
  | ins (C dx : Addr) (fs : List (Str × V))
  /-- the dict of the instance at x -/
  | own (x : Addr)
  /-- the dict of an exception -/
  | xd (fs : List (Str × V))
  /-- a bound method, f of x -/
  | met (f x : Addr)
  /-- a range object lo, lo + 1, .. below hi -/
  | rng (lo hi : Int)
  /-- a thing that is known to the object (the script; a dict while a loop walks it): read, never written while it is so -/
  | frz (o : Obj) (u : HO)
  /-- a code object's table -/
  | tbl (ps : Array Value)
  /-- any other thing, by what is true of its one object (a def of one's own: SetO a S n := HO.ext fun h => ..) -/
  | ext (φ : Heap → Prop)

abbrev Hp := Addr → Option HO
def upd (H : Hp) (a : Addr) (o : HO) : Hp := fun b => if b = a then some o else H b
theorem upd_same {H : Hp} {a : Addr} {o : HO} : upd H a o a = some o := by unfold upd; rw [if_pos rfl]
theorem upd_ne {H : Hp} {a b : Addr} {o : HO} (h : b ≠ a) : upd H a o b = H b := by unfold upd; rw [if_neg h]
theorem upd_upd {H : Hp} {a : Addr} {o u : HO} : upd (upd H a o) a u = upd H a u := by
  funext b; unfold upd; split <;> rfl
/-- two objects of different content stand apart -/
theorem ne_of {H : Hp} {a b : Addr} {o u : HO} (h : H a = some o) (h' : H b = some u) (d : o ≠ u) : a ≠ b := by
  intro e; subst e; rw [h] at h'; exact d (Option.some.inj h')
theorem ne_of_none {H : Hp} {a b : Addr} {o : HO} (h : H a = some o) (h' : H b = none) : a ≠ b := by
  intro e; subst e; rw [h] at h'; cases h'

section
variable (P : Program) (w : World)
def ObjOk (H : Hp) (h : Heap) (a : Addr) : HO → Prop
  | .lst xs => xs.length ≤ sizeLine ∧ ∃ (its : List Value) (n : Nat), Vals xs its ∧ h.get? a = some { cls := .type "list", data := .seq its.toArray n }
  | .tup xs => xs.length ≤ sizeLine ∧ ∃ its : List Value, Vals xs its ∧ IsTup h a its.toArray
  | .dK kvs => kvs.length ≤ sizeLine ∧ (a == sysModules) = false ∧ ∃ vs, KV kvs vs ∧ h.DictOf (mixKind P w) a vs
  | .dT kvs => kvs.length ≤ sizeLine ∧ (a == sysModules) = false ∧ ∃ xs : List (List Key × Addr × Value),
      Paired (fun (p : List Key × V) (q : List Key × Addr × Value) => p.1 = q.1 ∧ H q.2.1 = some (.tup (p.1.map kV)) ∧ RelV p.2 q.2.2) kvs xs ∧
      ∃ o es ep, h.get? a = some o ∧ o.ExactDict ∧ o.data = .dict es ep ∧ es.toList = xs.map (entryOfKey (tupleKind (mixKind P w))) ∧ (xs.map (·.1)).Nodup
  | .set S n => h.SetOf (intKind P w) a S n
  | .ins C dx fs => H dx = some (.own a) ∧ fs.length ≤ 1000 ∧ dx ≠ a ∧ h.get? a = some (PySem.W.instObj C dx) ∧
      ∃ mA, h.Ns1 dx mA ∧ (∀ f, RelO (fs.lookup f) (mA f)) ∧ PySem.Within mA (fs.map (·.1))
  | .own _ => ∃ o, h.get? a = some o
  | .xd fs => ∃ mA, h.Ns1 a mA ∧ ∀ f, RelO (fs.lookup f) (mA f)
  | .rng lo hi => ∃ t u v, h.get? a = some { cls := .type "range", data := .fields #[.int lo t, .int hi u, .int 1 v] }
  | .frz o u => h.get? a = some o ∧ ObjOk H h a u
  | .tbl ps => h.get? a = some { cls := .none, data := .fields ps }
  | .met f x => h.get? a = some (PySem.W.methodObj (.ref f) (.ref x))
  | .ext φ => φ h ∧ (∃ o, h.get? a = some o) ∧ ∀ h1 h2 : Heap, φ h1 → (∀ o, h1.get? a = some o → h2.get? a = some o) → φ h2
/-- the abstract heap is held -/
def HOk (H : Hp) (h : Heap) : Prop := ∀ a o, H a = some o → ObjOk P w H h a o
end

section
variable {P : Program} {w : World} {H H' : Hp} {h h' : Heap} {a : Addr} {o : HO}
theorem ObjOk.lt (x : ObjOk P w H h a o) : a < h.objs.size := by
  cases o with
  | lst xs => obtain ⟨_, _, _, _, e⟩ := x; exact Heap.lt_size e
  | tup xs => obtain ⟨_, _, _, p⟩ := x; exact p.lt
  | dK kvs => obtain ⟨_, _, _, _, o, _, _, e, _⟩ := x; exact Heap.lt_size e
  | dT kvs => obtain ⟨_, _, _, _, o, _, _, e, _⟩ := x; exact Heap.lt_size e
  | set S n => obtain ⟨o, _, _, _, e, _⟩ := x; exact Heap.lt_size e
  | ins C dx fs => obtain ⟨_, _, _, e, _⟩ := x; exact Heap.lt_size e
  | own y => obtain ⟨_, e⟩ := x; exact Heap.lt_size e
  | xd fs => obtain ⟨_, ⟨_, _, _, e, _⟩, _⟩ := x; exact Heap.lt_size e
  | rng lo hi => obtain ⟨_, _, _, e⟩ := x; exact Heap.lt_size e
  | frz ob u => obtain ⟨e, _⟩ := x; exact Heap.lt_size e
  | tbl ps => exact Heap.lt_size (show h.get? a = some _ from x)
  | met f y => exact Heap.lt_size (show h.get? a = some _ from x)
  | ext φ => obtain ⟨_, ⟨_, e⟩, _⟩ := x; exact Heap.lt_size e
theorem Paired.mapP {α β : Type} {F G : α → β → Prop} : ∀ {l₁ : List α} {l₂ : List β}, Paired F l₁ l₂ → (∀ a b, F a b → G a b) → Paired G l₁ l₂
  | _, _, .nil, _ => .nil
  | _, _, .cons r t, f => .cons (f _ _ r) (Paired.mapP t f)
theorem Paired.imp' {α β : Type} {F G : α → β → Prop} (f : ∀ a b, F a b → G a b) {l₁ : List α} {l₂ : List β} (r : Paired F l₁ l₂) : Paired G l₁ l₂ := Paired.mapP r f
/-- what an object's description leans on: its own object, its own dict, the tuples -/
theorem ObjOk.stay (x : ObjOk P w H h a o) (k : ∀ b u, (b = a ∨ H b = some (.own a)) → h.get? b = some u → h'.get? b = some u)
    (ho : ∀ b, H b = some (.own a) → H' b = some (.own a)) (ht : ∀ b xs, H b = some (.tup xs) → H' b = some (.tup xs)) : ObjOk P w H' h' a o := by
  induction o with
  | lst xs => obtain ⟨z, its, n, r, e⟩ := x; exact ⟨z, its, n, r, k _ _ (.inl rfl) e⟩
  | tup xs => obtain ⟨z, its, r, ob, e, c⟩ := x; exact ⟨z, its, r, ob, k _ _ (.inl rfl) e, c⟩
  | dK kvs => obtain ⟨z, y, vs, r, ob, es, ep, e, c⟩ := x; exact ⟨z, y, vs, r, ob, es, ep, k _ _ (.inl rfl) e, c⟩
  | dT kvs =>
    obtain ⟨z, y, xs, r, ob, es, ep, e, c⟩ := x
    exact ⟨z, y, xs, Paired.mapP r fun p q z => ⟨z.1, ht _ _ z.2.1, z.2.2⟩, ob, es, ep, k _ _ (.inl rfl) e, c⟩
  | set S n => obtain ⟨ob, es, ep, t, e, c⟩ := x; exact ⟨ob, es, ep, t, k _ _ (.inl rfl) e, c⟩
  | ins C dx fs =>
    obtain ⟨d, z, ne, e, mA, ⟨od, es, ep, e2, c⟩, r⟩ := x
    exact ⟨ho _ d, z, ne, k _ _ (.inl rfl) e, mA, ⟨od, es, ep, k _ _ (.inr d) e2, c⟩, r⟩
  | own y => obtain ⟨ob, e⟩ := x; exact ⟨ob, k _ _ (.inl rfl) e⟩
  | xd fs => obtain ⟨mA, ⟨od, es, ep, e, c⟩, r⟩ := x; exact ⟨mA, ⟨od, es, ep, k _ _ (.inl rfl) e, c⟩, r⟩
  | rng lo hi => obtain ⟨t, u, v, e⟩ := x; exact ⟨t, u, v, k _ _ (.inl rfl) e⟩
  | frz ob u ih => obtain ⟨e, q⟩ := x; exact ⟨k _ _ (.inl rfl) e, ih q⟩
  | tbl ps =>
    have e : h.get? a = some { cls := .none, data := .fields ps } := x
    show h'.get? a = some { cls := .none, data := .fields ps }
    exact k a _ (.inl rfl) e
  | met f y =>
    have e : h.get? a = some (PySem.W.methodObj (.ref f) (.ref y)) := x
    show h'.get? a = some (PySem.W.methodObj (.ref f) (.ref y))
    exact k a _ (.inl rfl) e
  | ext φ => obtain ⟨p, ⟨o, e⟩, st⟩ := x; exact ⟨st _ _ p fun o q => k _ _ (.inl rfl) q, ⟨o, k _ _ (.inl rfl) e⟩, st⟩
theorem HOk.lt (x : HOk P w H h) (e : H a = some o) : a < h.objs.size := (x a o e).lt
theorem HOk.fresh (x : HOk P w H h) (e : h.objs.size ≤ a) : H a = none := by
  cases q : H a with
  | none => rfl
  | some u => exact absurd (Nat.lt_of_lt_of_le (x.lt q) e) (Nat.lt_irrefl _)
/-- every object of the heap is kept -/
theorem HOk.kept (x : HOk P w H h) (k : ∀ b u, h.get? b = some u → h'.get? b = some u) : HOk P w H h' := fun a o e =>
  (x a o e).stay (fun b u _ q => k b u q) (fun _ q => q) fun _ _ q => q
/-- a new object is laid and tracked -/
theorem HOk.laid (x : HOk P w H h) (k : ∀ b u, h.get? b = some u → h'.get? b = some u) (hp : h.objs.size ≤ a) (new : ObjOk P w (upd H a o) h' a o) : HOk P w (upd H a o) h' := fun b u e => by
  have hn := x.fresh hp
  by_cases hb : b = a
  · subst hb; rw [upd_same] at e; cases e; exact new
  · rw [upd_ne hb] at e
    exact (x b u e).stay (fun c v _ q => k c v q) (fun c q => by rw [upd_ne (ne_of_none q hn)]; exact q) fun c xs q => by rw [upd_ne (ne_of_none q hn)]; exact q
end

/-- what may be read as u: it is u, or a known u -/
def Rd (H : Hp) (a : Addr) (u : HO) : Prop := H a = some u ∨ ∃ o, H a = some (.frz o u)
theorem Rd.of {H : Hp} {a : Addr} {u : HO} (h : H a = some u) : Rd H a u := .inl h
theorem Rd.ok {P : Program} {w : World} {H : Hp} {h : Heap} {a : Addr} {u : HO} (r : Rd H a u) (x : HOk P w H h) : ObjOk P w H h a u := by
  rcases r with r | ⟨o, r⟩
  · exact x a u r
  · obtain ⟨_, q⟩ := x a _ r
    exact q
/-- what may be written -/
def Mut : Option HO → Prop
  | some (.lst _) => True
  | some (.dK _) => True
  | some (.dT _) => True
  | some (.set _ _) => True
  | some (.ins _ _ _) => True
  | some (.ext _) => True
  | _ => False
section
variable {P : Program} {w : World} {H : Hp} {h h' : Heap} {x e : Addr} {o' : HO}
/-- the object at e is changed: x itself, or the dict of the instance x -/
theorem HOk.write (ok : HOk P w H h) (mu : Mut (H x)) (he : e = x ∨ H e = some (.own x)) (k : ∀ b u, b ≠ e → h.get? b = some u → h'.get? b = some u) (heo : ∃ u, h'.get? e = some u)
    (new : ObjOk P w (upd H x o') h' x o') : HOk P w (upd H x o') h' := fun b u q => by
  have nown : ∀ c y, H c = some (.own y) → c ≠ x := fun c y r z => by subst z; rw [r] at mu; exact mu
  have ntup : ∀ c xs, H c = some (.tup xs) → c ≠ x := fun c xs r z => by subst z; rw [r] at mu; exact mu
  by_cases hb : b = x
  · subst hb; rw [upd_same] at q; cases q; exact new
  · rw [upd_ne hb] at q
    by_cases hbe : b = e
    · have q' : H b = some (.own x) := by
        rcases he with z | z
        · exact absurd (hbe.trans z) hb
        · rw [hbe]; exact z
      rw [q] at q'; cases q'
      obtain ⟨v, hv⟩ := heo
      exact ⟨v, by rw [hbe]; exact hv⟩
    · refine (ok b u q).stay (fun c v hc r => k c v ?_ r) (fun c r => by rw [upd_ne (nown c b r)]; exact r) fun c xs r => by rw [upd_ne (ntup c xs r)]; exact r
      rcases hc with rfl | hc
      · exact hbe
      · rintro rfl
        rcases he with z | z
        · exact nown c b hc z
        · rw [hc] at z; cases z; exact hb rfl
end

/-! ### kept unless tracked; of the frames at fs (the callers') the slots may change (an exception that passes writes there); of the records at ex (iterators) nothing is said -/
structure Un (fs ex : List Addr) (H H' : Hp) (h h' : Heap) : Prop where
  keep : ∀ b o, h.get? b = some o → H b = none → b ∉ fs → b ∉ ex → h'.get? b = some o
  slot : ∀ b o, h.get? b = some o → H b = none → b ∈ fs → b ∉ ex → ∃ sl, h'.get? b = some { o with slots := sl }
  free : ∀ b o, h.get? b = some o → H b = none → b ∉ ex → H' b = none
  there : ∀ b o, h.get? b = some o → b ∉ ex → ∃ o', h'.get? b = some o'
  tups : ∀ b xs, H b = some (.tup xs) → H' b = some (.tup xs)
  frzs : ∀ b o u, H b = some (.frz o u) → H' b = some (.frz o u)
  tbls : ∀ b ps, H b = some (.tbl ps) → ∃ more, H' b = some (.tbl (ps ++ more))
section
variable {fs fs' ex ex' : List Addr} {H H1 H2 : Hp} {h h1 h2 h' : Heap} {a x e : Addr} {o : HO}
theorem Un.any (u : Un fs ex H H1 h h1) {b : Addr} {ob : Obj} (q : h.get? b = some ob) (n : H b = none) (hx : b ∉ ex) : ∃ sl, h1.get? b = some { ob with slots := sl } := by
  by_cases hb : b ∈ fs
  · exact u.slot b ob q n hb hx
  · exact ⟨ob.slots, u.keep b ob q n hb hx⟩
theorem Un.trans (a : Un fs ex H H1 h h1) (b : Un fs ex H1 H2 h1 h2) : Un fs ex H H2 h h2 where
  keep := fun c ob q n hc hx => b.keep c ob (a.keep c ob q n hc hx) (a.free c ob q n hx) hc hx
  slot := fun c ob q n hc hx => by
    obtain ⟨sl, e1⟩ := a.slot c ob q n hc hx
    obtain ⟨sl', e2⟩ := b.slot c _ e1 (a.free c ob q n hx) hc hx
    exact ⟨sl', e2⟩
  free := fun c ob q n hx => by
    obtain ⟨o', e1⟩ := a.there c ob q hx
    exact b.free c o' e1 (a.free c ob q n hx) hx
  there := fun c ob q hx => by
    obtain ⟨o', e1⟩ := a.there c ob q hx
    exact b.there c o' e1 hx
  tups := fun c xs q => b.tups c xs (a.tups c xs q)
  frzs := fun c ob xs q => b.frzs c ob xs (a.frzs c ob xs q)
  tbls := fun c ps q => by
    obtain ⟨m1, e1⟩ := a.tbls c ps q
    obtain ⟨m2, e2⟩ := b.tbls c _ e1
    exact ⟨m1 ++ m2, by rw [e2, Array.append_assoc]⟩
theorem Un.kept (k : ∀ b u, h.get? b = some u → h'.get? b = some u) : Un fs ex H H h h' :=
  ⟨fun b ob q _ _ _ => k b ob q, fun b ob q _ _ _ => ⟨ob.slots, k b ob q⟩, fun _ _ _ n _ => n, fun b ob q _ => ⟨ob, k b ob q⟩, fun _ _ q => q, fun _ _ _ q => q, fun _ ps q => ⟨#[], by rw [q]; simp⟩⟩
theorem Un.refl : Un fs ex H H h h := Un.kept fun _ _ q => q
theorem Un.laid (k : ∀ b u, h.get? b = some u → h'.get? b = some u) (hp : h.objs.size ≤ a) (hn : H a = none) : Un fs ex H (upd H a o) h h' where
  keep := fun b u q _ _ _ => k b u q
  slot := fun b u q _ _ _ => ⟨u.slots, k b u q⟩
  free := fun b u q n _ => by rw [upd_ne (Nat.ne_of_lt (Nat.lt_of_lt_of_le (Heap.lt_size q) hp))]; exact n
  there := fun b u q _ => ⟨u, k b u q⟩
  tups := fun b xs q => by rw [upd_ne (ne_of_none q hn)]; exact q
  frzs := fun b u xs q => by rw [upd_ne (ne_of_none q hn)]; exact q
  tbls := fun b ps q => ⟨#[], by rw [upd_ne (ne_of_none q hn), q]; simp⟩
theorem Un.write (mu : Mut (H x)) (he : e = x ∨ H e = some (.own x)) (k : ∀ b u, b ≠ e → h.get? b = some u → h'.get? b = some u) (heo : ∃ u, h'.get? e = some u) : Un fs ex H (upd H x o) h h' := by
  have hx : ∀ b, H b = none → b ≠ x := fun b n z => by subst z; rw [n] at mu; exact mu
  have hb : ∀ b, H b = none → b ≠ e := fun b n z => by
    subst z
    rcases he with r | r
    · exact hx b n r
    · rw [n] at r; cases r
  have hm : ∀ b u, H b = some u → ¬ Mut (some u) → b ≠ x := fun b u q nm z => by subst z; rw [q] at mu; exact nm mu
  refine ⟨fun b u q n _ _ => k b u (hb b n) q, fun b u q n _ _ => ⟨u.slots, k b u (hb b n) q⟩, fun b u q n _ => by rw [upd_ne (hx b n)]; exact n, fun b u q _ => ?_,
    fun b xs q => by rw [upd_ne (hm b _ q fun z => z)]; exact q, fun b u xs q => by rw [upd_ne (hm b _ q fun z => z)]; exact q, fun b ps q => ⟨#[], by rw [upd_ne (hm b _ q fun z => z), q]; simp⟩⟩
  by_cases hbe : b = e
  · subst hbe; exact heo
  · exact ⟨u, k b u hbe q⟩
theorem Un.mono (u : Un fs ex H H1 h h1) (hs : ∀ b ∈ fs, b ∈ fs') (hx : ∀ b ∈ ex, b ∈ ex') : Un fs' ex' H H1 h h1 :=
  ⟨fun b ob q n hb he => u.keep b ob q n (fun z => hb (hs b z)) fun z => he (hx b z), fun _ _ q n _ he => u.any q n fun z => he (hx _ z), fun b ob q n he => u.free b ob q n fun z => he (hx b z), fun b ob q he => u.there b ob q fun z => he (hx b z), u.tups, u.frzs, u.tbls⟩
end

/-! ### the heap without what is tracked -/
def trk (h : Heap) (H : Hp) : List Addr := (List.range h.objs.size).filter fun a => (H a).isSome
def hidT (h : Heap) (H : Hp) : Heap := PySem.W.hideAll h (trk h H)
theorem hidT_size (h : Heap) (H : Hp) : (hidT h H).objs.size = h.objs.size := PySem.W.hideAll_size _ _
theorem hidT_get {h : Heap} {H : Hp} {b : Addr} {o : Obj} (e : h.get? b = some o) (n : H b = none) : (hidT h H).get? b = some o :=
  PySem.W.hideAll_get _ e fun hm => by
    have q : (H b).isSome = true := (List.mem_filter.mp hm).2
    rw [n] at q; simp at q
theorem of_hidT {h : Heap} {H : Hp} {b : Addr} {o : Obj} (e : (hidT h H).get? b = some o) : h.get? b = some o ∧ H b = none := by
  have e' : h.get? b = some o := PySem.W.of_hideAll (trk h H) e
  refine ⟨e', ?_⟩
  cases q : H b with
  | none => rfl
  | some x =>
    have hm : b ∈ trk h H := List.mem_filter.mpr ⟨List.mem_range.mpr (Heap.lt_size e'), by simp [q]⟩
    have z : (hidT h H).get? b = none := PySem.W.hideAll_none (trk h H) hm
    rw [z] at e; cases e

/-! ### OpenK's ledger, filled with every new object but one -/
def allNews (g h : Heap) (L : Addr) : List (Addr × Obj) := (List.range h.objs.size).filterMap fun a => if a = L ∨ (g.get? a).isSome = true then none else (h.get? a).map fun o => (a, o)
theorem mem_allNews {g h : Heap} {L a : Addr} {o : Obj} (h1 : a ≠ L) (h2 : g.get? a = none) (h3 : h.get? a = some o) : (a, o) ∈ allNews g h L :=
  List.mem_filterMap.mpr ⟨a, List.mem_range.mpr (Heap.lt_size h3), by simp [h1, h2, h3]⟩
theorem of_mem_allNews {g h : Heap} {L : Addr} {p : Addr × Obj} (hp : p ∈ allNews g h L) : p.1 ≠ L ∧ g.get? p.1 = none ∧ h.get? p.1 = some p.2 := by
  obtain ⟨b, _, e⟩ := List.mem_filterMap.mp hp
  split at e
  · cases e
  · rename_i hn
    cases q : h.get? b with
    | none => rw [q] at e; simp at e
    | some u =>
      rw [q] at e
      simp only [Option.map_some, Option.some.injEq] at e
      subst e
      refine ⟨fun z => hn (.inl z), ?_, q⟩
      show g.get? b = none
      cases r : g.get? b with
      | none => rfl
      | some v => exact (hn (.inr (by simp [r]))).elim
def rest (g h : Heap) (L d : Addr) : List (Addr × Obj) := (allNews g h L).filter fun p => decide (p.1 ≠ d)
theorem rest_ne {g h : Heap} {L d : Addr} : ∀ p ∈ rest g h L d, p.1 ≠ d := fun p hp => of_decide_eq_true (List.mem_filter.mp hp).2
theorem mem_rest {g h : Heap} {L d a : Addr} {o : Obj} (h1 : a ≠ L) (h2 : g.get? a = none) (h3 : h.get? a = some o) (h4 : a ≠ d) : (a, o) ∈ rest g h L d :=
  List.mem_filter.mpr ⟨mem_allNews h1 h2 h3, decide_eq_true h4⟩
theorem news_all {g h : Heap} {L : Addr} : News g L h (allNews g h L) := fun p hp => let ⟨a, b, c⟩ := of_mem_allNews hp; ⟨c, a, b⟩
theorem news_at {g h : Heap} {L d : Addr} {o : Obj} (h1 : d ≠ L) (h2 : g.get? d = none) (h3 : h.get? d = some o) : News g L h ((d, o) :: rest g h L d) := fun p hp => by
  rcases List.mem_cons.mp hp with rfl | hp
  · exact ⟨h3, h1, h2⟩
  · exact news_all p (List.mem_filter.mp hp).1
/-- behind a rule that changed d alone: all else but the frame is kept -/
theorem kept_of_news {g h h' : Heap} {L d : Addr} {m : Str → Option Value} (k : ∀ b o, g.get? b = some o → h.get? b = some o) (F : Fr g L h' m) (N : News g L h' (rest g h L d)) :
    ∀ b o, b ≠ L → b ≠ d → h.get? b = some o → h'.get? b = some o := fun b o h1 h2 e => by
  cases q : g.get? b with
  | some u =>
    have := k b u q
    rw [e] at this; cases this
    exact F.keep b _ q
  | none => exact (N (b, o) (mem_rest h1 q e h2)).1
end L2

namespace L2
open PySem PySem.Spec PyProof.Rows

/-- the module's facts, over the base: the heap at the law's entry without what is tracked there -/
structure Mod (K : PySem.W.Frag) (mg : Str → Option Value) (base : Heap) : Prop where
  kin : K.In base
  glob : base.Ns mainGlobals mg
  blt : ∃ mb, base.Ns builtinsNs mb ∧ ∀ x : Str, x ≠ "__name__" → mb x = bootBuiltins x
  nolimit : base.NoLimit

/-- the context: a def's body (or a comprehension's block) running. base: fixed through the whole law; s₀, H₀: the entry; outer: the frames whose slots others may change (a def's callers); stack: all frames that run;
   ex: iterators that were made ahead of the entry and are walked here (a comprehension's); fn: the names whose cells were made at the entry (a def: all; a comprehension's block: its own); calm: not within an except suite; pn: pins that every state bears; xe: what is wanted of an exception that leaves the code -/
structure Cx where
  prog : Program
  w : World
  K : PySem.W.Frag
  mg : Str → Option Value
  base : Heap
  A : Around
  N : List Str
  s₀ : Shared
  H₀ : Hp
  env : Env
  outer : List Env
  stack : List Env
  ex : List Addr
  fn : Str → Bool
  calm : Bool
  pn : List (Addr × Obj)
  xe : Value → Shared → Prop
/-- the callers' frames -/
def frs (l : List Env) : List Addr := l.filterMap (·.frame)
abbrev Cx.fs (X : Cx) : List Addr := frs X.outer

def Vis (sc : Scope) (x : Str) : Prop := sc.names.lookup x = some .local ∨ sc.names.lookup x = some .cell ∨ sc.names.lookup x = some .free
def Loc (sc : Scope) (x : Str) : Prop := sc.names.lookup x = some .local ∨ sc.names.lookup x = some .cell
def Look (env : Env) (h : Heap) (m : Str → Option Value) (x : Str) (u : Value) : Prop :=
  (env.kindOf x = some .local ∧ m x = some u) ∨ ((env.kindOf x = some .cell ∨ env.kindOf x = some .free) ∧ ∃ c, env.cells.lookup x = some c ∧ h.IsCell c (some u))

structure Cx.Ok (X : Cx) : Prop where
  mod : Mod X.K X.mg X.base
  kind : X.env.scope.kind = .function
  glob : X.env.globals = mainGlobals
  blt : X.env.builtins = builtinsNs
  above : X.s₀.heap.objs.size ≤ X.env.locals
  inj : ∀ x y c, X.env.cells.lookup x = some c → X.env.cells.lookup y = some c → x = y
  has : ∀ x, (X.env.kindOf x = some .cell ∨ X.env.kindOf x = some .free) → ∃ c, X.env.cells.lookup x = some c
  cab : ∀ x c, X.fn x = true → X.env.cells.lookup x = some c → X.s₀.heap.objs.size ≤ c
  hd : X.calm = true → X.A.handled = none
  frames : X.A.frames = some X.stack
  stk : X.stack = X.outer ∨ (X.stack = X.env :: X.outer ∧ X.env.frame = some X.env.locals)
  exf : ∀ b ∈ X.ex, b ≠ X.env.locals ∧ ∀ x c, X.env.cells.lookup x = some c → c ≠ b
  bs : ∀ b o, X.base.get? b = some o → X.s₀.heap.get? b = some o ∧ X.H₀ b = none
  bsz : X.base.objs.size ≤ X.s₀.heap.objs.size
  noex : ∀ b o, X.base.get? b = some o → b ∉ X.ex
  exfs : ∀ b ∈ X.ex, b ∉ X.fs
  funs : X.s₀.heap.FunFrames X.base X.outer
  frf : ∀ b ∈ X.fs, X.H₀ b = none

structure Inv (X : Cx) (pins : List (Addr × Obj)) (σ : List (Option V)) (H : Hp) (s : Shared) : Prop where
  ok : X.Ok
  os : s.os = X.s₀.os
  bare : AllBare s.gens
  base : Un X.fs X.ex X.H₀ H X.s₀.heap s.heap
  loc : ∃ m, s.heap.Ns X.env.locals m ∧ ∀ (i : Nat) (x : Str) (v : V), X.N[i]? = some x → σ[i]? = some (some v) → Vis X.env.scope x → ∃ u, RelV v u ∧ Look X.env s.heap m x u
  cell : ∀ x c, X.env.cells.lookup x = some c → ∃ v, s.heap.IsCell c v
  free : H X.env.locals = none
  freeC : ∀ x c, X.env.cells.lookup x = some c → H c = none
  pin : ∀ p ∈ X.pn ++ pins, s.heap.get? p.1 = some p.2 ∧ H p.1 = none ∧ p.1 ≠ X.env.locals ∧ p.1 ∉ X.fs ∧ ∀ v, p.2.data ≠ .cell v
  hok : HOk X.prog X.w H s.heap
  len : σ.length = X.N.length

section
variable {X : Cx} {pins : List (Addr × Obj)} {σ : List (Option V)} {H H' : Hp} {s : Shared} {h' : Heap}

theorem Cx.Ok.nofr (ok : X.Ok) {b : Addr} {o : Obj} (e : X.base.get? b = some o) : b ∉ X.fs := fun hb => by
  have := (ok.funs.mem hb).1
  rw [e] at this; cases this
theorem Inv.bs (I : Inv X pins σ H s) : ∀ b o, X.base.get? b = some o → s.heap.get? b = some o ∧ H b = none := fun b o e =>
  ⟨I.base.keep b o (I.ok.bs b o e).1 (I.ok.bs b o e).2 (I.ok.nofr e) (I.ok.noex b o e), I.base.free b o (I.ok.bs b o e).1 (I.ok.bs b o e).2 (I.ok.noex b o e)⟩
theorem Inv.bk (I : Inv X pins σ H s) : ∀ b o, X.base.get? b = some o → s.heap.get? b = some o := fun b o e => (I.bs b o e).1
theorem Inv.mod (I : Inv X pins σ H s) : Mod X.K X.mg X.base := I.ok.mod
theorem Inv.kIn (I : Inv X pins σ H s) : X.K.In s.heap := I.ok.mod.kin.keeps I.bk
theorem Inv.nolimit (I : Inv X pins σ H s) : s.heap.NoLimit := I.ok.mod.nolimit.keeps I.bk
/-- the frame over the base: for OpenK's rules (K.In X.base is I.mod.kin) -/
theorem Inv.fr (I : Inv X pins σ H s) : ∃ m, Fr X.base X.env.locals s.heap m :=
  let ⟨m, hn, _⟩ := I.loc
  ⟨m, hn, I.bk, Nat.le_trans I.ok.bsz I.ok.above⟩
theorem Inv.lt (I : Inv X pins σ H s) : X.env.locals < s.heap.objs.size := let ⟨_, hn, _⟩ := I.loc; hn.lt
theorem Inv.sz (I : Inv X pins σ H s) : X.s₀.heap.objs.size ≤ s.heap.objs.size := Nat.le_trans I.ok.above (Nat.le_of_lt I.lt)
theorem Inv.nofs (I : Inv X pins σ H s) {a : Addr} (h : s.heap.objs.size ≤ a) : a ∉ X.fs := fun hb => by
  obtain ⟨_, o, ho, _⟩ := I.ok.funs.mem hb
  exact absurd (Nat.lt_of_lt_of_le (Heap.lt_size ho) (Nat.le_trans I.sz h)) (Nat.lt_irrefl _)
theorem Inv.cne (I : Inv X pins σ H s) : ∀ x c, X.env.cells.lookup x = some c → c ≠ X.env.locals := fun x c e z => by
  obtain ⟨v, o, ho, hd⟩ := I.cell x c e
  obtain ⟨m, ⟨o', es, ep, ho', hd', _⟩, _⟩ := I.loc
  rw [z, ho'] at ho; cases ho; rw [hd'] at hd; cases hd
theorem Inv.funs (I : Inv X pins σ H s) : s.heap.FunFrames X.base X.outer := by
  have all : ∀ (l : List Env), (∀ b ∈ frs l, b ∈ X.fs) → X.s₀.heap.FunFrames X.base l → s.heap.FunFrames X.base l := by
    intro l
    induction l with
    | nil => intro _ _; trivial
    | cons env r ih =>
      intro hs hl
      obtain ⟨hk, ⟨L, o, hf, hn, ho, hd⟩, hr⟩ := hl
      have hL : L ∈ X.fs := hs L (by unfold frs; rw [List.filterMap_cons, hf]; exact List.mem_cons_self)
      obtain ⟨sl, e⟩ := I.base.slot L o ho (I.ok.frf L hL) hL fun z => I.ok.exfs L z hL
      exact ⟨hk, ⟨L, _, hf, hn, e, hd⟩, ih (fun b hb => hs b (by unfold frs; rw [List.filterMap_cons, hf]; exact List.mem_cons_of_mem _ hb)) hr⟩
  exact all X.outer (fun _ hb => hb) I.ok.funs

/-- the frames that run, for a call -/
theorem Inv.stack (I : Inv X pins σ H s) : s.heap.FunFrames X.base X.stack := by
  rcases I.ok.stk with e | ⟨e, hf⟩
  · rw [e]; exact I.funs
  · rw [e]
    obtain ⟨m, hn, _⟩ := I.loc
    refine .cons (by rw [I.ok.kind]; decide) hf hn ?_ I.funs
    exact Heap.get?_none_of_le (Nat.le_trans I.ok.bsz I.ok.above)
theorem Inv.stkSub (I : Inv X pins σ H s) : ∀ b ∈ frs X.stack, b ∈ X.env.locals :: X.fs := fun b hb => by
  rcases I.ok.stk with e | ⟨e, hf⟩
  · rw [e] at hb; exact List.mem_cons_of_mem _ hb
  · rw [e] at hb
    unfold frs at hb
    rw [List.filterMap_cons, hf] at hb
    exact hb
theorem Inv.stkFree (I : Inv X pins σ H s) : ∀ b ∈ frs X.stack, H b = none := fun b hb => by
  rcases List.mem_cons.mp (I.stkSub b hb) with e | hb
  · rw [e]; exact I.free
  · obtain ⟨_, o, ho, _⟩ := I.ok.funs.mem hb
    exact I.base.free b o ho (I.ok.frf b hb) fun z => I.ok.exfs b z hb

/-- THE STEP: the untracked objects but the frame and the records at ch are kept (the callers' frames up to slots), the frame's map is kept, the new abstract heap is held -/
theorem Inv.step {g' : Array GenState} {t' : Nat} {d' : Drawn} {ch : List Addr} (I : Inv X pins σ H s)
    (hch : ∀ b ∈ ch, (b ∈ X.ex ∨ X.s₀.heap.objs.size ≤ b) ∧ b ≠ X.env.locals ∧ (∀ x c, X.env.cells.lookup x = some c → c ≠ b) ∧ ∀ p ∈ X.pn ++ pins, p.1 ≠ b)
    (keep : ∀ b o, b ≠ X.env.locals → b ∉ X.fs → b ∉ ch → s.heap.get? b = some o → H b = none → h'.get? b = some o)
    (slot : ∀ b o, b ≠ X.env.locals → b ∈ X.fs → b ∉ ch → s.heap.get? b = some o → H b = none → ∃ sl, h'.get? b = some { o with slots := sl }) (free : ∀ b o, b ∉ ch → s.heap.get? b = some o → H b = none → H' b = none)
    (there : ∀ b o, b ∉ ch → s.heap.get? b = some o → ∃ o', h'.get? b = some o')
    (tups : ∀ b xs, H b = some (.tup xs) → H' b = some (.tup xs)) (frzs : ∀ b o u, H b = some (.frz o u) → H' b = some (.frz o u)) (tbls : ∀ b ps, H b = some (.tbl ps) → ∃ more, H' b = some (.tbl (ps ++ more)))
    (ns : ∀ m, s.heap.Ns X.env.locals m → h'.Ns X.env.locals m) (hok : HOk X.prog X.w H' h') (hg : AllBare g') :
    Inv X pins σ H' { s with heap := h', gens := g', drawn := d', toks := t' } := by
  have neL : ∀ b o, X.s₀.heap.get? b = some o → b ≠ X.env.locals := fun b o e => Nat.ne_of_lt (Nat.lt_of_lt_of_le (Heap.lt_size e) I.ok.above)
  have neC : ∀ b o, X.s₀.heap.get? b = some o → b ∉ X.ex → b ∉ ch := fun b o e hx hb => by
    rcases (hch b hb).1 with z | z
    · exact hx z
    · exact absurd (Nat.lt_of_lt_of_le (Heap.lt_size e) z) (Nat.lt_irrefl _)
  have cellK : ∀ x c, X.env.cells.lookup x = some c → ∀ v, s.heap.IsCell c v → h'.IsCell c v := fun x c e v ⟨o, ho, hd⟩ => by
    have nch : c ∉ ch := fun z => (hch c z).2.2.1 x c e rfl
    by_cases hc : c ∈ X.fs
    · obtain ⟨sl, q⟩ := slot c o (I.cne x c e) hc nch ho (I.freeC x c e)
      exact ⟨_, q, hd⟩
    · exact ⟨o, keep c o (I.cne x c e) hc nch ho (I.freeC x c e), hd⟩
  refine ⟨I.ok, I.os, hg, ⟨fun b o e n hb hx => ?_, fun b o e n hb hx => ?_, fun b o e n hx => ?_, fun b o e hx => ?_, fun b xs e => tups b xs (I.base.tups b xs e), fun b o xs e => frzs b o xs (I.base.frzs b o xs e), fun b ps e => ?_⟩, ?_, fun x c e => ?_, ?_, fun x c e => ?_, fun p hp => ?_, hok, I.len⟩
  · exact keep b o (neL b o e) hb (neC b o e hx) (I.base.keep b o e n hb hx) (I.base.free b o e n hx)
  · obtain ⟨sl, e1⟩ := I.base.slot b o e n hb hx
    obtain ⟨sl', e2⟩ := slot b _ (neL b o e) hb (neC b o e hx) e1 (I.base.free b o e n hx)
    exact ⟨sl', e2⟩
  · obtain ⟨o', e1⟩ := I.base.there b o e hx
    exact free b o' (neC b o e hx) e1 (I.base.free b o e n hx)
  · obtain ⟨o', e1⟩ := I.base.there b o e hx
    exact there b o' (neC b o e hx) e1
  · obtain ⟨m1, e1⟩ := I.base.tbls b ps e
    obtain ⟨m2, e2⟩ := tbls b _ e1
    exact ⟨m1 ++ m2, by rw [e2, Array.append_assoc]⟩
  · obtain ⟨m, hn, hl⟩ := I.loc
    refine ⟨m, ns m hn, fun i x v e1 e2 e3 => ?_⟩
    obtain ⟨u, r, l⟩ := hl i x v e1 e2 e3
    refine ⟨u, r, ?_⟩
    rcases l with l | ⟨k, c, e, z⟩
    · exact .inl l
    · exact .inr ⟨k, c, e, cellK x c e _ z⟩
  · obtain ⟨v, z⟩ := I.cell x c e
    exact ⟨v, cellK x c e v z⟩
  · obtain ⟨m, ⟨o, _, _, ho, _⟩, _⟩ := I.loc
    exact free _ o (fun z => (hch _ z).2.1 rfl) ho I.free
  · obtain ⟨v, o, ho, hd⟩ := I.cell x c e
    exact free c o (fun z => (hch c z).2.2.1 x c e rfl) ho (I.freeC x c e)
  · obtain ⟨e, n, ne, nf, d⟩ := I.pin p hp
    have nch : p.1 ∉ ch := fun z => (hch p.1 z).2.2.2 p hp rfl
    exact ⟨keep p.1 p.2 ne nf nch e n, free p.1 p.2 nch e n, ne, nf, d⟩
/-- .. where the frame's own object is kept too -/
theorem Inv.un {t' : Nat} (I : Inv X pins σ H s) (u : Un X.fs [] H H' s.heap h') (hok : HOk X.prog X.w H' h') : Inv X pins σ H' { s with heap := h', toks := t' } := by
  obtain ⟨m, ⟨o, es, ep, ho, r⟩, _⟩ := id I.loc
  obtain ⟨sl, hL⟩ := u.any ho I.free (by simp)
  exact I.step (g' := s.gens) (d' := s.drawn) (ch := []) (fun _ z => nomatch z) (fun b o _ hb _ e n => u.keep b o e n hb (by simp)) (fun b o _ hb _ e n => u.slot b o e n hb (by simp)) (fun b o _ e n => u.free b o e n (by simp)) (fun b o _ e => u.there b o e (by simp)) u.tups u.frzs u.tbls (fun m' hm => by
    obtain ⟨o', es', ep', ho', r'⟩ := hm
    rw [ho] at ho'; cases ho'
    exact ⟨_, es', ep', hL, r'⟩) hok I.bare
/-- behind a call (or a comprehension's block): the slots of this frame may have changed too, the records at ch may have turned -/
theorem Inv.call {g' : Array GenState} {t' : Nat} {d' : Drawn} {ch : List Addr} (I : Inv X pins σ H s) (u : Un (frs X.stack) ch H H' s.heap h') (hok : HOk X.prog X.w H' h') (hg : AllBare g')
    (hch : ∀ b ∈ ch, (b ∈ X.ex ∨ X.s₀.heap.objs.size ≤ b) ∧ b ≠ X.env.locals ∧ (∀ x c, X.env.cells.lookup x = some c → c ≠ b) ∧ ∀ p ∈ X.pn ++ pins, p.1 ≠ b) :
    Inv X pins σ H' { s with heap := h', gens := g', drawn := d', toks := t' } := by
  obtain ⟨m, ⟨o, es, ep, ho, r⟩, _⟩ := id I.loc
  obtain ⟨sl, hL⟩ := u.any ho I.free fun z => (hch _ z).2.1 rfl
  exact I.step (ch := ch) hch (fun b o hL hb hc e n => u.keep b o e n (fun z => (List.mem_cons.mp (I.stkSub b z)).elim hL hb) hc) (fun b o _ _ hc e n => u.any e n hc) (fun b o hc e n => u.free b o e n hc) (fun b o hc e => u.there b o e hc) u.tups u.frzs u.tbls (fun m' hm => by
    obtain ⟨o', es', ep', ho', r'⟩ := hm
    rw [ho] at ho'; cases ho'
    exact ⟨_, es', ep', hL, r'⟩) hok hg
/-- an untracked record of ours (an iterator) has turned -/
theorem Inv.turned {t' : Nat} {it : Addr} (I : Inv X pins σ H s) (k : ∀ b o, b ≠ it → s.heap.get? b = some o → h'.get? b = some o) (hn : H it = none) (hL : it ≠ X.env.locals)
    (h1 : it ∈ X.ex ∨ X.s₀.heap.objs.size ≤ it) (h2 : ∀ x c, X.env.cells.lookup x = some c → c ≠ it) (h3 : ∀ p ∈ X.pn ++ pins, p.1 ≠ it) : Inv X pins σ H { s with heap := h', toks := t' } := by
  have nit : ∀ b u, H b = some u → b ≠ it := fun b u e z => by rw [z, hn] at e; cases e
  refine I.step (g' := s.gens) (d' := s.drawn) (ch := [it]) (fun b hb => ?_) (fun b o _ _ hc e _ => k b o (fun z => hc (by simp [z])) e) (fun b o _ _ hc e _ => ⟨o.slots, k b o (fun z => hc (by simp [z])) e⟩) (fun _ _ _ _ n => n)
    (fun b o hc e => ⟨o, k b o (fun z => hc (by simp [z])) e⟩) (fun _ _ e => e) (fun _ _ _ e => e) (fun b ps e => ⟨#[], by rw [e]; simp⟩) (fun m hm => ?_) (fun b u e => ?_) I.bare
  · have e : b = it := by simpa using hb
    subst e
    exact ⟨h1, hL, h2, h3⟩
  · obtain ⟨o, es, ep, ho, r⟩ := hm
    exact ⟨o, es, ep, k _ o (Ne.symm hL) ho, r⟩
  · refine (I.hok b u e).stay (fun c v hc q => k c v ?_ q) (fun _ q => q) fun _ _ q => q
    rcases hc with z | z
    · rw [z]; exact nit b u e
    · exact nit c _ z
theorem Inv.tok (I : Inv X pins σ H s) (t : Nat) : Inv X pins σ H { s with toks := t } := I.un (h' := s.heap) (t' := t) Un.refl I.hok
/-- all objects kept -/
theorem Inv.kept {t' : Nat} (I : Inv X pins σ H s) (k : ∀ b u, s.heap.get? b = some u → h'.get? b = some u) : Inv X pins σ H { s with heap := h', toks := t' } := I.un (Un.kept k) (I.hok.kept k)
/-- a new object laid and tracked -/
theorem Inv.laid {a : Addr} {o : HO} {t' : Nat} (I : Inv X pins σ H s) (k : ∀ b u, s.heap.get? b = some u → h'.get? b = some u) (hp : s.heap.objs.size ≤ a) (new : ObjOk X.prog X.w (upd H a o) h' a o) :
    Inv X pins σ (upd H a o) { s with heap := h', toks := t' } := I.un (Un.laid k hp (I.hok.fresh hp)) (I.hok.laid k hp new)
/-- an object written -/
theorem Inv.write {x e : Addr} {o : HO} {t' : Nat} (I : Inv X pins σ H s) (mu : Mut (H x)) (he : e = x ∨ H e = some (.own x)) (k : ∀ b u, b ≠ e → s.heap.get? b = some u → h'.get? b = some u) (heo : ∃ u, h'.get? e = some u)
    (new : ObjOk X.prog X.w (upd H x o) h' x o) : Inv X pins σ (upd H x o) { s with heap := h', toks := t' } := I.un (Un.write mu he k heo) (I.hok.write mu he k heo new)
/-- forgetting slots, pins -/
theorem Inv.weak {σ' : List (Option V)} (I : Inv X pins σ H s) (hl : σ'.length = σ.length) (w : ∀ (i : Nat) v, σ'[i]? = some (some v) → σ[i]? = some (some v)) : Inv X pins σ' H s :=
  ⟨I.ok, I.os, I.bare, I.base, let ⟨m, hn, hl'⟩ := I.loc; ⟨m, hn, fun i x v e1 e2 e3 => hl' i x v e1 (w i v e2) e3⟩, I.cell, I.free, I.freeC, I.pin, I.hok, hl.trans I.len⟩
theorem Inv.pins_of {pins' : List (Addr × Obj)} (I : Inv X pins σ H s) (h : ∀ p ∈ pins', s.heap.get? p.1 = some p.2 ∧ H p.1 = none ∧ p.1 ≠ X.env.locals ∧ p.1 ∉ X.fs ∧ ∀ v, p.2.data ≠ .cell v) : Inv X pins' σ H s :=
  ⟨I.ok, I.os, I.bare, I.base, I.loc, I.cell, I.free, I.freeC, fun p hp => (List.mem_append.mp hp).elim (fun z => I.pin p (List.mem_append_left _ z)) (h p), I.hok, I.len⟩

theorem nodup_ix {N : List Str} (hN : N.Nodup) {i j : Nat} {x : Str} (a : N[i]? = some x) (b : N[j]? = some x) : i = j := by
  obtain ⟨h1, e1⟩ := List.getElem?_eq_some_iff.mp a
  obtain ⟨h2, e2⟩ := List.getElem?_eq_some_iff.mp b
  exact (List.getElem_inj hN).mp (e1.trans e2.symm)

/-- a name is stored; what changed -/
theorem store_ok2 {M : Model} {A : Around} {E : Value → Shared → Prop} {i : Nat} {x : Str} {v : V} {u : Value} {Q : Unit → Shared → Prop} (I : Inv X pins σ H s) (hN : X.N.Nodup) (hi : X.N[i]? = some x) (hx : Loc X.env.scope x) (r : RelV v u)
    (h : ∀ s', Inv X pins (σ.set i (some v)) H s' → (∃ a, Heap.SameBut a s.heap s'.heap ∧ (a = X.env.locals ∨ X.env.cells.lookup x = some a)) → Q () s') (hf : X.fn x = true ∨ X.env.scope.names.lookup x = some .local := by first | exact .inl rfl | exact .inr rfl | assumption) : wpAny M A (storeName X.env x u) Q E s := by
  obtain ⟨m, hn, hl⟩ := id I.loc
  have hcls : (X.env.scope.kind == .class || (X.env.scope.kind == .module && X.env.locals != X.env.globals)) = false := by rw [I.ok.kind]; rfl
  have hiσ : i < σ.length := by rw [I.len]; exact (List.getElem?_eq_some_iff.mp hi).1
  have cne := I.cne
  have tracked : ∀ {a : Addr} {h' : Heap}, (∃ o, s.heap.get? a = some o ∧ H a = none) → Heap.SameBut a s.heap h' → HOk X.prog X.w H h' := fun {a h'} ha hs b ob e => by
    obtain ⟨_, _, hfree⟩ := ha
    refine (I.hok b ob e).stay (fun c w' hc q => (hs.2 c ?_).trans q) (fun _ q => q) fun _ _ q => q
    rintro rfl
    rcases hc with rfl | hc
    · rw [hfree] at e; cases e
    · rw [hfree] at hc; cases hc
  rcases hx with hk | hk
  · refine wpAny_storeName_local hk hn (fun h' hn' hs => ?_) hcls
    obtain ⟨oL, _, _, hoL, _⟩ := id hn
    refine h _ ⟨I.ok, I.os, I.bare, ⟨fun b o e n hb hx => ?_, fun b o e n hb hx => ?_, I.base.free, fun b o e hx => ?_, I.base.tups, I.base.frzs, I.base.tbls⟩, ⟨_, hn', fun j y v' e1 e2 e3 => ?_⟩, fun y c e => ?_, I.free, I.freeC, fun p hp => ?_, tracked ⟨oL, hoL, I.free⟩ hs, by simpa using I.len⟩ ⟨_, hs, .inl rfl⟩
    · exact (hs.2 b (Nat.ne_of_lt (Nat.lt_of_lt_of_le (Heap.lt_size e) I.ok.above))).trans (I.base.keep b o e n hb hx)
    · obtain ⟨sl, e1⟩ := I.base.slot b o e n hb hx
      exact ⟨sl, (hs.2 b (Nat.ne_of_lt (Nat.lt_of_lt_of_le (Heap.lt_size e) I.ok.above))).trans e1⟩
    · obtain ⟨o', e1⟩ := I.base.there b o e hx
      exact ⟨o', (hs.2 b (Nat.ne_of_lt (Nat.lt_of_lt_of_le (Heap.lt_size e) I.ok.above))).trans e1⟩
    · by_cases hj : j = i
      · subst hj
        rw [hi] at e1; cases e1
        rw [List.getElem?_set_self hiσ] at e2
        cases e2
        exact ⟨u, r, .inl ⟨hk, by simp⟩⟩
      · rw [List.getElem?_set_ne (Ne.symm hj)] at e2
        obtain ⟨u', r', q⟩ := hl j y v' e1 e2 e3
        refine ⟨u', r', ?_⟩
        rcases q with ⟨k, e⟩ | ⟨k, c, e, z⟩
        · refine .inl ⟨k, ?_⟩
          have : y ≠ x := fun e => hj (nodup_ix hN e1 (e ▸ hi))
          simp [this, e]
        · exact .inr ⟨k, c, e, z.sameBut hs (cne y c e)⟩
    · obtain ⟨w', z⟩ := I.cell y c e
      exact ⟨w', z.sameBut hs (cne y c e)⟩
    · obtain ⟨e, n, ne, nf, d⟩ := I.pin p hp
      exact ⟨(hs.2 p.1 ne).trans e, n, ne, nf, d⟩
  · have hfn : X.fn x = true := by
      rcases hf with z | z
      · exact z
      · rw [z] at hk; cases hk
    obtain ⟨c, hc⟩ := I.ok.has x (.inl hk)
    obtain ⟨w', z⟩ := I.cell x c hc
    refine wpAny_storeName_cell I.ok.kind hk hc z (fun h' hc' hs => ?_)
    obtain ⟨oc, hoc, hocd⟩ := id z
    refine h { s with heap := h' } ⟨I.ok, I.os, I.bare, ⟨fun b o e n hb hx => ?_, fun b o e n hb hx => ?_, I.base.free, fun b o e hx => ?_, I.base.tups, I.base.frzs, I.base.tbls⟩, ⟨m, hn.sameBut hs (Ne.symm (cne x c hc)), fun j y v' e1 e2 e3 => ?_⟩, fun y c' e => ?_, I.free, I.freeC, fun p hp => ?_, tracked ⟨oc, hoc, I.freeC x c hc⟩ hs, by simpa using I.len⟩ ⟨c, hs, .inr hc⟩
    · exact (hs.2 b (Nat.ne_of_lt (Nat.lt_of_lt_of_le (Heap.lt_size e) (I.ok.cab x c hfn hc)))).trans (I.base.keep b o e n hb hx)
    · obtain ⟨sl, e1⟩ := I.base.slot b o e n hb hx
      exact ⟨sl, (hs.2 b (Nat.ne_of_lt (Nat.lt_of_lt_of_le (Heap.lt_size e) (I.ok.cab x c hfn hc)))).trans e1⟩
    · obtain ⟨o', e1⟩ := I.base.there b o e hx
      exact ⟨o', (hs.2 b (Nat.ne_of_lt (Nat.lt_of_lt_of_le (Heap.lt_size e) (I.ok.cab x c hfn hc)))).trans e1⟩
    · by_cases hj : j = i
      · subst hj
        rw [hi] at e1; cases e1
        rw [List.getElem?_set_self hiσ] at e2
        cases e2
        exact ⟨u, r, .inr ⟨.inl hk, c, hc, hc'⟩⟩
      · rw [List.getElem?_set_ne (Ne.symm hj)] at e2
        obtain ⟨u', r', q⟩ := hl j y v' e1 e2 e3
        refine ⟨u', r', ?_⟩
        rcases q with q | ⟨k, c', e, z'⟩
        · exact .inl q
        · refine .inr ⟨k, c', e, z'.sameBut hs ?_⟩
          rintro rfl
          exact hj (nodup_ix hN e1 (I.ok.inj _ _ _ e hc ▸ hi))
    · by_cases hcc : c' = c
      · subst hcc; exact ⟨_, hc'⟩
      · obtain ⟨w2, z2⟩ := I.cell y c' e
        exact ⟨w2, z2.sameBut hs hcc⟩
    · obtain ⟨e, n, ne, nf, d⟩ := I.pin p hp
      refine ⟨(hs.2 p.1 ?_).trans e, n, ne, nf, d⟩
      intro q
      rw [q, hoc] at e
      have q' : oc = p.2 := Option.some.inj e
      exact d w' (by rw [← q']; exact hocd)
theorem store_ok {M : Model} {A : Around} {E : Value → Shared → Prop} {i : Nat} {x : Str} {v : V} {u : Value} {Q : Unit → Shared → Prop} (I : Inv X pins σ H s) (hN : X.N.Nodup) (hi : X.N[i]? = some x) (hx : Loc X.env.scope x) (r : RelV v u)
    (h : ∀ s', Inv X pins (σ.set i (some v)) H s' → Q () s') (hf : X.fn x = true ∨ X.env.scope.names.lookup x = some .local := by first | exact .inl rfl | exact .inr rfl | assumption) : wpAny M A (storeName X.env x u) Q E s :=
  store_ok2 I hN hi hx r (fun s' I' _ => h s' I') hf
/-- behind a call or a block, the state as it is -/
theorem Inv.call' {s' : Shared} {ch : List Addr} (I : Inv X pins σ H s) (ho : s'.os = s.os) (u : Un (frs X.stack) ch H H' s.heap s'.heap) (hok : HOk X.prog X.w H' s'.heap) (hg : AllBare s'.gens)
    (hch : ∀ b ∈ ch, (b ∈ X.ex ∨ X.s₀.heap.objs.size ≤ b) ∧ b ≠ X.env.locals ∧ (∀ x c, X.env.cells.lookup x = some c → c ≠ b) ∧ ∀ p ∈ X.pn ++ pins, p.1 ≠ b) : Inv X pins σ H' s' := by
  obtain ⟨h', g', d', t', o'⟩ := s'
  have e : o' = s.os := ho
  subst e
  exact I.call (g' := g') (t' := t') (d' := d') u hok hg hch
end

/-! ### the judgements -/
/-- an exception: its class, its own dict's address (where it has one), the abstract heap behind it -/
abbrev XK := Value → Option Addr → Hp → Prop
abbrev St := List (Option V)
abbrev VK := V → Hp → Prop
/-- an expression's reading; a test's; an argument list's -/
abbrev TE := St → Hp → VK → Prop
abbrev TT := St → Hp → (Bool → Hp → Prop) → Prop
abbrev TA := St → Hp → (List V → Hp → Prop) → Prop
/-- what is wanted behind a statement -/
structure Ends where
  nx : St → Hp → Prop
  rt : VK
  bk : St → Hp → Prop := fun _ _ => False
  ct : St → Hp → Prop := fun _ _ => False
abbrev TS := Ends → St → Hp → Prop

def EP (X : Cx) (pins : List (Addr × Obj)) (σ : St) (Q : VK) (u : Value) (s' : Shared) : Prop := ∃ v H', Inv X pins σ H' s' ∧ RelV v u ∧ Q v H'
def TP (X : Cx) (pins : List (Addr × Obj)) (σ : St) (Q : Bool → Hp → Prop) (b : Bool) (s' : Shared) : Prop := ∃ H', Inv X pins σ H' s' ∧ Q b H'
def AP (X : Cx) (pins : List (Addr × Obj)) (σ : St) (Q : List V → Hp → Prop) (us : List Value) (s' : Shared) : Prop := ∃ vs H', Inv X pins σ H' s' ∧ Vals vs us ∧ Q vs H'
def SP (X : Cx) (pins : List (Addr × Obj)) (D : Ends) (f : Flow) (s' : Shared) : Prop :=
  match f with
  | .next => ∃ σ' H', Inv X pins σ' H' s' ∧ D.nx σ' H'
  | .brk => ∃ σ' H', Inv X pins σ' H' s' ∧ D.bk σ' H'
  | .cont => ∃ σ' H', Inv X pins σ' H' s' ∧ D.ct σ' H'
  | .ret u => ∃ v σ' H', Inv X pins σ' H' s' ∧ RelV v u ∧ D.rt v H'

def PE (X : Cx) (e : Expr) (t : TE) : Prop :=
  ∀ (pins : List (Addr × Obj)) (s : Shared) (σ : St) (H : Hp) (Q : VK), Inv X pins σ H s → t σ H Q → wpAny (model X.prog X.w) X.A (eval e X.env) (EP X pins σ Q) X.xe s
def PT (X : Cx) (e : Expr) (t : TT) : Prop :=
  ∀ (pins : List (Addr × Obj)) (s : Shared) (σ : St) (H : Hp) (Q : Bool → Hp → Prop), Inv X pins σ H s → t σ H Q → wpAny (model X.prog X.w) X.A (isTrue e X.env (eval e X.env)) (TP X pins σ Q) X.xe s
/-- a test whatever its 'whole' is (and, or) -/
def PW (X : Cx) (e : Expr) (t : TT) : Prop :=
  ∀ (whole : Sem Value) (pins : List (Addr × Obj)) (s : Shared) (σ : St) (H : Hp) (Q : Bool → Hp → Prop), Inv X pins σ H s → t σ H Q → wpAny (model X.prog X.w) X.A (isTrue e X.env whole) (TP X pins σ Q) X.xe s
theorem PW.pt {X : Cx} {e : Expr} {t : TT} (h : PW X e t) : PT X e t := h _
/-- an argument list (no star), from the left -/
def PA (X : Cx) (es : List Expr) (t : TA) : Prop :=
  ∀ (pos : Pos) (pins : List (Addr × Obj)) (s : Shared) (σ : St) (H : Hp) (Q : List V → Hp → Prop), Inv X pins σ H s → t σ H Q → wpAny (model X.prog X.w) X.A (spliced (backTo pos (starEach es X.env))) (AP X pins σ Q) X.xe s
def PS (X : Cx) (st : Stmt) (t : TS) : Prop :=
  ∀ (pins : List (Addr × Obj)) (s : Shared) (σ : St) (H : Hp) (D : Ends), Inv X pins σ H s → t D σ H → wpAny (model X.prog X.w) X.A (exec st X.env) (SP X pins D) X.xe s
def PSs (X : Cx) (st : List Stmt) (t : TS) : Prop :=
  ∀ (pins : List (Addr × Obj)) (s : Shared) (σ : St) (H : Hp) (D : Ends), Inv X pins σ H s → t D σ H → wpAny (model X.prog X.w) X.A (execs st X.env) (SP X pins D) X.xe s
/-- weaken the end -/
theorem thn {α : Type} {t : Sem α} {Q Q' : α → Shared → Prop} {M : Model} {A : Around} {E : Value → Shared → Prop} {s : Shared} (h : wpAny M A t Q E s) (hQ : ∀ a s, Q a s → Q' a s) : wpAny M A t Q' E s := wpAny_mono h hQ fun _ _ x => x
end L2

namespace L2
open PySem PySem.Spec PyProof.Rows
section
variable {X : Cx}

/-- two expressions in a row -/
theorem bin {a b : Expr} {ta tb : TE} (ha : PE X a ta) (hb : PE X b tb) {pins : List (Addr × Obj)} {s : Shared} {σ : St} {H : Hp} {R : V → V → Hp → Prop} (I : Inv X pins σ H s) (h : ta σ H fun x H1 => tb σ H1 fun y H2 => R x y H2)
    {α : Type} {Q : α → Shared → Prop} {f : Value → Value → Sem α}
    (hf : ∀ v u s2 x y H2, Inv X pins σ H2 s2 → RelV x v → RelV y u → R x y H2 → wpAny (model X.prog X.w) X.A (f v u) Q X.xe s2) :
    wpAny (model X.prog X.w) X.A (eval a X.env) (fun v s₁ => wpAny (model X.prog X.w) X.A (eval b X.env) (fun u s₂ => wpAny (model X.prog X.w) X.A (f v u) Q X.xe s₂) X.xe s₁) X.xe s := by
  refine thn (ha pins s σ H _ I h) fun v s1 ⟨x, H1, I1, r1, q1⟩ => ?_
  refine thn (hb pins s1 σ H1 _ I1 q1) fun u s2 ⟨y, H2, I2, r2, q2⟩ => ?_
  exact hf v u s2 x y H2 I2 r1 r2 q2

/-! ### names and constants -/
def tVar (i : Nat) : TE := fun σ H Q => ∃ v, σ[i]? = some (some v) ∧ Q v H
def tC (v : V) : TE := fun _ H Q => Q v H
theorem pe_var {i : Nat} {x : Str} {pos : Pos} (hN : X.N[i]? = some x) (hv : Vis X.env.scope x) (hd : (x == ("__debug__" : Str)) = false := by decide) (hcd : (x == ("__classdict__" : Str)) = false := by decide) : PE X (.Name x pos) (tVar i) := by
  intro pins s σ H Q I h
  obtain ⟨v, e, h⟩ := h
  obtain ⟨m, hn, hl⟩ := I.loc
  obtain ⟨u, r, l⟩ := hl i x v hN e hv
  have fin : EP X pins σ Q u s := ⟨v, H, I, r, h⟩
  rcases l with ⟨hk, hm⟩ | ⟨hk, c, hc, hcell⟩
  · exact wpAny_Name (wpAny_loadName_local I.ok.kind hk hn hm fin) hd
  · rcases hk with hk | hk
    · exact wpAny_Name (wpAny_loadName_cell I.ok.kind hk hc hcell fin) hd
    · exact wpAny_Name (wpAny_loadName_free I.ok.kind hk hc hcell fin hcd) hd
theorem pe_int {i j pos} : PE X (.Constant (.int i) j pos) (tC (.int i)) := fun _ _ _ H _ I h => wpAny_Constant_int ⟨.int i, H, I.tok _, ⟨_, rfl⟩, h⟩
theorem pe_bl {b j pos} : PE X (.Constant (.bool b) j pos) (tC (.bl b)) := fun _ _ _ H _ I h => Constant_bool ⟨.bl b, H, I, rfl, h⟩
theorem pe_non {j pos} : PE X (.Constant .none j pos) (tC .non) := fun _ _ _ H _ I h => Constant_none ⟨.non, H, I, rfl, h⟩
theorem pe_str {x j pos} : PE X (.Constant (.str x) j pos) (tC (.str x)) := fun _ _ _ H _ I h => Calls.Constant_str ⟨.str x, H, I.tok _, ⟨_, rfl⟩, h⟩

/-- a global name of the def -/
def Gl (X : Cx) (x : Str) : Prop := X.env.kindOf x = some .globalImplicit
theorem ld_glob {E : Value → Shared → Prop} {pins : List (Addr × Obj)} {s : Shared} {σ : St} {H : Hp} {x : Str} {u : Value} {pos : Pos} {Q : Value → Shared → Prop} (I : Inv X pins σ H s) (hg : Gl X x) (hm : X.mg x = some u) (h : Q u s)
    (hd : (x == ("__debug__" : Str)) = false := by decide) : wpAny (model X.prog X.w) X.A (eval (.Name x pos) X.env) Q E s :=
  Calls.Name_function_global I.ok.kind hg (Calls.loadGlobal_global (by rw [I.ok.glob]; exact I.mod.glob.keeps I.bk) hm h) hd
theorem ld_blt {E : Value → Shared → Prop} {pins : List (Addr × Obj)} {s : Shared} {σ : St} {H : Hp} {x : Str} {u : Value} {pos : Pos} {Q : Value → Shared → Prop} (I : Inv X pins σ H s) (hg : Gl X x) (hm : X.mg x = none) (hv : bootBuiltins x = some u) (h : Q u s)
    (hn : x ≠ "__name__" := by decide) (hd : (x == ("__debug__" : Str)) = false := by decide) : wpAny (model X.prog X.w) X.A (eval (.Name x pos) X.env) Q E s := by
  obtain ⟨mb, h1, h2⟩ := I.mod.blt
  exact Calls.Name_function_global I.ok.kind hg (Calls.loadGlobal_builtin (by rw [I.ok.glob]; exact I.mod.glob.keeps I.bk) hm (by rw [I.ok.blt]; exact h1.keeps I.bk) ((h2 x hn).trans hv) h) hd
/-- a module's constant, a class, a function, as a value -/
theorem pe_glob {x : Str} {v : V} {u : Value} {pos : Pos} (hg : Gl X x) (hm : X.mg x = some u) (r : RelV v u) (hd : (x == ("__debug__" : Str)) = false := by decide) : PE X (.Name x pos) (tC v) :=
  fun _ _ _ H _ I h => ld_glob I hg hm ⟨v, H, I, r, h⟩ hd
theorem pe_bltn {x : Str} {v : V} {u : Value} {pos : Pos} (hg : Gl X x) (hm : X.mg x = none) (hv : bootBuiltins x = some u) (r : RelV v u) (hn : x ≠ "__name__" := by decide) (hd : (x == ("__debug__" : Str)) = false := by decide) : PE X (.Name x pos) (tC v) :=
  fun _ _ _ H _ I h => ld_blt I hg hm hv ⟨v, H, I, r, h⟩ hn hd

/-! ### arithmetic -/
/-- two ints -/
def t2I (ta tb : TE) (k : Int → Int → Hp → Prop) : St → Hp → Prop := fun σ H => ta σ H fun x H1 => tb σ H1 fun y H2 => ∃ i j, x = .int i ∧ y = .int j ∧ k i j H2
def tAdd (ta tb : TE) : TE := fun σ H Q => t2I ta tb (fun i j H2 => Q (.int (i + j)) H2) σ H
def tSub (ta tb : TE) : TE := fun σ H Q => t2I ta tb (fun i j H2 => Q (.int (i - j)) H2) σ H
/-- the left factor below 2^64 -/
def tMul (ta tb : TE) : TE := fun σ H Q => t2I ta tb (fun i j H2 => (-(2 ^ 64) < i ∧ i < 2 ^ 64) ∧ Q (.int (i * j)) H2) σ H
variable {a b : Expr} {ta tb : TE} {pos : Pos}
theorem pe_add (ha : PE X a ta) (hb : PE X b tb) : PE X (.BinOp a .Add b pos) (tAdd ta tb) := by
  intro pins s σ H Q I h
  refine wpAny_BinOp (bin ha hb I h fun v u s2 x y H2 I2 rx ry q => ?_)
  obtain ⟨i, j, rfl, rfl, q⟩ := q
  obtain ⟨t, rfl⟩ := rx
  obtain ⟨t', rfl⟩ := ry
  exact add_int ⟨.int _, H2, I2.tok _, ⟨_, rfl⟩, q⟩
theorem pe_sub (ha : PE X a ta) (hb : PE X b tb) : PE X (.BinOp a .Sub b pos) (tSub ta tb) := by
  intro pins s σ H Q I h
  refine wpAny_BinOp (bin ha hb I h fun v u s2 x y H2 I2 rx ry q => ?_)
  obtain ⟨i, j, rfl, rfl, q⟩ := q
  obtain ⟨t, rfl⟩ := rx
  obtain ⟨t', rfl⟩ := ry
  exact sub_int ⟨.int _, H2, I2.tok _, ⟨_, rfl⟩, q⟩
theorem pe_mul (ha : PE X a ta) (hb : PE X b tb) : PE X (.BinOp a .Mult b pos) (tMul ta tb) := by
  intro pins s σ H Q I h
  refine wpAny_BinOp (bin ha hb I h fun v u s2 x y H2 I2 rx ry q => ?_)
  obtain ⟨i, j, rfl, rfl, ⟨q1, q2⟩, q⟩ := q
  obtain ⟨t, rfl⟩ := rx
  obtain ⟨t', rfl⟩ := ry
  exact mul_int ⟨.int _, H2, I2.tok _, ⟨_, rfl⟩, q⟩ (.of_left (intBits_le_64 q1 q2))

/-! ### comparisons -/
def PC (X : Cx) (op : CmpOp) (a b : Expr) (t : TE) : Prop :=
  ∀ (pins : List (Addr × Obj)) (s : Shared) (σ : St) (H : Hp) (Q : VK), Inv X pins σ H s → t σ H Q →
    wpAny (model X.prog X.w) X.A (eval a X.env) (fun v s₁ => wpAny (model X.prog X.w) X.A (eval b X.env) (fun u s₂ => wpAny (model X.prog X.w) X.A (compareOp op v u) (EP X pins σ Q) X.xe s₂) X.xe s₁) X.xe s
theorem nobehind (b : Expr) {op : CmpOp} (h : op ≠ .In) (h2 : op ≠ .NotIn) : behindInMarks op b = false := by
  have e1 : (op == CmpOp.In) = false := by cases op <;> first | rfl | exact absurd rfl h
  have e2 : (op == CmpOp.NotIn) = false := by cases op <;> first | rfl | exact absurd rfl h2
  cases b <;> simp [behindInMarks, e1, e2]
def tCmp (p : Int → Int → Bool) (ta tb : TE) : TE := fun σ H Q => t2I ta tb (fun i j H2 => Q (.bl (p i j)) H2) σ H
abbrev tLt : TE → TE → TE := tCmp fun i j => decide (i < j)
abbrev tLe : TE → TE → TE := tCmp fun i j => decide (i ≤ j)
abbrev tGt : TE → TE → TE := tCmp fun i j => decide (j < i)
abbrev tGe : TE → TE → TE := tCmp fun i j => decide (j ≤ i)
abbrev tEqI : TE → TE → TE := tCmp fun i j => decide (i = j)
abbrev tNeI : TE → TE → TE := tCmp fun i j => !decide (i = j)
/-- a comparison of two ints, by its rule -/
theorem pc_int {op : CmpOp} {p : Int → Int → Bool} (ha : PE X a ta) (hb : PE X b tb)
    (rule : ∀ (i j : Int) (t u : Tok) (Q : Value → Shared → Prop) (s : Shared), Q (.bool (p i j)) s → wpAny (model X.prog X.w) X.A (compareOp op (.int i t) (.int j u)) Q X.xe s) : PC X op a b (tCmp p ta tb) := by
  intro pins s σ H Q I h
  refine bin ha hb I h fun v u s2 x y H2 I2 rx ry q => ?_
  obtain ⟨i, j, rfl, rfl, q⟩ := q
  obtain ⟨t, rfl⟩ := rx
  obtain ⟨t', rfl⟩ := ry
  exact rule i j t t' _ s2 ⟨.bl _, H2, I2, rfl, q⟩
theorem pc_lt (ha : PE X a ta) (hb : PE X b tb) : PC X .Lt a b (tLt ta tb) := pc_int ha hb fun _ _ _ _ _ _ h => lt_int h
theorem pc_le (ha : PE X a ta) (hb : PE X b tb) : PC X .LtE a b (tLe ta tb) := pc_int ha hb fun _ _ _ _ _ _ h => le_int h
theorem pc_gt (ha : PE X a ta) (hb : PE X b tb) : PC X .Gt a b (tGt ta tb) := pc_int ha hb fun _ _ _ _ _ _ h => gt_int h
theorem pc_ge (ha : PE X a ta) (hb : PE X b tb) : PC X .GtE a b (tGe ta tb) := pc_int ha hb fun _ _ _ _ _ _ h => ge_int h
theorem pc_eqI (ha : PE X a ta) (hb : PE X b tb) : PC X .Eq a b (tEqI ta tb) := pc_int ha hb fun _ _ _ _ _ _ h => eq_int (by rw [Bool.beq_eq_decide_eq]; exact h)
theorem pc_neI (ha : PE X a ta) (hb : PE X b tb) : PC X .NotEq a b (tNeI ta tb) := pc_int ha hb fun _ _ _ _ _ _ h => ne_int (by rw [bne, Bool.beq_eq_decide_eq]; exact h)
/-- is None -/
def tIsN (ta : TE) : TE := fun σ H Q => ta σ H fun x H1 => Q (.bl (decide (x = .non))) H1
def tNotN (ta : TE) : TE := fun σ H Q => ta σ H fun x H1 => Q (.bl (!decide (x = .non))) H1
theorem RelV.none_iff {x : V} {v : Value} (r : RelV x v) : (v == Value.none) = decide (x = .non) := by
  cases x with
  | non => cases r; rfl
  | bl _ => cases r; rfl
  | int _ => obtain ⟨t, rfl⟩ := r; rfl
  | str _ => obtain ⟨t, rfl⟩ := r; rfl
  | byt _ => obtain ⟨t, rfl⟩ := r; rfl
  | flt _ => obtain ⟨t, rfl⟩ := r; rfl
  | ref _ => cases r; rfl
  | ty _ => cases r; rfl
theorem pc_isN {j pos'} (ha : PE X a ta) : PC X .Is a (.Constant .none j pos') (tIsN ta) := by
  intro pins s σ H Q I h
  refine thn (ha pins s σ H _ I h) fun v s1 ⟨x, H1, I1, r1, q1⟩ => ?_
  exact Constant_none (is_none_gen ⟨.bl _, H1, I1, by rw [r1.none_iff]; rfl, q1⟩)
theorem pc_notN {j pos'} (ha : PE X a ta) : PC X .IsNot a (.Constant .none j pos') (tNotN ta) := by
  intro pins s σ H Q I h
  refine thn (ha pins s σ H _ I h) fun v s1 ⟨x, H1, I1, r1, q1⟩ => ?_
  exact Constant_none (isnot_none_gen ⟨.bl _, H1, I1, by rw [r1.none_iff]; rfl, q1⟩)
/-- a comparison as a value, as a test -/
def tB (t : TE) : TT := fun σ H Q => t σ H fun x H1 => ∃ c, x = .bl c ∧ Q c H1
theorem pe_cmp {op : CmpOp} {t : TE} (h : PC X op a b t) (h1 : behindInMarks op b = false := by first | exact nobehind _ (by decide) (by decide) | rfl) : PE X (.Compare a [op] [b] pos) t := fun pins s σ H Q I hw => wpAny_Compare1 (h pins s σ H Q I hw) h1
theorem pt_cmp {op : CmpOp} {t : TE} (h : PC X op a b t) (h1 : behindInMarks op b = false := by first | exact nobehind _ (by decide) (by decide) | rfl) : PT X (.Compare a [op] [b] pos) (tB t) := by
  intro pins s σ H Q I hw
  refine wpAny_isTrue_Compare1 (thn (h pins s σ H _ I hw) fun v s1 h1 => thn h1 fun u s2 h2 => thn h2 fun c s3 ⟨x, H1, I1, r1, q1⟩ => ?_) h1
  obtain ⟨d, rfl, q⟩ := q1
  cases r1
  exact wpAny_truthy_bool ⟨H1, I1, q⟩
/-- an expression whose value is a bool, as a test -/
theorem pt_val {e : Expr} {t : TE} (h : PE X e t) (he : ∀ whole, isTrue e X.env whole = (do let v ← whole; standAt e.pos; holding [v] (truthy v)) := by intro _; rfl) : PT X e (tB t) := by
  intro pins s σ H Q I hw
  refine isTrue_plain (thn (h pins s σ H _ I hw) fun v s1 ⟨x, H1, I1, r1, q1⟩ => ?_) (he _)
  obtain ⟨d, rfl, q⟩ := q1
  cases r1
  exact wpAny_truthy_bool ⟨H1, I1, q⟩

/-! ### and, or, not -/
variable {tA tB' : TT} {rest : List Expr}
def tAnd (t u : TT) : TT := fun σ H Q => t σ H fun c H1 => if c = true then u σ H1 Q else Q false H1
def tOr (t u : TT) : TT := fun σ H Q => t σ H fun c H1 => if c = true then Q true H1 else u σ H1 Q
def tNot (t : TT) : TT := fun σ H Q => t σ H fun c H1 => Q (!c) H1
theorem pw_and1 (ha : PT X a tA) : PW X (.BoolOp .And [a] pos) tA := by
  intro wh pins s σ H Q I h
  refine isTrue_and (thn (ha pins s σ H Q I h) fun c s1 e => ?_)
  cases c with
  | true => exact isTrue_and_nil e
  | false => exact e
theorem pw_or1 (ha : PT X a tA) : PW X (.BoolOp .Or [a] pos) tA := by
  intro wh pins s σ H Q I h
  refine isTrue_or (thn (ha pins s σ H Q I h) fun c s1 e => ?_)
  cases c with
  | false => exact isTrue_or_nil e
  | true => exact e
theorem pw_and (ha : PT X a tA) (hb : PW X (.BoolOp .And (b :: rest) pos) tB') : PW X (.BoolOp .And (a :: b :: rest) pos) (tAnd tA tB') := by
  intro wh pins s σ H Q I h
  refine isTrue_and (thn (ha pins s σ H _ I h) fun c s1 ⟨H1, I1, q1⟩ => ?_)
  cases c with
  | true => exact hb wh pins s1 σ H1 Q I1 q1
  | false => exact ⟨H1, I1, q1⟩
theorem pw_or (ha : PT X a tA) (hb : PW X (.BoolOp .Or (b :: rest) pos) tB') : PW X (.BoolOp .Or (a :: b :: rest) pos) (tOr tA tB') := by
  intro wh pins s σ H Q I h
  refine isTrue_or (thn (ha pins s σ H _ I h) fun c s1 ⟨H1, I1, q1⟩ => ?_)
  cases c with
  | true => exact ⟨H1, I1, q1⟩
  | false => exact hb wh pins s1 σ H1 Q I1 q1
theorem pt_not (ha : PT X a tA) : PT X (.UnaryOp .Not a pos) (tNot tA) := by
  intro pins s σ H Q I h
  exact isTrue_not (ha pins s σ H (fun c H1 => Q (!c) H1) I h)
/-- .. as values (bools) -/
def tAndV (ta tb : TE) : TE := fun σ H Q => ta σ H fun x H1 => ∃ c, x = .bl c ∧ if c = true then tb σ H1 Q else Q (.bl false) H1
def tOrV (ta tb : TE) : TE := fun σ H Q => ta σ H fun x H1 => ∃ c, x = .bl c ∧ if c = true then Q (.bl true) H1 else tb σ H1 Q
def tNotV (ta : TE) : TE := fun σ H Q => ta σ H fun x H1 => ∃ c, x = .bl c ∧ Q (.bl (!c)) H1
theorem pe_one {op} {t : TE} (h : PE X a t) : PE X (.BoolOp op [a] pos) t := fun pins s σ H Q I hw => BoolOp_one (h pins s σ H Q I hw)
theorem pe_and (ha : PE X a ta) (hb : PE X (.BoolOp .And (b :: rest) pos) tb) : PE X (.BoolOp .And (a :: b :: rest) pos) (tAndV ta tb) := by
  intro pins s σ H Q I h
  refine BoolOp_and (thn (ha pins s σ H _ I h) fun v s1 ⟨x, H1, I1, r1, q1⟩ => ?_)
  obtain ⟨c, rfl, q1⟩ := q1
  cases r1
  refine wpAny_truthy_bool ?_
  cases c with
  | true => exact hb pins s1 σ H1 Q I1 q1
  | false => exact ⟨.bl false, H1, I1, rfl, q1⟩
theorem pe_or (ha : PE X a ta) (hb : PE X (.BoolOp .Or (b :: rest) pos) tb) : PE X (.BoolOp .Or (a :: b :: rest) pos) (tOrV ta tb) := by
  intro pins s σ H Q I h
  refine BoolOp_or (thn (ha pins s σ H _ I h) fun v s1 ⟨x, H1, I1, r1, q1⟩ => ?_)
  obtain ⟨c, rfl, q1⟩ := q1
  cases r1
  refine wpAny_truthy_bool ?_
  cases c with
  | false => exact hb pins s1 σ H1 Q I1 q1
  | true => exact ⟨.bl true, H1, I1, rfl, q1⟩
theorem pe_not (ha : PE X a ta) : PE X (.UnaryOp .Not a pos) (tNotV ta) := by
  intro pins s σ H Q I h
  refine UnaryOp_ (thn (ha pins s σ H _ I h) fun v s1 ⟨x, H1, I1, r1, q1⟩ => ?_)
  obtain ⟨c, rfl, q1⟩ := q1
  cases r1
  exact not_of (wpAny_truthy_bool ⟨.bl (!c), H1, I1, rfl, q1⟩)
/-- a if t else b -/
def tIf (t : TT) (ta tb : TE) : TE := fun σ H Q => t σ H fun c H1 => if c = true then ta σ H1 Q else tb σ H1 Q
theorem pe_ifExp {c : Expr} (hc : PT X c tA) (ha : PE X a ta) (hb : PE X b tb) : PE X (.IfExp c a b pos) (tIf tA ta tb) := by
  intro pins s σ H Q I h
  refine wpAny_IfExp (thn (hc pins s σ H _ I h) fun d s1 ⟨H1, I1, q1⟩ => ?_)
  cases d with
  | true => exact ha pins s1 σ H1 Q I1 q1
  | false => exact hb pins s1 σ H1 Q I1 q1
end
end L2

namespace L2
open PySem PySem.Spec PyProof.Rows

/-! ### a list, a tuple that is read: tracked, frozen, or an object of the module -/
def SqL (K : PySem.W.Frag) (H : Hp) (a : Addr) (xs : List V) : Prop :=
  Rd H a (.lst xs) ∨
    ∃ (o : Obj) (its : Array Value) (n : Nat), K.lookup a = some o ∧ o.cls = .type "list" ∧ o.dict = none ∧ o.data = .seq its n ∧ its.size ≤ sizeLine ∧ Vals xs its.toList
def SqT (K : PySem.W.Frag) (H : Hp) (a : Addr) (xs : List V) : Prop :=
  Rd H a (.tup xs) ∨
    ∃ (o : Obj) (its : Array Value) (n : Nat), K.lookup a = some o ∧ o.cls = .type "tuple" ∧ o.data = .seq its n ∧ its.size ≤ sizeLine ∧ Vals xs its.toList
def absV : Value → Option V
  | .none => some .non
  | .bool b => some (.bl b)
  | .int i _ => some (.int i)
  | .str x _ => some (.str x)
  | .bytes b _ => some (.byt b)
  | .float b _ => some (.flt b)
  | .ref a => some (.ref a)
  | .type n => some (.ty n)
  | _ => none
theorem RelV.abs {x : V} {u : Value} (r : RelV x u) : absV u = some x := by
  cases x with
  | non => cases r; rfl
  | bl _ => cases r; rfl
  | int _ => obtain ⟨t, rfl⟩ := r; rfl
  | str _ => obtain ⟨t, rfl⟩ := r; rfl
  | byt _ => obtain ⟨t, rfl⟩ := r; rfl
  | flt _ => obtain ⟨t, rfl⟩ := r; rfl
  | ref _ => cases r; rfl
  | ty _ => cases r; rfl
theorem RelV.inj {x y : V} {u : Value} (r : RelV x u) (q : RelV y u) : x = y := Option.some.inj (r.abs.symm.trans q.abs)
theorem Vals.inj : ∀ {xs ys : List V} {us : List Value}, Vals xs us → Vals ys us → xs = ys
  | _, _, _, .nil, .nil => rfl
  | _, _, _, .cons r t, .cons r' t' => by rw [r.inj r', Vals.inj t t']
section
variable {X : Cx} {pins : List (Addr × Obj)} {σ : St} {H : Hp} {s : Shared} {a : Addr} {xs ys : List V}
theorem SqL.of {K : PySem.W.Frag} (h : H a = some (.lst xs)) : SqL K H a xs := .inl (.inl h)
theorem SqT.of {K : PySem.W.Frag} (h : H a = some (.tup xs)) : SqT K H a xs := .inl (.inl h)
theorem Inv.list (I : Inv X pins σ H s) (h : SqL X.K H a xs) : ∃ its : List Value, Vals xs its ∧ PlainL s.heap a its.toArray ∧ xs.length ≤ sizeLine := by
  rcases h with h | ⟨o, its, n, hk, hc, hd, hs, hz, r⟩
  · obtain ⟨z, its, n, r, e⟩ := h.ok I.hok
    exact ⟨its, r, ⟨_, n, e, rfl, rfl, rfl⟩, z⟩
  · refine ⟨its.toList, r, ⟨o, n, I.kIn a o hk, hc, hd, by simpa using hs⟩, ?_⟩
    have e := r.length
    simp only [Array.length_toList] at e
    omega
theorem Inv.tuple (I : Inv X pins σ H s) (h : SqT X.K H a xs) : ∃ its : List Value, Vals xs its ∧ IsTup s.heap a its.toArray ∧ xs.length ≤ sizeLine := by
  rcases h with h | ⟨o, its, n, hk, hc, hs, hz, r⟩
  · obtain ⟨z, its, r, p⟩ := h.ok I.hok
    exact ⟨its, r, p, z⟩
  · refine ⟨its.toList, r, ⟨o, I.kIn a o hk, hc, n, by simpa using hs⟩, ?_⟩
    have e := r.length
    simp only [Array.length_toList] at e
    omega
theorem Inv.list_inj (I : Inv X pins σ H s) (h : SqL X.K H a xs) (h' : SqL X.K H a ys) : xs = ys := by
  obtain ⟨its, r, ⟨o, n, e, _, _, d⟩, _⟩ := I.list h
  obtain ⟨its', r', ⟨o', n', e', _, _, d'⟩, _⟩ := I.list h'
  rw [e] at e'; cases e'
  rw [d] at d'
  injection d' with d1 _
  have : its = its' := by simpa using congrArg Array.toList d1
  subst this
  exact r.inj r'
theorem Inv.tuple_inj (I : Inv X pins σ H s) (h : SqT X.K H a xs) (h' : SqT X.K H a ys) : xs = ys := by
  obtain ⟨its, r, ⟨o, e, _, n, d⟩, _⟩ := I.tuple h
  obtain ⟨its', r', ⟨o', e', _, n', d'⟩, _⟩ := I.tuple h'
  rw [e] at e'; cases e'
  rw [d] at d'
  injection d' with d1 _
  have : its = its' := by simpa using congrArg Array.toList d1
  subst this
  exact r.inj r'
end

/-! ### another wish about exceptions -/
abbrev Cx.wish (X : Cx) (E : Value → Shared → Prop) : Cx := { X with xe := E }
/-- no exception leaves -/
abbrev Cx.nox (X : Cx) : Cx := X.wish fun _ _ => False
theorem Cx.Ok.wish {X : Cx} (ok : X.Ok) (E : Value → Shared → Prop) : (X.wish E).Ok :=
  ⟨ok.mod, ok.kind, ok.glob, ok.blt, ok.above, ok.inj, ok.has, ok.cab, ok.hd, ok.frames, ok.stk, ok.exf, ok.bs, ok.bsz, ok.noex, ok.exfs, ok.funs, ok.frf⟩
theorem Cx.Ok.unwish {X : Cx} {E : Value → Shared → Prop} (ok : (X.wish E).Ok) : X.Ok :=
  ⟨ok.mod, ok.kind, ok.glob, ok.blt, ok.above, ok.inj, ok.has, ok.cab, ok.hd, ok.frames, ok.stk, ok.exf, ok.bs, ok.bsz, ok.noex, ok.exfs, ok.funs, ok.frf⟩
section
variable {X : Cx} {pins : List (Addr × Obj)} {σ : St} {H : Hp} {s : Shared} {E : Value → Shared → Prop}
theorem Inv.wish (I : Inv X pins σ H s) (E : Value → Shared → Prop) : Inv (X.wish E) pins σ H s := ⟨I.ok.wish E, I.os, I.bare, I.base, I.loc, I.cell, I.free, I.freeC, I.pin, I.hok, I.len⟩
theorem Inv.unwish (I : Inv (X.wish E) pins σ H s) : Inv X pins σ H s := ⟨I.ok.unwish, I.os, I.bare, I.base, I.loc, I.cell, I.free, I.freeC, I.pin, I.hok, I.len⟩
theorem SP.unwish {D : Ends} {f : Flow} {s' : Shared} (h : SP (X.wish E) pins D f s') : SP X pins D f s' := by
  cases f with
  | next => obtain ⟨σ', H', I, q⟩ := h; exact ⟨σ', H', I.unwish, q⟩
  | brk => obtain ⟨σ', H', I, q⟩ := h; exact ⟨σ', H', I.unwish, q⟩
  | cont => obtain ⟨σ', H', I, q⟩ := h; exact ⟨σ', H', I.unwish, q⟩
  | ret u => obtain ⟨v, σ', H', I, r, q⟩ := h; exact ⟨v, σ', H', I.unwish, r, q⟩
theorem PE.nox {e : Expr} {t : TE} (h : PE X.nox e t) : PE X e t := fun pins s σ H Q I hw =>
  wpAny_mono (h pins s σ H Q (I.wish _) hw) (fun _ _ ⟨v, H', I', r, q⟩ => ⟨v, H', I'.unwish, r, q⟩) fun _ _ z => False.elim z
theorem PT.nox {e : Expr} {t : TT} (h : PT X.nox e t) : PT X e t := fun pins s σ H Q I hw =>
  wpAny_mono (h pins s σ H Q (I.wish _) hw) (fun _ _ ⟨H', I', q⟩ => ⟨H', I'.unwish, q⟩) fun _ _ z => False.elim z
theorem PSs.nox {st : List Stmt} {t : TS} (h : PSs X.nox st t) : PSs X st t := fun pins s σ H D I hw =>
  wpAny_mono (h pins s σ H D (I.wish _) hw) (fun _ _ q => q.unwish) fun _ _ z => False.elim z
end

/-! ### blocks and small statements -/
section
variable {X : Cx} {st : Stmt} {rest : List Stmt} {t u : TS} {e : Expr} {te : TE} {pos : Pos}
def tNext : TS := fun D σ H => D.nx σ H
def tSeq (t u : TS) : TS := fun D σ H => t { D with nx := u D } σ H
theorem pss_nil : PSs X [] tNext := fun _ _ σ H _ I h => wpAny_execs_nil ⟨σ, H, I, h⟩
theorem pss_cons (h1 : PS X st t) (h2 : PSs X rest u) : PSs X (st :: rest) (tSeq t u) := by
  intro pins s σ H D I h
  refine wpAny_execs_cons (thn (h1 pins s σ H { D with nx := u D } I h) fun f s1 q => ?_)
  cases f with
  | next =>
    obtain ⟨σ', H', I', q⟩ := q
    exact h2 pins s1 σ' H' D I' q
  | ret v => exact q
  | brk => exact q
  | cont => exact q
theorem pss_one (h1 : PS X st t) : PSs X [st] t := by
  intro pins s σ H D I h
  refine wpAny_execs_cons (thn (h1 pins s σ H D I h) fun f s1 q => ?_)
  cases f with
  | next => exact wpAny_execs_nil q
  | ret v => exact q
  | brk => exact q
  | cont => exact q
def tBreak : TS := fun D σ H => D.bk σ H
def tCont : TS := fun D σ H => D.ct σ H
theorem ps_pass : PS X (.Pass pos) tNext := fun _ _ σ H _ I h => wpAny_Pass ⟨σ, H, I, h⟩
theorem ps_break : PS X (.Break pos) tBreak := fun _ _ σ H _ I h => wpAny_Break ⟨σ, H, I, h⟩
theorem ps_continue : PS X (.Continue pos) tCont := fun _ _ σ H _ I h => wpAny_Continue ⟨σ, H, I, h⟩
/-- in a def's body nothing is shown -/
theorem Inv.quiet {pins : List (Addr × Obj)} {σ : St} {H : Hp} {s : Shared} (I : Inv X pins σ H s) : interactive X.env = false := by simp [interactive, I.ok.kind]
/-- a docstring -/
theorem ps_doc {x j pos pos'} : PS X (.Expr (.Constant (.str x) j pos) pos') tNext := fun _ s σ H _ I h => wpAny_Expr (Calls.Constant_str (show SP X _ _ .next { s with toks := s.toks + 1 } from ⟨σ, H, I.tok _, h⟩)) I.quiet
/-- an expression whose value is dropped -/
def tDrop (te : TE) : TS := fun D σ H => te σ H fun _ H1 => D.nx σ H1
theorem ps_expr (he : PE X e te) (hs : swapsWith e none pos.line X.env = pure false := by rfl) : PS X (.Expr e pos) (tDrop te) := by
  intro pins s σ H D I h
  exact wpAny_Expr_any (thn (he pins s σ H _ I h) fun v s1 ⟨x, H1, I1, r1, q1⟩ => ⟨σ, H1, I1, q1⟩) I.quiet hs
def tRet (te : TE) : TS := fun D σ H => te σ H D.rt
theorem ps_ret (he : PE X e te) : PS X (.Return (some e) pos) (tRet te) := by
  intro pins s σ H D I h
  exact wpAny_Return_some (thn (he pins s σ H _ I h) fun v s1 ⟨x, H1, I1, r1, q1⟩ => ⟨x, σ, H1, I1, r1, q1⟩)
def tRetN : TS := fun D _ H => D.rt .non H
theorem ps_retN : PS X (.Return none pos) tRetN := fun _ _ σ H _ I h => wpAny_Return_none ⟨.non, σ, H, I, rfl, h⟩
def tIfS (c : TT) (t u : TS) : TS := fun D σ H => c σ H fun b H1 => if b = true then t D σ H1 else u D σ H1
theorem ps_if {c : Expr} {a b : List Stmt} {tc : TT} (hc : PT X c tc) (ha : PSs X a t) (hb : PSs X b u) : PS X (.If c a b pos) (tIfS tc t u) := by
  intro pins s σ H D I h
  refine wpAny_If (thn (hc pins s σ H _ I h) fun d s1 ⟨H1, I1, q1⟩ => ?_)
  cases d with
  | true => exact ha pins s1 σ H1 D I1 q1
  | false => exact hb pins s1 σ H1 D I1 q1
/-- code that the proof never comes to -/
def tNever : TS := fun _ _ _ => False
theorem ps_never : PS X st tNever := fun _ _ _ _ _ _ h => h.elim
theorem pss_never {sts : List Stmt} : PSs X sts tNever := fun _ _ _ _ _ _ h => h.elim
end

/-! ### targets -/
abbrev TG := V → St → Hp → (St → Hp → Prop) → Prop
abbrev TGs := List V → St → Hp → (St → Hp → Prop) → Prop
def PG (X : Cx) (target : Expr) (t : TG) : Prop :=
  ∀ (pins : List (Addr × Obj)) (s : Shared) (σ : St) (H : Hp) (v : V) (u : Value) (Q : St → Hp → Prop), Inv X pins σ H s → RelV v u → t v σ H Q →
    wpAny (model X.prog X.w) X.A (assign target X.env u) (fun _ s' => ∃ σ' H', Inv X pins σ' H' s' ∧ Q σ' H') X.xe s
/-- several targets, one after another -/
def PGs (X : Cx) (ts : List Expr) (t : TGs) : Prop :=
  ∀ (pins : List (Addr × Obj)) (s : Shared) (σ : St) (H : Hp) (vs : List V) (us : List Value) (Q : St → Hp → Prop), Inv X pins σ H s → Vals vs us → t vs σ H Q →
    wpAny (model X.prog X.w) X.A (assignInOrder ((assignEach ts X.env).map (·.2)) us) (fun _ s' => ∃ σ' H', Inv X pins σ' H' s' ∧ Q σ' H') X.xe s
/-- o[i] = v, by values -/
abbrev TSet := V → V → V → Hp → (Hp → Prop) → Prop
def PSet (X : Cx) (t : TSet) : Prop :=
  ∀ (pins : List (Addr × Obj)) (s : Shared) (σ : St) (H : Hp) (o i v : V) (ov iv u : Value) (Q : Hp → Prop), Inv X pins σ H s → RelV o ov → RelV i iv → RelV v u → t o i v H Q →
    wpAny (model X.prog X.w) X.A (setItem ov iv u) (fun _ s' => ∃ H', Inv X pins σ H' s' ∧ Q H') X.xe s
/-- a op= b, by values -/
abbrev TIp := V → V → Hp → VK → Prop
def PIp (X : Cx) (op : Operator) (t : TIp) : Prop :=
  ∀ (pins : List (Addr × Obj)) (s : Shared) (σ : St) (H : Hp) (x y : V) (v u : Value) (Q : VK), Inv X pins σ H s → RelV x v → RelV y u → t x y H Q →
    wpAny (model X.prog X.w) X.A (inplaceOp op v u) (EP X pins σ Q) X.xe s
section
variable {X : Cx} {pos : Pos}
def gName (i : Nat) : TG := fun v σ H Q => Q (σ.set i (some v)) H
theorem pg_name {i : Nat} {x : Str} (hN : X.N.Nodup) (hi : X.N[i]? = some x) (hx : Loc X.env.scope x) (hf : X.fn x = true ∨ X.env.scope.names.lookup x = some .local := by first | exact .inl rfl | exact .inr rfl | assumption) : PG X (.Name x pos) (gName i) := by
  intro pins s σ H v u Q I r h
  exact wpAny_assign_Name (store_ok I hN hi hx r (fun s' I' => ⟨_, H, I', h⟩) hf)
def gNil : TGs := fun vs σ H Q => vs = [] ∧ Q σ H
def gCons (t : TG) (u : TGs) : TGs := fun vs σ H Q => ∃ v r, vs = v :: r ∧ t v σ H fun σ' H' => u r σ' H' Q
theorem pgs_nil : PGs X [] gNil := by
  intro pins s σ H vs us Q I r h
  obtain ⟨e, h⟩ := h
  subst e
  cases r
  exact assignInOrder_nil ⟨σ, H, I, h⟩
theorem pgs_cons {e : Expr} {es : List Expr} {t : TG} {u : TGs} (h1 : PG X e t) (h2 : PGs X es u)
    (hs : (assignEach (e :: es) X.env).map (·.2) = assign e X.env :: (assignEach es X.env).map (·.2) := by rfl) : PGs X (e :: es) (gCons t u) := by
  intro pins s σ H vs us Q I r h
  obtain ⟨v, vr, e1, h⟩ := h
  subst e1
  cases r with
  | cons r rr =>
    rw [hs]
    refine assignInOrder_cons (thn (h1 pins s σ H _ _ _ I r h) fun _ s1 ⟨σ1, H1, I1, q1⟩ => ?_)
    exact h2 pins s1 σ1 H1 _ _ Q I1 rr q1
/-- (a, b, ..) = a tuple of that length -/
def gTup (K : PySem.W.Frag) (n : Nat) (t : TGs) : TG := fun v σ H Q => ∃ a xs, v = .ref a ∧ SqT K H a xs ∧ xs.length = n ∧ t xs σ H Q
theorem pg_tup {es : List Expr} {k : Nat} {t : TGs} {n : Nat} (hc : X.calm = true) (h : PGs X es t)
    (hn : (assignEach es X.env).length = n := by rfl) (hst : (assignEach es X.env).findIdx? (·.1) = none := by rfl) : PG X (.Tuple es k pos) (gTup X.K n t) := by
  intro pins s σ H v u Q I r hw
  obtain ⟨a, xs, e1, hq, hl, hw⟩ := hw
  subst e1
  cases r
  obtain ⟨its, rv, ht, hz⟩ := I.tuple hq
  refine assign_Tuple_tuple (I.ok.hd hc) ht (by simp [hn, ← hl, rv.length]) hst fun h' hx => ?_
  have I1 : Inv X pins σ H { s with heap := h' } := I.kept (t' := s.toks) fun b o e => hx b o (Nat.ne_of_lt (Heap.lt_size e)) e
  exact h pins _ σ H xs _ Q I1 (by simpa using rv) hw
/-- o[i] = .. -/
def gSub (to ti : TE) (t : TSet) : TG := fun v σ H Q => to σ H fun o H1 => ti σ H1 fun i H2 => t o i v H2 fun H3 => Q σ H3
theorem pg_sub {o i : Expr} {to ti : TE} {t : TSet} (ho : PE X o to) (hi : PE X i ti) (hs : PSet X t)
    (ha : ∀ v, assign (.Subscript o i pos) X.env v = (do
      let ov ← holding [v] (eval o X.env)
      let iv ← holding [v, ov] (eval i X.env)
      standAt pos
      holding [v, ov, iv] (setItem ov iv v)
      release [v, ov, iv] []) := by intro _; rfl) : PG X (.Subscript o i pos) (gSub to ti t) := by
  intro pins s σ H v u Q I r h
  rw [ha]
  refine wpAny_bind (wpAny_holding (thn (ho pins s σ H _ I h) fun ov s1 ⟨x, H1, I1, r1, q1⟩ => ?_))
  refine wpAny_bind (wpAny_holding (thn (hi pins s1 σ H1 _ I1 q1) fun iv s2 ⟨y, H2, I2, r2, q2⟩ => ?_))
  refine wpAny_bind (wpAny_standAt (wpAny_bind (wpAny_holding (thn (hs pins s2 σ H2 x y v ov iv u _ I2 r1 r2 r q2) fun _ s3 ⟨H3, I3, q3⟩ => ?_))))
  exact wpAny_release ⟨σ, H3, I3, q3⟩
/-- target = value -/
def tAsg (te : TE) (g : TG) : TS := fun D σ H => te σ H fun x H1 => g x σ H1 D.nx
theorem ps_asg {tg e : Expr} {te : TE} {g : TG} (he : PE X e te) (hg : PG X tg g) (hs : swapsWithSole [tg] e pos.line X.env = pure false := by rfl) (hw : swappedStores [tg] e X.env = pure none := by rfl)
    (h1 : (assignEach [tg] X.env).map (·.2) = [assign tg X.env] := by rfl) : PS X (.Assign [tg] e pos) (tAsg te g) := by
  intro pins s σ H D I h
  refine wpAny_Assign_stores (thn (he pins s σ H _ I h) fun v s1 ⟨x, H1, I1, r1, q1⟩ => ?_) hs hw
  rw [h1]
  exact thn (hg pins s1 σ H1 x v _ I1 r1 q1) fun _ s2 q => q
/-- name = value -/
theorem ps_set {i : Nat} {x : Str} {e : Expr} {te : TE} {pos' : Pos} (hN : X.N.Nodup) (hi : X.N[i]? = some x) (hx : Loc X.env.scope x) (he : PE X e te) (hs : swapsWith e (some (.Name x pos')) pos.line X.env = pure false := by rfl) (hf : X.fn x = true ∨ X.env.scope.names.lookup x = some .local := by first | exact .inl rfl | exact .inr rfl | assumption) :
    PS X (.Assign [.Name x pos'] e pos) (tAsg te (gName i)) := by
  intro pins s σ H D I h
  refine wpAny_Assign_Name (thn (he pins s σ H _ I h) fun v s1 ⟨y, H1, I1, r1, q1⟩ => ?_) hs
  exact store_ok I1 hN hi hx r1 (fun s2 I2 => ⟨_, H1, I2, q1⟩) hf
/-- a, b = x, y with plain local names: stored from the right; the pair itself is not tracked (the opening rows as in PyProof/Rows/TupAssign.lean:23) -/
def tPar (i j : Nat) (ta : TA) : TS := fun D σ H => ta σ H fun vs H1 => ∃ v w, vs = [v, w] ∧ D.nx ((σ.set i (some v)).set j (some w)) H1
theorem ps_par {i j : Nat} {x y : Str} {a b : Expr} {ta : TA} {px py pt : Pos} {kt k2 pt2} (hc : X.calm = true) (hN : X.N.Nodup) (hi : X.N[i]? = some x) (hj : X.N[j]? = some y) (hij : i ≠ j)
    (hx : X.env.scope.names.lookup x = some .local) (hy : X.env.scope.names.lookup y = some .local) (ha : PA X [a, b] ta)
    (hw : swappedStores [.Tuple [.Name x px, .Name y py] kt pt] (.Tuple [a, b] k2 pt2) X.env = pure (some [x, y]))
    (hs : swapsWithSole [.Tuple [.Name x px, .Name y py] kt pt] (.Tuple [a, b] k2 pt2) pos.line X.env = pure false := by rfl) :
    PS X (.Assign [.Tuple [.Name x px, .Name y py] kt pt] (.Tuple [a, b] k2 pt2) pos) (tPar i j ta) := by
  intro pins s σ H D I h
  rw [exec_Assign_arm]
  refine wpAny_bind (wpAny_standAt ?_)
  rw [hs]
  refine wpAny_bind (wpAny_pure ?_)
  rw [if_neg (by decide)]
  refine wpAny_bind (Tuple_ (thn (ha _ pins s σ H _ I h) fun us s1 ⟨vs, H1, I1, r1, q1⟩ => ?_))
  obtain ⟨v, w, e1, q1⟩ := q1
  subst e1
  obtain ⟨u1, u2, rfl, rv, rw'⟩ : ∃ u1 u2, us = [u1, u2] ∧ RelV v u1 ∧ RelV w u2 := by
    cases r1 with
    | cons p q =>
      cases q with
      | cons p' q' =>
        cases q'
        exact ⟨_, _, rfl, p, p'⟩
  refine wpAny_newObj_type ?_ (by show 2 ≤ sizeLine; decide)
  have I2 : Inv X pins σ H1 { s1 with heap := s1.heap.push { cls := .type "tuple", data := .seq [u1, u2].toArray } } := I1.kept (t' := s1.toks) fun b o e => Heap.get?_push_of_some _ e
  rw [hw]
  refine wpAny_bind (wpAny_pure ?_)
  show wpAny (model X.prog X.w) X.A (do rule "assign.swapped-stores"; let items ← unpackItems (.ref s1.heap.objs.size) 2 none; assignInOrder [fun v => bindName X.env y v, fun v => bindName X.env x v] items.reverse; pure Flow.next) _ _ _
  refine wpAny_bind (wpAny_rule (wpAny_bind (unpackItems_tuple (items := #[u1, u2]) (I.ok.hd hc) (IsTup.new s1.heap _) fun h' hx' => ?_)))
  have I3 := I2.kept (h' := h') (t' := s1.toks) fun b o e => hx' b o (Nat.ne_of_lt (Heap.lt_size e)) e
  show wpAny _ _ (assignInOrder [fun v => bindName X.env y v, fun v => bindName X.env x v] [u2, u1] >>= fun _ => pure Flow.next) _ _ _
  refine wpAny_bind (assignInOrder_cons (wpAny_bindName (store_ok I3 hN hj (.inl hy) rw' (fun s2 I4 => ?_) (.inr hy))))
  refine assignInOrder_cons (wpAny_bindName (store_ok I4 hN hi (.inl hx) rv (fun s3 I5 => assignInOrder_nil (wpAny_pure ?_)) (.inr hx)))
  rw [List.set_comm _ _ (Ne.symm hij)] at I5
  exact ⟨_, H1, I5, q1⟩
/-- name op= e -/
def tAug (i : Nat) (te : TE) (ti : TIp) : TS := fun D σ H => ∃ x, σ[i]? = some (some x) ∧ te σ H fun y H1 => ti x y H1 fun z H2 => D.nx (σ.set i (some z)) H2
theorem ps_aug {i : Nat} {x : Str} {e : Expr} {te : TE} {op : Operator} {ti : TIp} {pos' : Pos} (hN : X.N.Nodup) (hi : X.N[i]? = some x) (hx : Loc X.env.scope x) (he : PE X e te) (ho : PIp X op ti) (hf : X.fn x = true ∨ X.env.scope.names.lookup x = some .local := by first | exact .inl rfl | exact .inr rfl | assumption) :
    PS X (.AugAssign (.Name x pos') op e pos) (tAug i te ti) := by
  intro pins s σ H D I h
  obtain ⟨v, e1, h⟩ := h
  obtain ⟨m, hn, hl⟩ := I.loc
  have vis : Vis X.env.scope x := by rcases hx with k | k; exact .inl k; exact .inr (.inl k)
  obtain ⟨u, r, l⟩ := hl i x v hi e1 vis
  refine wpAny_AugAssign_Name ?_
  have go : wpAny (model X.prog X.w) X.A (eval e X.env) (fun w s₂ => wpAny (model X.prog X.w) X.A (inplaceOp op u w) (fun r s₃ => wpAny (model X.prog X.w) X.A (storeName X.env x r) (fun _ => SP X pins D .next) X.xe s₃) X.xe s₂) X.xe s := by
    refine thn (he pins s σ H _ I h) fun w s1 ⟨y, H1, I1, r1, q1⟩ => ?_
    refine thn (ho pins s1 σ H1 v y u w _ I1 r r1 q1) fun z s2 ⟨zv, H2, I2, r2, q2⟩ => ?_
    exact store_ok I2 hN hi hx r2 (fun s3 I3 => ⟨_, H2, I3, q2⟩) hf
  rcases l with ⟨hk, hm⟩ | ⟨hk, c, hc, hcell⟩
  · exact wpAny_loadName_local I.ok.kind hk hn hm go
  · rcases hk with hk | hk
    · exact wpAny_loadName_cell I.ok.kind hk hc hcell go
    · rcases hx with k | k
      · have : X.env.scope.names.lookup x = some .free := hk
        rw [k] at this; cases this
      · have : X.env.scope.names.lookup x = some .free := hk
        rw [k] at this; cases this
/-- o[i] op= e -/
def tAugS (to ti te : TE) (tget : V → V → Hp → VK → Prop) (tip : TIp) (tset : TSet) : TS := fun D σ H => to σ H fun o H1 => ti σ H1 fun i H2 => tget o i H2 fun x H3 => te σ H3 fun y H4 => tip x y H4 fun z H5 => tset o i z H5 fun H6 => D.nx σ H6
/-- o[i], by values -/
def PGet (X : Cx) (t : V → V → Hp → VK → Prop) : Prop :=
  ∀ (pins : List (Addr × Obj)) (s : Shared) (σ : St) (H : Hp) (o i : V) (ov iv : Value) (Q : VK), Inv X pins σ H s → RelV o ov → RelV i iv → t o i H Q →
    wpAny (model X.prog X.w) X.A (getItem ov iv) (EP X pins σ Q) X.xe s
theorem ps_augS {o i e : Expr} {to ti te : TE} {tget : V → V → Hp → VK → Prop} {tip : TIp} {tset : TSet} {op : Operator} {tpos : Pos} (ho : PE X o to) (hi : PE X i ti) (hg : PGet X tget) (he : PE X e te) (hp : PIp X op tip) (hs : PSet X tset)
    (ha : ∀ ov iv new, augStore i ov iv new = (do holding [new, ov, iv] (setItem ov iv new); release [new, ov, iv] []; pure .next) := by intros; rfl) : PS X (.AugAssign (.Subscript o i tpos) op e pos) (tAugS to ti te tget tip tset) := by
  intro pins s σ H D I h
  refine wpAny_AugAssign_SubscriptAny (thn (ho pins s σ H _ I h) fun ov s1 ⟨x1, H1, I1, r1, q1⟩ => ?_) ha
  refine thn (hi pins s1 σ H1 _ I1 q1) fun iv s2 ⟨x2, H2, I2, r2, q2⟩ => ?_
  refine thn (hg pins s2 σ H2 x1 x2 ov iv _ I2 r1 r2 q2) fun old s3 ⟨x3, H3, I3, r3, q3⟩ => ?_
  refine thn (he pins s3 σ H3 _ I3 q3) fun v s4 ⟨x4, H4, I4, r4, q4⟩ => ?_
  refine thn (hp pins s4 σ H4 x3 x4 old v _ I4 r3 r4 q4) fun new s5 ⟨x5, H5, I5, r5, q5⟩ => ?_
  exact thn (hs pins s5 σ H5 x1 x2 x5 ov iv new _ I5 r1 r2 r5 q5) fun _ s6 ⟨H6, I6, q6⟩ => ⟨σ, H6, I6, q6⟩
/-- ints -/
def ipI (f : Int → Int → Int) : TIp := fun x y H Q => ∃ i j, x = .int i ∧ y = .int j ∧ Q (.int (f i j)) H
theorem ip_add : PIp X .Add (ipI fun i j => i + j) := by
  intro pins s σ H x y v u Q I r1 r2 h
  obtain ⟨i, j, e1, e2, q⟩ := h
  subst e1; subst e2
  obtain ⟨t, rfl⟩ := r1
  obtain ⟨t', rfl⟩ := r2
  exact iadd_int ⟨.int _, H, I.tok _, ⟨_, rfl⟩, q⟩
theorem ip_sub : PIp X .Sub (ipI fun i j => i - j) := by
  intro pins s σ H x y v u Q I r1 r2 h
  obtain ⟨i, j, e1, e2, q⟩ := h
  subst e1; subst e2
  obtain ⟨t, rfl⟩ := r1
  obtain ⟨t', rfl⟩ := r2
  exact isub_int ⟨.int _, H, I.tok _, ⟨_, rfl⟩, q⟩
end

/-! ### while -/
section
variable {X : Cx} {pos : Pos}
/-- the invariant W with its measure -/
def tWhile (c : TT) (tb : TS) : TS := fun D σ H => ∃ W : Nat → St → Hp → Prop, (∃ m, W m σ H) ∧ ∀ m σ H, W m σ H →
  c σ H fun b H1 => if b = true then ∃ N : St → Hp → Prop, (∀ σ' H', N σ' H' → ∃ m', m' < m ∧ W m' σ' H') ∧ tb { D with nx := N, ct := N, bk := D.nx } σ H1 else D.nx σ H1
theorem ps_while {c : Expr} {body : List Stmt} {tc : TT} {tb : TS} (hp : PassesOwn (model X.prog X.w) X.A X.env X.xe) (hc : PT X c tc) (hb : PSs X body tb) : PS X (.While c body [] pos) (tWhile tc tb) := by
  intro pins s σ H D I h
  obtain ⟨W, ⟨m0, w0⟩, turn⟩ := h
  refine wpAny_While (codeAny_whileLoop (fun n s' => ∃ σ' H', Inv X pins σ' H' s' ∧ W n σ' H') ?_ m0 ⟨σ, H, I, w0⟩)
  rintro n s1 ⟨σ1, H1, I1, w1⟩
  refine wpAny_passesOwn hp (thn (hc pins s1 σ1 H1 _ I1 (turn n σ1 H1 w1)) fun b s2 ⟨H2, I2, q2⟩ => ?_)
  cases b with
  | true =>
    obtain ⟨N, hN, q2⟩ := q2
    rw [if_pos rfl]
    refine wpAny_passesOwn hp (thn (hb pins s2 σ1 H2 _ I2 q2) fun f s3 q3 => ?_)
    cases f with
    | next =>
      obtain ⟨σ3, H3, I3, n3⟩ := q3
      obtain ⟨m', hm, w3⟩ := hN σ3 H3 n3
      exact ⟨m', hm, σ3, H3, I3, w3⟩
    | cont =>
      obtain ⟨σ3, H3, I3, n3⟩ := q3
      obtain ⟨m', hm, w3⟩ := hN σ3 H3 n3
      exact ⟨m', hm, σ3, H3, I3, w3⟩
    | brk => exact q3
    | ret v => exact q3
  | false =>
    rw [if_neg Bool.false_ne_true]
    exact wpAny_execs_nil ⟨σ1, H2, I2, q2⟩
end

/-! ### what a loop or a comprehension walks -/
/-- at turn i: it yields x (the heap may grow), or it stops -/
structure It where
  go : Nat → Hp → Prop
  yld : Nat → Hp → V → Hp → Prop
  stop : Nat → Hp → Prop
/-- the iterator's own objects may turn: they are not the frame's, not pinned, younger than the entry (or a comprehension's own) -/
def FpOk (X : Cx) (pins : List (Addr × Obj)) (H : Hp) (b : Addr) : Prop :=
  H b = none ∧ b ≠ X.env.locals ∧ b ∉ X.fs ∧ (b ∈ X.ex ∨ X.s₀.heap.objs.size ≤ b) ∧ (∀ x c, X.env.cells.lookup x = some c → c ≠ b) ∧ ∀ p ∈ X.pn ++ pins, p.1 ≠ b
theorem Inv.fpOk {X : Cx} {pins : List (Addr × Obj)} {σ : St} {H H' : Hp} {s : Shared} {b : Addr} (I : Inv X pins σ H s) (hb : s.heap.objs.size ≤ b) (hn : H' b = none) : FpOk X pins H' b := by
  refine ⟨hn, Nat.ne_of_gt (Nat.lt_of_lt_of_le I.lt hb), I.nofs hb, .inr (Nat.le_trans I.sz hb), fun x c e z => ?_, fun p hp z => ?_⟩
  · obtain ⟨v, q⟩ := I.cell x c e
    exact absurd (Nat.lt_of_lt_of_le q.lt (by rw [z]; exact hb)) (Nat.lt_irrefl _)
  · exact absurd (Nat.lt_of_lt_of_le (Heap.lt_size (I.pin p hp).1) (by rw [z]; exact hb)) (Nat.lt_irrefl _)
structure Turn (P : Program) (w : World) (K : PySem.W.Frag) (tg : Expr) (J : It) (fp : List Addr) (it : Addr) (tn : Nat → Heap → Prop) : Prop where
  mem : it ∈ fp
  obj : ∀ i h, tn i h → ∀ b ∈ fp, ∃ o, h.get? b = some o ∧ ∀ v, o.data ≠ .cell v
  keep : ∀ i h h', tn i h → (∀ b ∈ fp, ∀ o, h.get? b = some o → h'.get? b = some o) → tn i h'
  item : ∀ (X : Cx), X.prog = P → X.w = w → X.K = K → X.calm = true → ∀ (i : Nat) (pins : List (Addr × Obj)) (s : Shared) (σ : St) (H : Hp) (E : Value → Shared → Prop), Inv X pins σ H s → (∀ b ∈ fp, FpOk X pins H b) → tn i s.heap → J.go i H →
    wpAny (model P w) X.A (pyNext (.ref it)) (fun r s1 => ∃ u, r = some u ∧
      wpAny (model P w) X.A (letOwnedTupleGo tg (.ref it) u) (fun _ s2 => ∃ x H', Inv X pins σ H' s2 ∧ RelV x u ∧ J.yld i H x H' ∧ tn (i + 1) s2.heap ∧ ∀ b ∈ fp, H' b = none) E s1) E s
  done : ∀ (X : Cx), X.prog = P → X.w = w → X.K = K → X.calm = true → ∀ (i : Nat) (pins : List (Addr × Obj)) (s : Shared) (σ : St) (H : Hp) (E : Value → Shared → Prop), Inv X pins σ H s → (∀ b ∈ fp, FpOk X pins H b) → tn i s.heap → J.stop i H →
    wpAny (model P w) X.A (pyNext (.ref it)) (fun r s1 => r = none ∧ Inv X pins σ H s1) E s
  self : ∀ (A : Around) (i : Nat) (s : Shared) (Q : Value → Shared → Prop) (E : Value → Shared → Prop), tn i s.heap → Q (.ref it) s → wpAny (model P w) A (pyIter (.ref it)) Q E s
abbrev TI := St → Hp → (It → Hp → Prop) → Prop
/-- an iterator has come -/
def PIE (X : Cx) (pins : List (Addr × Obj)) (σ : St) (tg : Expr) (R : It → Hp → Prop) (itv : Value) (s2 : Shared) : Prop :=
  ∃ (it : Addr) (fp : List Addr) (tn : Nat → Heap → Prop) (J : It) (H' : Hp), itv = .ref it ∧ Inv X pins σ H' s2 ∧ Turn X.prog X.w X.K tg J fp it tn ∧ tn 0 s2.heap ∧ (∀ b ∈ fp, FpOk X pins H' b) ∧ R J H'
def PI (X : Cx) (tg iter : Expr) (wi : TI) : Prop :=
  ∀ (pins : List (Addr × Obj)) (s : Shared) (σ : St) (H : Hp) (R : It → Hp → Prop), Inv X pins σ H s → wi σ H R →
    wpAny (model X.prog X.w) X.A (eval iter X.env) (fun v s1 => wpAny (model X.prog X.w) X.A (pyIter v) (PIE X pins σ tg R) X.xe s1) X.xe s

/-- the step ahead of the store is nothing for an iterator that keeps no tuple -/
theorem go_of {M : Model} {A : Around} {E : Value → Shared → Prop} {s : Shared} {tg : Expr} {it : Addr} {u : Value} {o : Obj} {n : String} {vs : Array Value} {Q : Unit → Shared → Prop} (ho : s.heap.get? it = some o) (hc : o.cls = .type n) (hd : o.data = .fields vs)
    (hn : ["enumerate", "zip", "dict_itemiterator", "dict_reverseitemiterator", "odict_iterator", "itertools.zip_longest", "itertools.pairwise"].contains n = false) (hQ : Q () s) : wpAny M A (letOwnedTupleGo tg (.ref it) u) Q E s := by
  unfold letOwnedTupleGo
  cases tg <;> first
    | exact wpAny_pure hQ
    | (cases u <;> first
        | exact wpAny_pure hQ
        | (refine wpAny_bind (wpAny_load ho ?_)
           rw [hc, hd]
           show wpAny M A (if (["enumerate", "zip", "dict_itemiterator", "dict_reverseitemiterator", "odict_iterator", "itertools.zip_longest", "itertools.pairwise"].contains n && vs[0]? == some (rawInt _)) = true then _ else _) Q E s
           rw [if_neg (by intro h; rw [hn, Bool.false_and] at h; cases h)]
           exact wpAny_pure hQ))

/-- the list at a, as it stands at each turn (a loop may append to it) -/
def Itl (K : PySem.W.Frag) (a : Addr) : It :=
  ⟨fun i H => ∃ xs x, SqL K H a xs ∧ xs[i]? = some x, fun i H x H' => H' = H ∧ ∀ xs, SqL K H a xs → xs[i]? = some x, fun i H => ∃ xs, SqL K H a xs ∧ xs.length ≤ i⟩
def Itt (K : PySem.W.Frag) (a : Addr) : It :=
  ⟨fun i H => ∃ xs x, SqT K H a xs ∧ xs[i]? = some x, fun i H x H' => H' = H ∧ ∀ xs, SqT K H a xs → xs[i]? = some x, fun i H => ∃ xs, SqT K H a xs ∧ xs.length ≤ i⟩
/-- lo, lo + 1, .. (n of them) -/
def Itr (lo : Int) (n : Nat) : It := ⟨fun i _ => i < n, fun i H x H' => H' = H ∧ x = .int (lo + i), fun i _ => n ≤ i⟩
theorem turn_list {P : Program} {w : World} {K : PySem.W.Frag} {tg : Expr} (a it : Addr) : Turn P w K tg (Itl K a) [it] it (fun i h => h.IsListIter it a i) where
  mem := by simp
  obj := fun i h st b hb => by
    have e : b = it := by simpa using hb
    subst e
    obtain ⟨o, e, c, d⟩ := st
    exact ⟨o, e, fun v z => by rw [d] at z; cases z⟩
  keep := fun i h h' st k => st.at fun o e => k it (by simp) o e
  item := by
    intro X hP hw hK hc i pins s σ H E I hf st hg
    subst hP hw hK
    obtain ⟨xs, x, hq, hx⟩ := hg
    obtain ⟨its, rv, p, hz⟩ := I.list hq
    obtain ⟨u, hu, ru⟩ := rv.get hx
    obtain ⟨f0, f1, f2, f3, f4, f5⟩ := hf it (by simp)
    refine wpAny_pyNext_list_item st p.isList (x := u) (by simpa using hu) fun h' st' sb => ?_
    have I1 : Inv X pins σ H { s with heap := h' } := I.turned (t' := s.toks) (fun b o hb e => (sb.2 b hb).trans e) f0 f1 f3 f4 f5
    obtain ⟨o, e, c, d⟩ := id st'
    exact ⟨u, rfl, go_of (s := { s with heap := h' }) e c d (by decide) ⟨x, H, I1, ru, ⟨rfl, fun ys hy => by rw [I.list_inj hy hq]; exact hx⟩, st', fun b hb => (hf b hb).1⟩⟩
  done := by
    intro X hP hw hK hc i pins s σ H E I hf st hg
    subst hP hw hK
    obtain ⟨xs, hq, hx⟩ := hg
    obtain ⟨its, rv, p, hz⟩ := I.list hq
    obtain ⟨f0, f1, f2, f3, f4, f5⟩ := hf it (by simp)
    have hl := rv.length
    exact wpAny_pyNext_list_end (I.ok.hd hc) st p.isList (by simp; omega) fun h' eb => ⟨rfl, I.turned (t' := s.toks) (fun b o hb e => eb b o hb e) f0 f1 f3 f4 f5⟩
  self := fun _ _ _ _ _ st h => wpAny_pyIter_listiter st h
theorem turn_tuple {P : Program} {w : World} {K : PySem.W.Frag} {tg : Expr} (a it : Addr) : Turn P w K tg (Itt K a) [it] it (fun i h => h.IsTupleIter it a i) where
  mem := by simp
  obj := fun i h st b hb => by
    have e : b = it := by simpa using hb
    subst e
    obtain ⟨o, e, c, d⟩ := st
    exact ⟨o, e, fun v z => by rw [d] at z; cases z⟩
  keep := fun i h h' st k => st.at fun o e => k it (by simp) o e
  item := by
    intro X hP hw hK hc i pins s σ H E I hf st hg
    subst hP hw hK
    obtain ⟨xs, x, hq, hx⟩ := hg
    obtain ⟨its, rv, p, hz⟩ := I.tuple hq
    obtain ⟨u, hu, ru⟩ := rv.get hx
    obtain ⟨f0, f1, f2, f3, f4, f5⟩ := hf it (by simp)
    refine wpAny_pyNext_tuple_item st (show s.heap.IsTuple a its.toArray from p) (x := u) (by simpa using hu) fun h' st' sb => ?_
    have I1 : Inv X pins σ H { s with heap := h' } := I.turned (t' := s.toks) (fun b o hb e => (sb.2 b hb).trans e) f0 f1 f3 f4 f5
    obtain ⟨o, e, c, d⟩ := id st'
    exact ⟨u, rfl, go_of (s := { s with heap := h' }) e c d (by decide) ⟨x, H, I1, ru, ⟨rfl, fun ys hy => by rw [I.tuple_inj hy hq]; exact hx⟩, st', fun b hb => (hf b hb).1⟩⟩
  done := by
    intro X hP hw hK hc i pins s σ H E I hf st hg
    subst hP hw hK
    obtain ⟨xs, hq, hx⟩ := hg
    obtain ⟨its, rv, p, hz⟩ := I.tuple hq
    obtain ⟨f0, f1, f2, f3, f4, f5⟩ := hf it (by simp)
    have hl := rv.length
    exact wpAny_pyNext_tuple_end (I.ok.hd hc) st (show s.heap.IsTuple a its.toArray from p) (by simp; omega) fun h' eb => ⟨rfl, I.turned (t' := s.toks) (fun b o hb e => eb b o hb e) f0 f1 f3 f4 f5⟩
  self := fun _ _ _ _ _ st h => wpAny_pyIter_tupleiter st h
theorem turn_range {P : Program} {w : World} {K : PySem.W.Frag} {tg : Expr} (it : Addr) (lo : Int) (n : Nat) : Turn P w K tg (Itr lo n) [it] it (fun i h => IsRangeIter h it (lo + (i : Nat) * 1) ((n : Int) - (i : Nat)) 1) where
  mem := by simp
  obj := fun i h st b hb => by
    have e : b = it := by simpa using hb
    subst e
    exact ⟨_, st, fun v z => by
      have z' : Data.fields _ = Data.cell v := z
      cases z'⟩
  keep := fun i h h' st k => k it (by simp) _ st
  item := by
    intro X hP hw hK hc i pins s σ H E I hf st hg
    subst hP hw hK
    obtain ⟨f0, f1, f2, f3, f4, f5⟩ := hf it (by simp)
    have W := Walks.range (prog := X.prog) (w := X.w) (I.ok.hd hc) it lo 1 n
    refine W.item i s _ _ hg st fun v h' tk hv st' kk => ?_
    obtain ⟨t, rfl⟩ := hv
    have I1 : Inv X pins σ H { s with heap := h', toks := tk } := I.turned (fun b o hb e => kk b o (by simpa using hb) e) f0 f1 f3 f4 f5
    refine ⟨_, rfl, go_of (s := { s with heap := h', toks := tk }) (n := "range_iterator") st' rfl rfl (by decide) ⟨.int (lo + i), H, I1, ⟨t, ?_⟩, ⟨rfl, rfl⟩, st', fun b hb => (hf b hb).1⟩⟩
    rw [Int.mul_one]
  done := by
    intro X hP hw hK hc i pins s σ H E I hf st hg
    subst hP hw hK
    obtain ⟨f0, f1, f2, f3, f4, f5⟩ := hf it (by simp)
    exact wpAny_pyNext_range_end (I.ok.hd hc) st (by have : n ≤ i := hg; omega) fun h' eb => ⟨rfl, I.turned (t' := s.toks) (fun b o hb e => eb b o hb e) f0 f1 f3 f4 f5⟩
  self := fun _ _ _ _ _ st h => wpAny_pyIter_rangeiter st h
end L2

namespace L2
open PySem PySem.Spec PyProof.Rows
section
variable {X : Cx} {tg : Expr}
def iList (K : PySem.W.Frag) (tl : TE) : TI := fun σ H R => tl σ H fun x H1 => ∃ a, x = .ref a ∧ (∃ xs, SqL K H1 a xs) ∧ R (Itl K a) H1
def iTup (K : PySem.W.Frag) (tl : TE) : TI := fun σ H R => tl σ H fun x H1 => ∃ a, x = .ref a ∧ (∃ xs, SqT K H1 a xs) ∧ R (Itt K a) H1
theorem pi_list {l : Expr} {tl : TE} (hl : PE X l tl) : PI X tg l (iList X.K tl) := by
  intro pins s σ H R I h
  refine thn (hl pins s σ H _ I h) fun v s1 ⟨x, H1, I1, r1, q1⟩ => ?_
  obtain ⟨a, e, ⟨xs, hq⟩, q⟩ := q1
  subst e
  cases r1
  obtain ⟨its, rv, p, hz⟩ := I1.list hq
  refine wpAny_pyIter_list p.isList ?_
  refine ⟨s1.heap.objs.size, [s1.heap.objs.size], _, _, H1, rfl, I1.kept (t' := s1.toks) fun b o e => Heap.get?_push_of_some _ e, turn_list a _, ⟨_, Heap.get?_push_size _ rfl, rfl, rfl⟩, fun b hb => ?_, q⟩
  have e : b = s1.heap.objs.size := by simpa using hb
  subst e
  exact I1.fpOk (Nat.le_refl _) (I1.hok.fresh (Nat.le_refl _))
theorem pi_tup {l : Expr} {tl : TE} (hl : PE X l tl) : PI X tg l (iTup X.K tl) := by
  intro pins s σ H R I h
  refine thn (hl pins s σ H _ I h) fun v s1 ⟨x, H1, I1, r1, q1⟩ => ?_
  obtain ⟨a, e, ⟨xs, hq⟩, q⟩ := q1
  subst e
  cases r1
  obtain ⟨its, rv, p, hz⟩ := I1.tuple hq
  refine wpAny_pyIter_tuple (show s1.heap.IsTuple a its.toArray from p) ?_
  refine ⟨s1.heap.objs.size, [s1.heap.objs.size], _, _, H1, rfl, I1.kept (t' := s1.toks) fun b o e => Heap.get?_push_of_some _ e, turn_tuple a _, ⟨_, Heap.get?_push_size _ rfl, rfl, rfl⟩, fun b hb => ?_, q⟩
  have e : b = s1.heap.objs.size := by simpa using hb
  subst e
  exact I1.fpOk (Nat.le_refl _) (I1.hok.fresh (Nat.le_refl _))
/-- a range object just made, walked -/
theorem range_it {pins : List (Addr × Obj)} {σ : St} {H : Hp} {s : Shared} {R : It → Hp → Prop} {E : Value → Shared → Prop} {lo hi : Int} {t u v : Tok} {tk : Nat} (I : Inv X pins σ H s) (h1 : -(2 ^ 62) ≤ lo) (h2 : lo < 2 ^ 62) (h3 : -(2 ^ 62) ≤ hi) (h4 : hi < 2 ^ 62)
    (q : R (Itr lo (hi - lo).toNat) H) : wpAny (model X.prog X.w) X.A (pyIter (.ref s.heap.objs.size)) (PIE X pins σ tg R) E { s with heap := s.heap.push { cls := .type "range", data := .fields #[.int lo t, .int hi u, .int 1 v] }, toks := tk } := by
  refine wpAny_pyIter_range (IsRange.new ..) (small_one h1 h2 h3 h4) ?_
  have I1 : Inv X pins σ H { s with heap := s.heap.push { cls := .type "range", data := .fields #[.int lo t, .int hi u, .int 1 v] }, toks := tk } := I.kept fun b o e => Heap.get?_push_of_some _ e
  refine ⟨(s.heap.push { cls := .type "range", data := .fields #[.int lo t, .int hi u, .int 1 v] }).objs.size, [(s.heap.push { cls := .type "range", data := .fields #[.int lo t, .int hi u, .int 1 v] }).objs.size], _, _, H, rfl,
    I1.kept (t' := tk) fun b o e => Heap.get?_push_of_some _ e, turn_range _ lo (hi - lo).toNat, ?_, fun b hb => ?_, q⟩
  · have e1 : lo + ((0 : Nat) : Int) * 1 = lo := by simp
    have e2 : (((hi - lo).toNat : Nat) : Int) - ((0 : Nat) : Int) = Builtin.Range.rangeSize lo hi 1 := by rw [rangeSize_one]; split <;> omega
    show IsRangeIter _ _ (lo + ((0 : Nat) : Int) * 1) ((((hi - lo).toNat : Nat) : Int) - ((0 : Nat) : Int)) 1
    rw [e1, e2]
    exact Heap.get?_push_size _ rfl
  · have e : b = (s.heap.push { cls := .type "range", data := .fields #[.int lo t, .int hi u, .int 1 v] }).objs.size := by simpa using hb
    subst e
    exact I1.fpOk (Nat.le_refl _) (I1.hok.fresh (Nat.le_refl _))
def iRng1 (ta : TA) : TI := fun σ H R => ta σ H fun vs H1 => ∃ j : Int, vs = [.int j] ∧ -(2 ^ 62) ≤ j ∧ j < 2 ^ 62 ∧ R (Itr 0 j.toNat) H1
def iRng2 (ta : TA) : TI := fun σ H R => ta σ H fun vs H1 => ∃ i j : Int, vs = [.int i, .int j] ∧ (-(2 ^ 62) ≤ i ∧ i < 2 ^ 62 ∧ -(2 ^ 62) ≤ j ∧ j < 2 ^ 62) ∧ R (Itr i (j - i).toNat) H1
theorem pi_range1 {a : Expr} {ta : TA} {p pos : Pos} (hg : Gl X "range") (hm : X.mg "range" = none) (ha : PA X [a] ta) (hs : starEach [a] X.env = [(false, eval a X.env)] := by rfl) : PI X tg (.Call (.Name "range" p) [a] [] pos) (iRng1 ta) := by
  intro pins s σ H R I h
  refine Call_ (ld_blt I hg hm boot_range (PyProof.Rows.callWith_type1 (thn (ha pos pins s σ H _ I h) fun us s1 ⟨vs, H1, I1, r1, q1⟩ => ?_) hs rfl))
  obtain ⟨j, e, q1, q2, q⟩ := q1
  subst e
  cases r1 with
  | cons r rr =>
    cases rr
    obtain ⟨t, rfl⟩ := r
    exact call_range_1 (range_it I1 (by omega) (by omega) q1 q2 (by simpa using q))
theorem pi_range2 {a b : Expr} {ta : TA} {p pos : Pos} (hg : Gl X "range") (hm : X.mg "range" = none) (ha : PA X [a, b] ta) (hs : starEach [a, b] X.env = [(false, eval a X.env), (false, eval b X.env)] := by rfl) (hs2 : starEach [b] X.env = [(false, eval b X.env)] := by rfl) :
    PI X tg (.Call (.Name "range" p) [a, b] [] pos) (iRng2 ta) := by
  intro pins s σ H R I h
  refine Call_ (ld_blt I hg hm boot_range (PyProof.Rows.callWith_type1 (thn (ha pos pins s σ H _ I h) fun us s1 ⟨vs, H1, I1, r1, q1⟩ => ?_) (by rw [hs, hs2]) (by rw [hs2]; rfl)))
  obtain ⟨i, j, e, ⟨q1, q2, q3, q4⟩, q⟩ := q1
  subst e
  cases r1 with
  | cons r rr =>
    cases rr with
    | cons r' rr =>
      cases rr
      obtain ⟨t, rfl⟩ := r
      obtain ⟨t', rfl⟩ := r'
      exact call_range_2 (range_it I1 q1 q2 q3 q4 q)

/-! ### for -/
/-- W: the invariant by the turn and a measure; N: what the body is to reach -/
def tFor (wi : TI) (g : TG) (tb : TS) : TS := fun D σ H => wi σ H fun J H1 => ∃ W : Nat → Nat → St → Hp → Prop, (∃ m, W 0 m σ H1) ∧ ∀ i m σ H, W i m σ H →
  (J.stop i H ∧ D.nx σ H) ∨ (J.go i H ∧ ∃ N : St → Hp → Prop, (∀ σ' H', N σ' H' → ∃ m', m' < m ∧ W (i + 1) m' σ' H') ∧ ∀ x H', J.yld i H x H' → g x σ H' fun σ2 H2 => tb { D with nx := N, ct := N, bk := D.nx } σ2 H2)
/-- the records at fp as they stand -/
def pinsAt (fp : List Addr) (h : Heap) : List (Addr × Obj) := fp.filterMap fun b => (h.get? b).map fun o => (b, o)
theorem mem_pinsAt {fp : List Addr} {h : Heap} {b : Addr} {o : Obj} (hb : b ∈ fp) (e : h.get? b = some o) : (b, o) ∈ pinsAt fp h := List.mem_filterMap.mpr ⟨b, hb, by rw [e]; rfl⟩
theorem of_pinsAt {fp : List Addr} {h : Heap} {p : Addr × Obj} (hp : p ∈ pinsAt fp h) : p.1 ∈ fp ∧ h.get? p.1 = some p.2 := by
  obtain ⟨b, hb, e⟩ := List.mem_filterMap.mp hp
  cases q : h.get? b with
  | none => rw [q] at e; cases e
  | some o =>
    rw [q] at e
    have e' : (b, o) = p := Option.some.inj e
    subst e'
    exact ⟨hb, q⟩
theorem Inv.pinned {pins : List (Addr × Obj)} {σ : St} {H : Hp} {s : Shared} {fp : List Addr} (I : Inv X pins σ H s) (hf : ∀ b ∈ fp, FpOk X pins H b) (ho : ∀ b ∈ fp, ∃ o, s.heap.get? b = some o ∧ ∀ v, o.data ≠ .cell v) : Inv X (pins ++ pinsAt fp s.heap) σ H s :=
  I.pins_of fun p hp => (List.mem_append.mp hp).elim (fun z => I.pin p (List.mem_append_right _ z)) fun z => by
    obtain ⟨hb, e⟩ := of_pinsAt z
    obtain ⟨f0, f1, f2, _⟩ := hf p.1 hb
    obtain ⟨o, e', d⟩ := ho p.1 hb
    rw [e] at e'; cases e'
    exact ⟨e, f0, f1, f2, d⟩
theorem Inv.unpinned {pins pl : List (Addr × Obj)} {σ : St} {H : Hp} {s : Shared} (I : Inv X (pins ++ pl) σ H s) : Inv X pins σ H s := I.pins_of fun p hp => I.pin p (List.mem_append_right _ (List.mem_append_left _ hp))
theorem ps_for {iter : Expr} {body : List Stmt} {wi : TI} {g : TG} {tb : TS} {pos : Pos} (hp : PassesOwn (model X.prog X.w) X.A X.env X.xe) (hc : X.calm = true) (hi : PI X tg iter wi) (hg : PG X tg g) (hb : PSs X body tb)
    (hs : ∀ x, foldedSetIterable iter X.env x = pure x := by intro _; rfl) : PS X (.For tg iter body [] pos) (tFor wi g tb) := by
  intro pins s σ H D I h
  refine wpAny_For (thn (hi pins s σ H _ I h) fun v s1 h1 => thn h1 fun itv s2 h2 => ?_) hs
  obtain ⟨it, fp, tn, J, H2, e, I2, T, st2, f2, W, ⟨m0, w0⟩, turn⟩ := h2
  subst e
  -- what stays true of the iterator's objects through the loop
  have stat : ∀ {H' : Hp}, (∀ b ∈ fp, H' b = none) → ∀ b ∈ fp, FpOk X pins H' b := fun hn b hb => ⟨hn b hb, (f2 b hb).2⟩
  refine codeAny_forLoop_any (fun n s' => ∃ i σ' H', Inv X pins σ' H' s' ∧ tn i s'.heap ∧ (∀ b ∈ fp, H' b = none) ∧ W i n σ' H') ?_ m0 ⟨0, σ, H2, I2, st2, fun b hb => (f2 b hb).1, w0⟩
  rintro n s3 ⟨i, σ3, H3, I3, st3, fr3, w3⟩
  rcases turn i n σ3 H3 w3 with ⟨stop, qn⟩ | ⟨go, N, hN, step⟩
  · refine wpAny_passesOwn hp (thn (T.done X rfl rfl rfl hc i pins s3 σ3 H3 X.xe I3 (stat fr3) st3 stop) fun r s4 ⟨hr, I4⟩ => ?_)
    subst hr
    exact wpAny_execs_nil ⟨σ3, H3, I4, qn⟩
  · refine wpAny_passesOwn hp (thn (T.item X rfl rfl rfl hc i pins s3 σ3 H3 X.xe I3 (stat fr3) st3 go) fun r s4 ⟨u, hr, h4⟩ => ?_)
    subst hr
    refine wpAny_passesOwn hp (thn h4 fun _ s5 ⟨x, H5, I5, r5, y5, st5, fr5⟩ => ?_)
    have I5' := I5.pinned (stat fr5) (T.obj _ _ st5)
    refine wpAny_passesOwn hp (thn (hg _ s5 σ3 H5 x u _ I5' r5 (step x H5 y5)) fun _ s6 ⟨σ6, H6, I6, q6⟩ => ?_)
    refine wpAny_passesOwn hp (thn (hb _ s6 σ6 H6 _ I6 q6) fun f s7 q7 => ?_)
    have again : ∀ {σ7 : St} {H7 : Hp}, Inv X (pins ++ pinsAt fp s5.heap) σ7 H7 s7 → N σ7 H7 → ∃ m, m < n ∧ ∃ i σ' H', Inv X pins σ' H' s7 ∧ tn i s7.heap ∧ (∀ b ∈ fp, H' b = none) ∧ W i m σ' H' := fun {σ7 H7} I7 n7 => by
      obtain ⟨m', hm, w7⟩ := hN σ7 H7 n7
      refine ⟨m', hm, i + 1, σ7, H7, I7.unpinned, T.keep _ _ _ st5 fun b hb o e => (I7.pin (b, o) (List.mem_append_right _ (List.mem_append_right _ (mem_pinsAt hb e)))).1, fun b hb => ?_, w7⟩
      obtain ⟨o, e, d⟩ := T.obj _ _ st5 b hb
      exact (I7.pin (b, o) (List.mem_append_right _ (List.mem_append_right _ (mem_pinsAt hb e)))).2.1
    cases f with
    | next => obtain ⟨σ7, H7, I7, n7⟩ := q7; exact again I7 n7
    | cont => obtain ⟨σ7, H7, I7, n7⟩ := q7; exact again I7 n7
    | brk => obtain ⟨σ7, H7, I7, q7⟩ := q7; exact ⟨σ7, H7, I7.unpinned, q7⟩
    | ret v => obtain ⟨x7, σ7, H7, I7, r7, q7⟩ := q7; exact ⟨x7, σ7, H7, I7.unpinned, r7, q7⟩
end

/-! ### the forms one uses -/
/-- over a list that the body leaves as it is -/
theorem for_list {K : PySem.W.Frag} {a : Addr} {xs : List V} {g : TG} {tb : TS} {D : Ends} {σ : St} {H : Hp} (Pv : Nat → St → Hp → Prop) (h0 : Pv 0 σ H) (hl : ∀ i σ H, i ≤ xs.length → Pv i σ H → SqL K H a xs)
    (hs : ∀ i x σ H, xs[i]? = some x → Pv i σ H → g x σ H fun σ2 H2 => tb { D with nx := Pv (i + 1), ct := Pv (i + 1), bk := D.nx } σ2 H2) (hd : ∀ σ H, Pv xs.length σ H → D.nx σ H) :
    ∃ W : Nat → Nat → St → Hp → Prop, (∃ m, W 0 m σ H) ∧ ∀ i m σ H, W i m σ H →
      ((Itl K a).stop i H ∧ D.nx σ H) ∨ ((Itl K a).go i H ∧ ∃ N : St → Hp → Prop, (∀ σ' H', N σ' H' → ∃ m', m' < m ∧ W (i + 1) m' σ' H') ∧ ∀ x H', (Itl K a).yld i H x H' → g x σ H' fun σ2 H2 => tb { D with nx := N, ct := N, bk := D.nx } σ2 H2) := by
  refine ⟨fun i m σ H => m = xs.length - i ∧ i ≤ xs.length ∧ Pv i σ H, ⟨xs.length, by simp, Nat.zero_le _, h0⟩, ?_⟩
  rintro i m σ H ⟨rfl, hi, p⟩
  have q := hl i σ H hi p
  by_cases hlt : i < xs.length
  · refine .inr ⟨⟨xs, xs[i], q, by simp [hlt]⟩, Pv (i + 1), fun σ' H' p' => ⟨xs.length - (i + 1), by omega, rfl, hlt, p'⟩, fun x H' y => ?_⟩
    obtain ⟨e, y⟩ := y
    subst e
    exact hs i x σ _ (y xs q) p
  · have e : i = xs.length := by omega
    subst e
    exact .inl ⟨⟨xs, q, Nat.le_refl _⟩, hd σ H p⟩
theorem for_tup {K : PySem.W.Frag} {a : Addr} {xs : List V} {g : TG} {tb : TS} {D : Ends} {σ : St} {H : Hp} (Pv : Nat → St → Hp → Prop) (h0 : Pv 0 σ H) (hl : ∀ i σ H, i ≤ xs.length → Pv i σ H → SqT K H a xs)
    (hs : ∀ i x σ H, xs[i]? = some x → Pv i σ H → g x σ H fun σ2 H2 => tb { D with nx := Pv (i + 1), ct := Pv (i + 1), bk := D.nx } σ2 H2) (hd : ∀ σ H, Pv xs.length σ H → D.nx σ H) :
    ∃ W : Nat → Nat → St → Hp → Prop, (∃ m, W 0 m σ H) ∧ ∀ i m σ H, W i m σ H →
      ((Itt K a).stop i H ∧ D.nx σ H) ∨ ((Itt K a).go i H ∧ ∃ N : St → Hp → Prop, (∀ σ' H', N σ' H' → ∃ m', m' < m ∧ W (i + 1) m' σ' H') ∧ ∀ x H', (Itt K a).yld i H x H' → g x σ H' fun σ2 H2 => tb { D with nx := N, ct := N, bk := D.nx } σ2 H2) := by
  refine ⟨fun i m σ H => m = xs.length - i ∧ i ≤ xs.length ∧ Pv i σ H, ⟨xs.length, by simp, Nat.zero_le _, h0⟩, ?_⟩
  rintro i m σ H ⟨rfl, hi, p⟩
  have q := hl i σ H hi p
  by_cases hlt : i < xs.length
  · refine .inr ⟨⟨xs, xs[i], q, by simp [hlt]⟩, Pv (i + 1), fun σ' H' p' => ⟨xs.length - (i + 1), by omega, rfl, hlt, p'⟩, fun x H' y => ?_⟩
    obtain ⟨e, y⟩ := y
    subst e
    exact hs i x σ _ (y xs q) p
  · have e : i = xs.length := by omega
    subst e
    exact .inl ⟨⟨xs, q, Nat.le_refl _⟩, hd σ H p⟩
theorem for_range {lo : Int} {n : Nat} {g : TG} {tb : TS} {D : Ends} {σ : St} {H : Hp} (Pv : Nat → St → Hp → Prop) (h0 : Pv 0 σ H)
    (hs : ∀ i σ H, i < n → Pv i σ H → g (.int (lo + i)) σ H fun σ2 H2 => tb { D with nx := Pv (i + 1), ct := Pv (i + 1), bk := D.nx } σ2 H2) (hd : ∀ σ H, Pv n σ H → D.nx σ H) :
    ∃ W : Nat → Nat → St → Hp → Prop, (∃ m, W 0 m σ H) ∧ ∀ i m σ H, W i m σ H →
      ((Itr lo n).stop i H ∧ D.nx σ H) ∨ ((Itr lo n).go i H ∧ ∃ N : St → Hp → Prop, (∀ σ' H', N σ' H' → ∃ m', m' < m ∧ W (i + 1) m' σ' H') ∧ ∀ x H', (Itr lo n).yld i H x H' → g x σ H' fun σ2 H2 => tb { D with nx := N, ct := N, bk := D.nx } σ2 H2) := by
  refine ⟨fun i m σ H => m = n - i ∧ i ≤ n ∧ Pv i σ H, ⟨n, by simp, Nat.zero_le _, h0⟩, ?_⟩
  rintro i m σ H ⟨rfl, hi, p⟩
  by_cases hlt : i < n
  · refine .inr ⟨hlt, Pv (i + 1), fun σ' H' p' => ⟨n - (i + 1), by omega, rfl, hlt, p'⟩, fun x H' y => ?_⟩
    obtain ⟨e, y⟩ := y
    subst e y
    exact hs i σ _ hlt p
  · have e : i = n := by omega
    subst e
    exact .inl ⟨Nat.le_refl _, hd σ H p⟩
/-- while, by a word and a measure of the state -/
theorem while_by {c : TT} {tb : TS} {D : Ends} {σ : St} {H : Hp} (Pv : St → Hp → Prop) (μ : St → Hp → Nat) (h0 : Pv σ H)
    (hs : ∀ σ H, Pv σ H → c σ H fun b H1 => if b = true then tb { D with nx := fun σ' H' => Pv σ' H' ∧ μ σ' H' < μ σ H, ct := fun σ' H' => Pv σ' H' ∧ μ σ' H' < μ σ H, bk := D.nx } σ H1 else D.nx σ H1)
    (mono : ∀ σ H Q Q', (∀ b H1, Q b H1 → Q' b H1) → c σ H Q → c σ H Q') : tWhile c tb D σ H := by
  refine ⟨fun m σ H => m = μ σ H ∧ Pv σ H, ⟨_, rfl, h0⟩, ?_⟩
  rintro m σ H ⟨rfl, p⟩
  refine mono σ H _ _ (fun b H1 q => ?_) (hs σ H p)
  cases b with
  | true => exact ⟨_, fun σ' H' ⟨p', l⟩ => ⟨_, l, rfl, p'⟩, q⟩
  | false => exact q
end L2

namespace L2
open PySem PySem.Spec PyProof.Rows

abbrev R2 := V → V → Hp → VK → Prop
/-- a two-place operation on values: f is binaryOp op, inplaceOp op or compareOp op -/
def OpR (X : Cx) (f : Value → Value → Sem Value) (r : R2) : Prop :=
  ∀ (pins : List (Addr × Obj)) (s : Shared) (σ : St) (H : Hp) (x y : V) (v u : Value) (Q : VK), Inv X pins σ H s → RelV x v → RelV y u → r x y H Q →
    wpAny (model X.prog X.w) X.A (f v u) (EP X pins σ Q) X.xe s
/-- a one-place operation -/
def UnR (X : Cx) (f : Value → Sem Value) (r : V → Hp → VK → Prop) : Prop :=
  ∀ (pins : List (Addr × Obj)) (s : Shared) (σ : St) (H : Hp) (x : V) (v : Value) (Q : VK), Inv X pins σ H s → RelV x v → r x H Q →
    wpAny (model X.prog X.w) X.A (f v) (EP X pins σ Q) X.xe s
/-- a call of a value that is known (a builtin, a type) with values -/
def CallR (X : Cx) (f : Value) (r : List V → Hp → VK → Prop) : Prop :=
  ∀ (pins : List (Addr × Obj)) (s : Shared) (σ : St) (H : Hp) (xs : List V) (us : List Value) (Q : VK), Inv X pins σ H s → Vals xs us → r xs H Q →
    wpAny (model X.prog X.w) X.A (call f us) (EP X pins σ Q) X.xe s
/-- a value's truth -/
def TruR (X : Cx) (r : V → Hp → (Bool → Hp → Prop) → Prop) : Prop :=
  ∀ (pins : List (Addr × Obj)) (s : Shared) (σ : St) (H : Hp) (x : V) (v : Value) (Q : Bool → Hp → Prop), Inv X pins σ H s → RelV x v → r x H Q →
    wpAny (model X.prog X.w) X.A (truthy v) (TP X pins σ Q) X.xe s

def tOp (r : R2) (ta tb : TE) : TE := fun σ H Q => ta σ H fun x H1 => tb σ H1 fun y H2 => r x y H2 Q
def tUn (r : V → Hp → VK → Prop) (ta : TE) : TE := fun σ H Q => ta σ H fun x H1 => r x H1 Q
/-- ints in, under C, and a value out -/
def rI (C : Int → Int → Prop) (g : Int → Int → V) : R2 := fun x y H Q => ∃ i j, x = .int i ∧ y = .int j ∧ C i j ∧ Q (g i j) H
def rI0 (g : Int → Int → V) : R2 := fun x y H Q => ∃ i j, x = .int i ∧ y = .int j ∧ Q (g i j) H
def rU (g : Int → V) : V → Hp → VK → Prop := fun x H Q => ∃ i, x = .int i ∧ Q (g i) H

section
variable {X : Cx} {a b c : Expr} {ta tb tc : TE} {pos : Pos}

theorem binT (ha : PE X a ta) (hb : PE X b tb) {pins : List (Addr × Obj)} {s : Shared} {σ : St} {H : Hp} {R : V → V → Hp → Prop} (I : Inv X pins σ H s)
    (h : ta σ H fun x H1 => tb σ H1 fun y H2 => R x y H2) {Q : Value → Shared → Prop} {f : Value → Value → Sem Value}
    (hf : ∀ v u s2 x y H2, Inv X pins σ H2 s2 → RelV x v → RelV y u → R x y H2 → wpAny (model X.prog X.w) X.A (f v u) Q X.xe s2) :
    wpAny (model X.prog X.w) X.A (eval a X.env) (fun v s₁ => wpAny (model X.prog X.w) X.A (eval b X.env) (fun u s₂ => wpAny (model X.prog X.w) X.A (f v u) Q X.xe s₂) X.xe s₁) X.xe s := by
  refine thn (ha pins s σ H _ I h) fun v s1 ⟨x, H1, I1, r1, q1⟩ => ?_
  refine thn (hb pins s1 σ H1 _ I1 q1) fun u s2 ⟨y, H2, I2, r2, q2⟩ => ?_
  exact hf v u s2 x y H2 I2 r1 r2 q2

theorem pe_op {op : Operator} {r : R2} (ho : OpR X (binaryOp op) r) (ha : PE X a ta) (hb : PE X b tb) : PE X (.BinOp a op b pos) (tOp r ta tb) := by
  intro pins s σ H Q I h
  exact wpAny_BinOp (binT ha hb I h fun v u s2 x y H2 I2 rx ry q => ho pins s2 σ H2 x y v u Q I2 rx ry q)
theorem pe_un {op : UnaryOp} {r : V → Hp → VK → Prop} (ho : UnR X (unaryOp op) r) (ha : PE X a ta) : PE X (.UnaryOp op a pos) (tUn r ta) := by
  intro pins s σ H Q I h
  exact UnaryOp_ (thn (ha pins s σ H _ I h) fun v s1 ⟨x, H1, I1, r1, q1⟩ => ho pins s1 σ H1 x v Q I1 r1 q1)
/-- a op= e at a name: the name's slot i -/
theorem augR {op : Operator} {r : R2} (ho : OpR X (inplaceOp op) r) {pins : List (Addr × Obj)} {s : Shared} {σ : St} {H : Hp} {x y : V} {v u : Value} {Q : VK} (I : Inv X pins σ H s)
    (rx : RelV x v) (ry : RelV y u) (q : r x y H Q) : wpAny (model X.prog X.w) X.A (inplaceOp op v u) (EP X pins σ Q) X.xe s := ho pins s σ H x y v u Q I rx ry q

/-! ### ints -/
theorem opI {f : Value → Value → Sem Value} {C : Int → Int → Prop} {g : Int → Int → Int}
    (rule : ∀ (i j : Int) (t u : Tok) (s : Shared) (Q : Value → Shared → Prop) (E : Value → Shared → Prop), C i j → Q (.int (g i j) s.toks) { s with toks := s.toks + 1 } → wpAny (model X.prog X.w) X.A (f (.int i t) (.int j u)) Q E s) :
    OpR X f (rI C fun i j => .int (g i j)) := by
  intro pins s σ H x y v u Q I rx ry h
  obtain ⟨i, j, rfl, rfl, hc, q⟩ := h
  obtain ⟨t, rfl⟩ := rx
  obtain ⟨t', rfl⟩ := ry
  exact rule i j t t' s _ _ hc ⟨.int (g i j), H, I.tok _, ⟨_, rfl⟩, q⟩
theorem opI0 {f : Value → Value → Sem Value} {g : Int → Int → Int}
    (rule : ∀ (i j : Int) (t u : Tok) (s : Shared) (Q : Value → Shared → Prop) (E : Value → Shared → Prop), Q (.int (g i j) s.toks) { s with toks := s.toks + 1 } → wpAny (model X.prog X.w) X.A (f (.int i t) (.int j u)) Q E s) :
    OpR X f (rI0 fun i j => .int (g i j)) := by
  intro pins s σ H x y v u Q I rx ry h
  obtain ⟨i, j, rfl, rfl, q⟩ := h
  obtain ⟨t, rfl⟩ := rx
  obtain ⟨t', rfl⟩ := ry
  exact rule i j t t' s _ _ ⟨.int (g i j), H, I.tok _, ⟨_, rfl⟩, q⟩
theorem opB0 {f : Value → Value → Sem Value} {g : Int → Int → Bool}
    (rule : ∀ (i j : Int) (t u : Tok) (s : Shared) (Q : Value → Shared → Prop) (E : Value → Shared → Prop), Q (.bool (g i j)) s → wpAny (model X.prog X.w) X.A (f (.int i t) (.int j u)) Q E s) :
    OpR X f (rI0 fun i j => .bl (g i j)) := by
  intro pins s σ H x y v u Q I rx ry h
  obtain ⟨i, j, rfl, rfl, q⟩ := h
  obtain ⟨t, rfl⟩ := rx
  obtain ⟨t', rfl⟩ := ry
  exact rule i j t t' s _ _ ⟨.bl (g i j), H, I, rfl, q⟩

def CDiv (i j : Int) : Prop := 0 < j ∧ j < 1073741824
def CDivN (i j : Int) : Prop := j ≠ 0 ∧ j.natAbs < 1073741824
def CPow (i j : Int) : Prop := 0 ≤ j ∧ j ≤ 1000000 ∧ i.natAbs < 2 ^ 64
def CMul (i j : Int) : Prop := (-(2 ^ 64) < i ∧ i < 2 ^ 64) ∨ (-(2 ^ 64) < j ∧ j < 2 ^ 64)
theorem CMul.ok {i j : Int} (h : CMul i j) : IntMulOk i j := by
  rcases h with ⟨h1, h2⟩ | ⟨h1, h2⟩
  · exact .of_left (intBits_le_64 h1 h2)
  · exact .of_right (intBits_le_64 h1 h2)
theorem two_pow_nn (k : Nat) : (0 : Int) ≤ 2 ^ k := by
  rw [two_pow_cast]
  exact Int.natCast_nonneg _

theorem op_add : OpR X (binaryOp .Add) (rI0 fun i j => .int (i + j)) := opI0 fun _ _ _ _ _ _ _ q => add_int q
theorem op_sub : OpR X (binaryOp .Sub) (rI0 fun i j => .int (i - j)) := opI0 fun _ _ _ _ _ _ _ q => sub_int q
theorem op_mul : OpR X (binaryOp .Mult) (rI CMul fun i j => .int (i * j)) := opI fun _ _ _ _ _ _ _ hc q => mul_int q hc.ok
/-- // by a positive divisor -/
theorem op_fdiv : OpR X (binaryOp .FloorDiv) (rI CDiv fun i j => .int (i / j)) := opI fun i j _ _ _ _ _ hc q => by
  have h1 : (0 : Int) < j := hc.1
  have h2 : j < 1073741824 := hc.2
  exact floordiv_int (by omega) (by rw [Int.fdiv_eq_ediv_of_nonneg i (by omega)]; exact q) (.inl (PyProof.noPylong_small (by omega)))
theorem op_fdivN : OpR X (binaryOp .FloorDiv) (rI CDivN fun i j => .int (i.fdiv j)) := opI fun _ _ _ _ _ _ _ hc q => floordiv_int hc.1 q (.inl (PyProof.noPylong_small hc.2))
/-- % by a positive divisor of any size -/
theorem op_mod : OpR X (binaryOp .Mod) (rI (fun _ j => 0 < j) fun i j => .int (i % j)) := opI fun i j _ _ _ _ _ hc q => by
  have h1 : (0 : Int) < j := hc
  exact mod_int' (by omega) (by rw [Int.fmod_eq_emod_of_nonneg i (by omega)]; exact q)
theorem op_modN : OpR X (binaryOp .Mod) (rI (fun _ j => j ≠ 0) fun i j => .int (i.fmod j)) := opI fun _ _ _ _ _ _ _ hc q => mod_int' hc q
theorem op_pow : OpR X (binaryOp .Pow) (rI CPow fun i j => .int (i ^ j.toNat)) := opI fun _ _ _ _ _ _ _ hc q => pow_int_small hc.1 hc.2.1 hc.2.2 q
theorem op_shl : OpR X (binaryOp .LShift) (rI CPow fun i j => .int (i * 2 ^ j.toNat)) := opI fun _ _ _ _ _ _ _ hc q => lshift_int_small hc.1 hc.2.1 hc.2.2 q
theorem op_shr : OpR X (binaryOp .RShift) (rI (fun _ j => 0 ≤ j) fun i j => .int (i / 2 ^ j.toNat)) := opI fun i j _ _ _ _ _ hc q =>
  rshift_int hc (by rw [Int.fdiv_eq_ediv_of_nonneg i (two_pow_nn _)]; exact q)
theorem op_and : OpR X (binaryOp .BitAnd) (rI0 fun i j => .int (Builtin.bitAnd i j)) := opI0 fun _ _ _ _ _ _ _ q => and_int q
theorem op_or : OpR X (binaryOp .BitOr) (rI0 fun i j => .int (Builtin.bitOr i j)) := opI0 fun _ _ _ _ _ _ _ q => or_int q
theorem op_xor : OpR X (binaryOp .BitXor) (rI0 fun i j => .int (Builtin.bitXor i j)) := opI0 fun _ _ _ _ _ _ _ q => xor_int q

theorem iop_add : OpR X (inplaceOp .Add) (rI0 fun i j => .int (i + j)) := opI0 fun _ _ _ _ _ _ _ q => iadd_int q
theorem iop_sub : OpR X (inplaceOp .Sub) (rI0 fun i j => .int (i - j)) := opI0 fun _ _ _ _ _ _ _ q => isub_int q
theorem iop_mul : OpR X (inplaceOp .Mult) (rI CMul fun i j => .int (i * j)) := opI fun _ _ _ _ _ _ _ hc q => imul_int q hc.ok
theorem iop_fdiv : OpR X (inplaceOp .FloorDiv) (rI CDiv fun i j => .int (i / j)) := opI fun i j _ _ _ _ _ hc q => by
  have h1 : (0 : Int) < j := hc.1
  have h2 : j < 1073741824 := hc.2
  exact ifloordiv_int (by omega) (by rw [Int.fdiv_eq_ediv_of_nonneg i (by omega)]; exact q) (.inl (PyProof.noPylong_small (by omega)))
theorem iop_mod : OpR X (inplaceOp .Mod) (rI (fun _ j => 0 < j) fun i j => .int (i % j)) := opI fun i j _ _ _ _ _ hc q => by
  have h1 : (0 : Int) < j := hc
  exact imod_int (by omega) (by rw [Int.fmod_eq_emod_of_nonneg i (by omega)]; exact q)
theorem iop_shl : OpR X (inplaceOp .LShift) (rI CPow fun i j => .int (i * 2 ^ j.toNat)) := opI fun _ _ _ _ _ _ _ hc q => ilshift_int_small hc.1 hc.2.1 hc.2.2 q
theorem iop_shr : OpR X (inplaceOp .RShift) (rI (fun _ j => 0 ≤ j) fun i j => .int (i / 2 ^ j.toNat)) := opI fun i j _ _ _ _ _ hc q =>
  irshift_int hc (by rw [Int.fdiv_eq_ediv_of_nonneg i (two_pow_nn _)]; exact q)
theorem iop_and : OpR X (inplaceOp .BitAnd) (rI0 fun i j => .int (Builtin.bitAnd i j)) := opI0 fun _ _ _ _ _ _ _ q => iand_int q
theorem iop_or : OpR X (inplaceOp .BitOr) (rI0 fun i j => .int (Builtin.bitOr i j)) := opI0 fun _ _ _ _ _ _ _ q => ior_int q
theorem iop_xor : OpR X (inplaceOp .BitXor) (rI0 fun i j => .int (Builtin.bitXor i j)) := opI0 fun _ _ _ _ _ _ _ q => ixor_int q

theorem unI {f : Value → Sem Value} {g : Int → Int}
    (rule : ∀ (i : Int) (t : Tok) (s : Shared) (Q : Value → Shared → Prop) (E : Value → Shared → Prop), Q (.int (g i) s.toks) { s with toks := s.toks + 1 } → wpAny (model X.prog X.w) X.A (f (.int i t)) Q E s) :
    UnR X f (rU fun i => .int (g i)) := by
  intro pins s σ H x v Q I rx h
  obtain ⟨i, rfl, q⟩ := h
  obtain ⟨t, rfl⟩ := rx
  exact rule i t s _ _ ⟨.int (g i), H, I.tok _, ⟨_, rfl⟩, q⟩
theorem un_neg : UnR X (unaryOp .USub) (rU fun i => .int (-i)) := unI fun _ _ _ _ _ q => neg_int q
theorem un_inv : UnR X (unaryOp .Invert) (rU fun i => .int (Builtin.bitNot i)) := unI fun _ _ _ _ _ q => invert_int q

/-! ### bools among ints: n += (a < b) -/
theorem op_add_ib : OpR X (binaryOp .Add) (fun x y H Q => ∃ i k, x = .int i ∧ y = .bl k ∧ Q (.int (i + b2i k)) H) := by
  intro pins s σ H x y v u Q I rx ry h
  obtain ⟨i, k, rfl, rfl, q⟩ := h
  obtain ⟨t, rfl⟩ := rx
  cases ry
  exact add_int_bool ⟨.int (i + b2i k), H, I.tok _, ⟨_, rfl⟩, q⟩
end

/-! ### comparisons -/
/-- the scalars that == tells apart as data does -/
def scal : V → V → Bool
  | .non, .non => true | .non, .int _ => true | .int _, .non => true | .non, .bl _ => true | .bl _, .non => true | .non, .str _ => true | .str _, .non => true
  | .int _, .int _ => true | .bl _, .bl _ => true | .str _, .str _ => true | .byt _, .byt _ => true
  | .int _, .str _ => true | .str _, .int _ => true | .bl _, .str _ => true | .str _, .bl _ => true
  | _, _ => false
def rEq : R2 := fun x y H Q => scal x y = true ∧ Q (.bl (decide (x = y))) H
def rNe : R2 := fun x y H Q => scal x y = true ∧ Q (.bl (!decide (x = y))) H

theorem dec_int {i j : Int} : decide (V.int i = V.int j) = (i == j) := by
  rw [Bool.eq_iff_iff]
  simp
theorem dec_bl {i j : Bool} : decide (V.bl i = V.bl j) = (i == j) := by
  rw [Bool.eq_iff_iff]
  simp
theorem dec_str {i j : Str} : decide (V.str i = V.str j) = (i == j) := by
  rw [Bool.eq_iff_iff]
  simp
theorem dec_byt {i j : Array UInt8} : decide (V.byt i = V.byt j) = (i.toList == j.toList) := by
  rw [Bool.eq_iff_iff]
  cases i
  cases j
  simp

section
variable {X : Cx} {a b c : Expr} {ta tb tc : TE} {pos : Pos}
theorem fin_bl {pins : List (Addr × Obj)} {σ : St} {H : Hp} {s : Shared} {Q : VK} {k k' : Bool} (I : Inv X pins σ H s) (q : Q (.bl k) H) (e : k = k') : EP X pins σ Q (.bool k') s := by
  subst e
  exact ⟨.bl k, H, I, rfl, q⟩
theorem op_eq : OpR X (compareOp .Eq) rEq := by
  intro pins s σ H x y v u Q I rx ry h
  obtain ⟨hs, q⟩ := h
  cases x with
  | non =>
    cases rx
    cases y with
    | non => cases ry; exact PySem.EqNone.eq_none_none (fin_bl I q (by simp))
    | bl j => cases ry; exact PySem.EqNone.eq_none_bool (fin_bl I q (by simp))
    | int j => obtain ⟨t', rfl⟩ := ry; exact PySem.EqNone.eq_none_int (fin_bl I q (by simp))
    | str j => obtain ⟨t', rfl⟩ := ry; exact PySem.EqNone.eq_none_str (fin_bl I q (by simp))
    | _ => exact absurd (show false = true from hs) Bool.false_ne_true
  | bl i =>
    cases rx
    cases y with
    | non => cases ry; exact PySem.EqNone.eq_bool_none (fin_bl I q (by simp))
    | bl j => cases ry; exact eq_bool (fin_bl I q dec_bl)
    | str j => obtain ⟨t', rfl⟩ := ry; exact PySem.EqMixed.eq_bool_str (fin_bl I q (by simp))
    | _ => exact absurd (show false = true from hs) Bool.false_ne_true
  | int i =>
    obtain ⟨t, rfl⟩ := rx
    cases y with
    | non => cases ry; exact PySem.EqNone.eq_int_none (fin_bl I q (by simp))
    | int j => obtain ⟨t', rfl⟩ := ry; exact eq_int (fin_bl I q dec_int)
    | str j => obtain ⟨t', rfl⟩ := ry; exact PySem.EqMixed.eq_int_str (fin_bl I q (by simp))
    | _ => exact absurd (show false = true from hs) Bool.false_ne_true
  | str i =>
    obtain ⟨t, rfl⟩ := rx
    cases y with
    | non => cases ry; exact PySem.EqNone.eq_str_none (fin_bl I q (by simp))
    | bl j => cases ry; exact PySem.EqMixed.eq_str_bool (fin_bl I q (by simp))
    | int j => obtain ⟨t', rfl⟩ := ry; exact PySem.EqMixed.eq_str_int (fin_bl I q (by simp))
    | str j => obtain ⟨t', rfl⟩ := ry; exact eq_str (fin_bl I q dec_str)
    | _ => exact absurd (show false = true from hs) Bool.false_ne_true
  | byt i =>
    obtain ⟨t, rfl⟩ := rx
    cases y with
    | byt j => obtain ⟨t', rfl⟩ := ry; exact PySem.W.eq_bytes (fin_bl I q dec_byt)
    | _ => exact absurd (show false = true from hs) Bool.false_ne_true
  | _ => cases y <;> exact absurd (show false = true from hs) Bool.false_ne_true
theorem op_ne : OpR X (compareOp .NotEq) rNe := by
  intro pins s σ H x y v u Q I rx ry h
  obtain ⟨hs, q⟩ := h
  cases x with
  | non =>
    cases rx
    cases y with
    | non => cases ry; exact PySem.EqNone.ne_none_none (fin_bl I q (by simp))
    | bl j => cases ry; exact PySem.EqNone.ne_none_bool (fin_bl I q (by simp))
    | int j => obtain ⟨t', rfl⟩ := ry; exact PySem.EqNone.ne_none_int (fin_bl I q (by simp))
    | str j => obtain ⟨t', rfl⟩ := ry; exact PySem.EqNone.ne_none_str (fin_bl I q (by simp))
    | _ => exact absurd (show false = true from hs) Bool.false_ne_true
  | bl i =>
    cases rx
    cases y with
    | non => cases ry; exact PySem.EqNone.ne_bool_none (fin_bl I q (by simp))
    | bl j => cases ry; exact ne_bool (fin_bl I q (congrArg not dec_bl))
    | str j => obtain ⟨t', rfl⟩ := ry; exact PySem.EqMixed.ne_bool_str (fin_bl I q (by simp))
    | _ => exact absurd (show false = true from hs) Bool.false_ne_true
  | int i =>
    obtain ⟨t, rfl⟩ := rx
    cases y with
    | non => cases ry; exact PySem.EqNone.ne_int_none (fin_bl I q (by simp))
    | int j => obtain ⟨t', rfl⟩ := ry; exact ne_int (fin_bl I q (congrArg not dec_int))
    | str j => obtain ⟨t', rfl⟩ := ry; exact PySem.EqMixed.ne_int_str (fin_bl I q (by simp))
    | _ => exact absurd (show false = true from hs) Bool.false_ne_true
  | str i =>
    obtain ⟨t, rfl⟩ := rx
    cases y with
    | non => cases ry; exact PySem.EqNone.ne_str_none (fin_bl I q (by simp))
    | bl j => cases ry; exact PySem.EqMixed.ne_str_bool (fin_bl I q (by simp))
    | int j => obtain ⟨t', rfl⟩ := ry; exact PySem.EqMixed.ne_str_int (fin_bl I q (by simp))
    | str j => obtain ⟨t', rfl⟩ := ry; exact ne_str (fin_bl I q (congrArg not dec_str))
    | _ => exact absurd (show false = true from hs) Bool.false_ne_true
  | byt i =>
    obtain ⟨t, rfl⟩ := rx
    cases y with
    | byt j => obtain ⟨t', rfl⟩ := ry; exact PySem.W.ne_bytes (fin_bl I q (congrArg not dec_byt))
    | _ => exact absurd (show false = true from hs) Bool.false_ne_true
  | _ => cases y <;> exact absurd (show false = true from hs) Bool.false_ne_true

theorem op_lt : OpR X (compareOp .Lt) (rI0 fun i j => .bl (decide (i < j))) := opB0 fun _ _ _ _ _ _ _ q => lt_int q
theorem op_le : OpR X (compareOp .LtE) (rI0 fun i j => .bl (decide (i ≤ j))) := opB0 fun _ _ _ _ _ _ _ q => le_int q
theorem op_gt : OpR X (compareOp .Gt) (rI0 fun i j => .bl (decide (j < i))) := opB0 fun _ _ _ _ _ _ _ q => gt_int q
theorem op_ge : OpR X (compareOp .GtE) (rI0 fun i j => .bl (decide (j ≤ i))) := opB0 fun _ _ _ _ _ _ _ q => ge_int q
theorem op_lt_str : OpR X (compareOp .Lt) (fun x y H Q => ∃ i j, x = .str i ∧ y = .str j ∧ Q (.bl (decide (i.cps.toList < j.cps.toList))) H) := by
  intro pins s σ H x y v u Q I rx ry h
  obtain ⟨i, j, rfl, rfl, q⟩ := h
  obtain ⟨t, rfl⟩ := rx
  obtain ⟨t', rfl⟩ := ry
  exact lt_str (fin_bl I q rfl)
/-- the one string within the other -/
theorem op_in_str : OpR X (compareOp .In) (fun x y H Q => ∃ i j, x = .str i ∧ y = .str j ∧ Q (.bl (!(Builtin.Str.occurrences j i 0 j.length 1).isEmpty)) H) := by
  intro pins s σ H x y v u Q I rx ry h
  obtain ⟨i, j, rfl, rfl, q⟩ := h
  obtain ⟨t, rfl⟩ := rx
  obtain ⟨t', rfl⟩ := ry
  exact in_str (fin_bl I q rfl)

/-- is None, is not None: the right side a value none -/
theorem op_isN : OpR X (compareOp .Is) (fun x y H Q => y = .non ∧ Q (.bl (decide (x = .non))) H) := by
  intro pins s σ H x y v u Q I rx ry h
  obtain ⟨rfl, q⟩ := h
  cases ry
  refine is_none_gen (fin_bl I q ?_)
  cases x <;> first
    | (cases rx; rfl)
    | (obtain ⟨t, rfl⟩ := rx; rfl)
theorem op_notN : OpR X (compareOp .IsNot) (fun x y H Q => y = .non ∧ Q (.bl (!decide (x = .non))) H) := by
  intro pins s σ H x y v u Q I rx ry h
  obtain ⟨rfl, q⟩ := h
  cases ry
  refine isnot_none_gen (fin_bl I q ?_)
  cases x <;> first
    | (cases rx; rfl)
    | (obtain ⟨t, rfl⟩ := rx; rfl)

theorem op_notin_str : OpR X (compareOp .NotIn) (fun x y H Q => ∃ i j, x = .str i ∧ y = .str j ∧ Q (.bl (!(!(Builtin.Str.occurrences j i 0 j.length 1).isEmpty))) H) := by
  intro pins s σ H x y v u Q I rx ry h
  obtain ⟨i, j, rfl, rfl, q⟩ := h
  obtain ⟨t, rfl⟩ := rx
  obtain ⟨t', rfl⟩ := ry
  exact notIn_str (fin_bl I q rfl)
/-- is, is not of two objects that are tracked lists or instances -/
def isObj : HO → Bool
  | .lst _ => true
  | .ins _ _ _ => true
  | _ => false
theorem obj_there {pins : List (Addr × Obj)} {s : Shared} {σ : St} {H : Hp} {a : Addr} {o : HO} (I : Inv X pins σ H s) (h : H a = some o) (p : isObj o = true) : ∃ ob, s.heap.get? a = some ob ∧ ob.cls ≠ .type "tuple" := by
  cases o with
  | lst xs =>
    obtain ⟨_, its, n, _, e⟩ : xs.length ≤ sizeLine ∧ ∃ (its : List Value) (n : Nat), Vals xs its ∧ s.heap.get? a = some { cls := .type "list", data := .seq its.toArray n } := I.hok a _ h
    exact ⟨_, e, (by show Value.type "list" ≠ .type "tuple"; decide +kernel)⟩
  | ins C dx fs =>
    have x := I.hok a _ h
    obtain ⟨_, _, _, e, _⟩ := x
    exact ⟨_, e, (by show Value.ref C ≠ .type "tuple"; exact fun z => by cases z)⟩
  | _ => exact absurd (show false = true from p) Bool.false_ne_true
theorem op_is_ref : OpR X (compareOp .Is) (fun x y H Q => ∃ a b oa ob, x = .ref a ∧ y = .ref b ∧ H a = some oa ∧ isObj oa = true ∧ H b = some ob ∧ isObj ob = true ∧ Q (.bl (decide (a = b))) H) := by
  intro pins s σ H x y v u Q I rx ry h
  obtain ⟨a, b, oa, ob, rfl, rfl, ha, pa, hb, pb, q⟩ := h
  cases rx
  cases ry
  obtain ⟨o1, e1, n1⟩ := obj_there I ha pa
  obtain ⟨o2, e2, _⟩ := obj_there I hb pb
  by_cases z : a = b
  · subst z
    exact wpAny_is_ref_self (fin_bl I q (by simp))
  · exact wpAny_is_ref_other z e1 e2 n1 (fin_bl I q (by simp [z]))
theorem op_isnot_ref : OpR X (compareOp .IsNot) (fun x y H Q => ∃ a b oa ob, x = .ref a ∧ y = .ref b ∧ H a = some oa ∧ isObj oa = true ∧ H b = some ob ∧ isObj ob = true ∧ Q (.bl (!decide (a = b))) H) := by
  intro pins s σ H x y v u Q I rx ry h
  obtain ⟨a, b, oa, ob, rfl, rfl, ha, pa, hb, pb, q⟩ := h
  cases rx
  cases ry
  obtain ⟨o1, e1, n1⟩ := obj_there I ha pa
  obtain ⟨o2, e2, _⟩ := obj_there I hb pb
  by_cases z : a = b
  · subst z
    exact wpAny_isNot_ref_self (fin_bl I q (by simp))
  · exact wpAny_isNot_ref_other z e1 e2 n1 (fin_bl I q (by simp [z]))

/-- two rules for one operation: by cases -/
theorem OpR.or {f : Value → Value → Sem Value} {r r' : R2} (h : OpR X f r) (h' : OpR X f r') : OpR X f (fun x y H Q => r x y H Q ∨ r' x y H Q) := by
  intro pins s σ H x y v u Q I rx ry q
  rcases q with q | q
  · exact h pins s σ H x y v u Q I rx ry q
  · exact h' pins s σ H x y v u Q I rx ry q

theorem nomark (b : Expr) {op : CmpOp} (h : op ≠ .In := by decide) (h2 : op ≠ .NotIn := by decide) : behindInMarks op b = false := by
  have e1 : (op == CmpOp.In) = false := by cases op <;> first | rfl | exact absurd rfl h
  have e2 : (op == CmpOp.NotIn) = false := by cases op <;> first | rfl | exact absurd rfl h2
  cases b <;> simp [behindInMarks, e1, e2]
/-- a comparison as a value; hm: nomark b, or (for in, not in) by with_unfolding_all rfl -/
theorem pe_cmpR {op : CmpOp} {r : R2} (ho : OpR X (compareOp op) r) (ha : PE X a ta) (hb : PE X b tb) (hm : behindInMarks op b = false) : PE X (.Compare a [op] [b] pos) (tOp r ta tb) := by
  intro pins s σ H Q I h
  exact wpAny_Compare1 (binT ha hb I h fun v u s2 x y H2 I2 rx ry q => ho pins s2 σ H2 x y v u Q I2 rx ry q) hm
/-- a reading of a value as a test -/
def tTest (t : TE) : TT := fun σ H Q => t σ H fun x H' => ∃ k, x = .bl k ∧ Q k H'
theorem pt_cmpR {op : CmpOp} {r : R2} (ho : OpR X (compareOp op) r) (ha : PE X a ta) (hb : PE X b tb) (hm : behindInMarks op b = false) : PT X (.Compare a [op] [b] pos) (tTest (tOp r ta tb)) := by
  intro pins s σ H Q I h
  refine wpAny_isTrue_Compare1 (thn (ha pins s σ H _ I h) fun v s1 ⟨x, H1, I1, r1, q1⟩ => thn (hb pins s1 σ H1 _ I1 q1) fun u s2 ⟨y, H2, I2, r2, q2⟩ =>
    thn (ho pins s2 σ H2 x y v u _ I2 r1 r2 q2) fun c s3 ⟨z, H3, I3, r3, k, e, q3⟩ => ?_) hm
  subst e
  cases r3
  exact wpAny_truthy_bool ⟨H3, I3, q3⟩
/-- a op1 b op2 c -/
def tChain (r r' : R2) (ta tb tc : TE) : TE := fun σ H Q => ta σ H fun x H1 => tb σ H1 fun y H2 => r x y H2 fun z H3 => ∃ k, z = .bl k ∧
  (if k = true then tc σ H3 fun w' H4 => r' y w' H4 Q else Q (.bl false) H3)
theorem pe_chain {op op' : CmpOp} {r r' : R2} (ho : OpR X (compareOp op) r) (ho' : OpR X (compareOp op') r') (ha : PE X a ta) (hb : PE X b tb) (hc : PE X c tc)
    (hm : lastMarks [op, op'] [b, c] = false := by with_unfolding_all rfl) : PE X (.Compare a [op, op'] [b, c] pos) (tChain r r' ta tb tc) := by
  intro pins s σ H Q I h
  refine Compare_chain (thn (ha pins s σ H _ I h) fun v s1 ⟨x, H1, I1, r1, q1⟩ => chain_link (thn (hb pins s1 σ H1 _ I1 q1) fun u s2 ⟨y, H2, I2, r2, q2⟩ =>
    thn (ho pins s2 σ H2 x y v u _ I2 r1 r2 q2) fun d s3 ⟨z, H3, I3, r3, k, e, q3⟩ => ?_)) hm
  subst e
  cases r3
  refine wpAny_truthy_bool ?_
  cases k with
  | false => exact ite_ff ⟨.bl false, H3, I3, rfl, q3⟩
  | true => exact ite_tt (chain_last (thn (hc pins s3 σ H3 _ I3 q3) fun w' s4 ⟨z', H4, I4, r4, q4⟩ => ho' pins s4 σ H4 y z' u w' Q I4 r2 r4 q4))
theorem pt_chain {op op' : CmpOp} {r r' : R2} (ho : OpR X (compareOp op) r) (ho' : OpR X (compareOp op') r') (ha : PE X a ta) (hb : PE X b tb) (hc : PE X c tc)
    (hm : lastMarks [op, op'] [b, c] = false := by with_unfolding_all rfl) : PT X (.Compare a [op, op'] [b, c] pos) (tTest (tChain r r' ta tb tc)) := by
  intro pins s σ H Q I h
  refine isTrue_chain (thn (ha pins s σ H _ I h) fun v s1 ⟨x, H1, I1, r1, q1⟩ => test_link (thn (hb pins s1 σ H1 _ I1 q1) fun u s2 ⟨y, H2, I2, r2, q2⟩ =>
    thn (ho pins s2 σ H2 x y v u _ I2 r1 r2 q2) fun d s3 ⟨z, H3, I3, r3, k, e, q3⟩ => ?_)) hm
  subst e
  cases r3
  refine wpAny_truthy_bool ?_
  cases k with
  | false =>
    obtain ⟨k', e', q'⟩ := q3
    cases e'
    exact ite_ff ⟨H3, I3, q'⟩
  | true =>
    refine ite_tt (test_last (thn (hc pins s3 σ H3 _ I3 q3) fun w' s4 ⟨z', H4, I4, r4, q4⟩ => thn (ho' pins s4 σ H4 y z' u w' _ I4 r2 r4 q4) fun d' s5 ⟨z2, H5, I5, r5, k2, e2, q5⟩ => ?_))
    subst e2
    cases r5
    exact wpAny_truthy_bool ⟨H5, I5, q5⟩

/-! ### truth -/
/-- a value's truth by the abstract heap -/
def TruV (K : PySem.W.Frag) (x : V) (H : Hp) (k : Bool) : Prop :=
  match x with
  | .non => k = false
  | .bl b => k = b
  | .int i => k = (i != 0)
  | .str y => y.length ≤ sizeLine ∧ k = ((y.length : Int) != 0)
  | .byt y => y.size ≤ sizeLine ∧ k = ((y.size : Int) != 0)
  | .ref p => (∃ xs, SqL K H p xs ∧ k = !xs.isEmpty) ∨ (∃ xs, SqT K H p xs ∧ k = !xs.isEmpty) ∨ ∃ kvs, H p = some (.dK kvs) ∧ k = !kvs.isEmpty
  | _ => False
theorem isEmpty_kv {κ : Type} {kvs : List (κ × V)} {vs : List (κ × Value)} (r : KV kvs vs) : (!vs.isEmpty) = !kvs.isEmpty := by
  cases r <;> rfl
theorem isEmpty_of {xs : List V} {its : List Value} (r : Vals xs its) : (!its.toArray.isEmpty) = !xs.isEmpty := by
  cases r <;> simp
theorem line63 : (sizeLine : Nat) < 2 ^ 63 := by rw [sizeLine_eq]; decide
theorem tru_ok : TruR X (fun x H Q => ∃ k, TruV X.K x H k ∧ Q k H) := by
  intro pins s σ H x v Q I rx h
  obtain ⟨k, e, q⟩ := h
  have hl := line63
  have hs : sizeLine = 16777216 := sizeLine_eq
  cases x with
  | non =>
    cases rx
    have e' : k = false := e
    subst e'
    exact truthy_none ⟨H, I, q⟩
  | bl b =>
    cases rx
    have e' : k = b := e
    subst e'
    exact wpAny_truthy_bool ⟨H, I, q⟩
  | int i =>
    obtain ⟨t, rfl⟩ := rx
    have e' : k = (i != 0) := e
    subst e'
    exact PySem.P.truthy_int ⟨H, I, q⟩
  | str y =>
    obtain ⟨t, rfl⟩ := rx
    obtain ⟨hy, e'⟩ : y.length ≤ sizeLine ∧ k = ((y.length : Int) != 0) := e
    subst e'
    exact PySem.P.truthy_str (by omega) ⟨H, I.tok _, q⟩
  | byt y =>
    obtain ⟨t, rfl⟩ := rx
    obtain ⟨hy, e'⟩ : y.size ≤ sizeLine ∧ k = ((y.size : Int) != 0) := e
    subst e'
    exact PySem.W.truthy_bytes (by omega) ⟨H, I.tok _, q⟩
  | ref p =>
    cases rx
    have e' : (∃ xs, SqL X.K H p xs ∧ k = !xs.isEmpty) ∨ (∃ xs, SqT X.K H p xs ∧ k = !xs.isEmpty) ∨ ∃ kvs, H p = some (.dK kvs) ∧ k = !kvs.isEmpty := e
    rcases e' with ⟨xs, hx, e'⟩ | ⟨xs, hx, e'⟩ | ⟨kvs, hx, e'⟩
    · subst e'
      obtain ⟨its, r, pl, hz⟩ := I.list hx
      have hlen := r.length
      exact wpAny_truthy_list pl.isList (by simp only [List.size_toArray]; omega) ⟨H, I.tok _, by rw [isEmpty_of r]; exact q⟩
    · subst e'
      obtain ⟨its, r, pl, hz⟩ := I.tuple hx
      have hlen := r.length
      exact truthy_tuple pl (by simp only [List.size_toArray]; omega) ⟨H, I.tok _, by rw [isEmpty_of r]; exact q⟩
    · subst e'
      obtain ⟨hz, hS, vs, r, m⟩ : kvs.length ≤ sizeLine ∧ (p == sysModules) = false ∧ ∃ vs, KV kvs vs ∧ s.heap.DictOf (mixKind X.prog X.w) p vs := I.hok p _ hx
      have hlen : kvs.length = vs.length := Paired.length r
      exact wpAny_truthy_dict hS m (by omega) ⟨H, I.tok _, by rw [isEmpty_kv r]; exact q⟩
  | _ => exact (show False from e).elim
/-- any expression whose test is its value's truth (a name, a call, a subscript, a field ..: he by fun _ => rfl) -/
theorem pt_truth (ha : PE X a ta) (he : ∀ whole, isTrue a X.env whole = (do let v ← whole; standAt a.pos; holding [v] (truthy v))) :
    PT X a (fun σ H Q => ta σ H fun x H' => ∃ k, TruV X.K x H' k ∧ Q k H') := by
  intro pins s σ H Q I h
  exact isTrue_plain (thn (ha pins s σ H _ I h) fun v s1 ⟨x, H1, I1, r1, q1⟩ => tru_ok pins s1 σ H1 x v Q I1 r1 q1) (he _)

/-! ### strs and bytes -/
theorem pe_byt {x : List UInt8} {k : Nat} : PE X (.Constant (.bytes x) k pos) (fun _ H Q => Q (.byt x.toArray) H) := fun _ _ _ H _ I h => PySem.W.Constant_bytes ⟨.byt x.toArray, H, I.tok _, ⟨_, rfl⟩, h⟩
theorem op_add_str : OpR X (binaryOp .Add) (fun x y H Q => ∃ i j, x = .str i ∧ y = .str j ∧ i.length + j.length ≤ sizeLine ∧ Q (.str (i ++ j)) H) := by
  intro pins s σ H x y v u Q I rx ry h
  obtain ⟨i, j, rfl, rfl, hz, q⟩ := h
  obtain ⟨t, rfl⟩ := rx
  obtain ⟨t', rfl⟩ := ry
  exact add_str (fun t' tk => ⟨.str (i ++ j), H, I.tok _, ⟨_, rfl⟩, q⟩) hz
theorem iop_add_str : OpR X (inplaceOp .Add) (fun x y H Q => ∃ i j, x = .str i ∧ y = .str j ∧ i.length + j.length ≤ sizeLine ∧ Q (.str (i ++ j)) H) := by
  intro pins s σ H x y v u Q I rx ry h
  obtain ⟨i, j, rfl, rfl, hz, q⟩ := h
  obtain ⟨t, rfl⟩ := rx
  obtain ⟨t', rfl⟩ := ry
  exact iadd_str (fun t' tk => ⟨.str (i ++ j), H, I.tok _, ⟨_, rfl⟩, q⟩) hz
theorem op_add_byt : OpR X (binaryOp .Add) (fun x y H Q => ∃ i j, x = .byt i ∧ y = .byt j ∧ i.size + j.size ≤ 16777216 ∧ Q (.byt (i ++ j)) H) := by
  intro pins s σ H x y v u Q I rx ry h
  obtain ⟨i, j, rfl, rfl, hz, q⟩ := h
  obtain ⟨t, rfl⟩ := rx
  obtain ⟨t', rfl⟩ := ry
  exact PySem.W.KBy.add_bytes hz (fun t' tk => ⟨.byt (i ++ j), H, I.tok _, ⟨_, rfl⟩, q⟩)

def PlainIxT (b : Expr) : Prop := ∀ o i, subscripted b false o i = operate [o, i] (getItem o i)
/-- s[i], 0 ≤ i < len -/
theorem pe_item_str (ha : PE X a ta) (hb : PE X b tb) (hs : PlainIxT b) :
    PE X (.Subscript a b pos) (tOp (fun x y H Q => ∃ z i c, x = .str z ∧ y = .int i ∧ 0 ≤ i ∧ i < 2 ^ 63 ∧ i < z.length ∧ z.cps[i.toNat]? = some c ∧ Q (.str ⟨#[c]⟩) H) ta tb) := by
  intro pins s σ H Q I h
  refine Subscript_ (binT ha hb I h fun v u s2 x y H2 I2 rx ry q => ?_)
  obtain ⟨z, i, c, rfl, rfl, h0, h63, h1, hc, q⟩ := q
  obtain ⟨t, rfl⟩ := rx
  obtain ⟨t', rfl⟩ := ry
  have e : seqIndex? i z.length = some i.toNat := PySem.StrLaws.seqIndex_nonneg h0 h1
  exact tail_any (typeIs_str s2 z t) slot_str_getitem.lookup (getItem_str (c := c) (by
    have e1 : decide (i < -(2 ^ 63 : Int)) = false := decide_eq_false (by omega)
    have e2 : decide (i ≥ 2 ^ 63) = false := decide_eq_false (by omega)
    rw [e1, e2] <;> rfl) (by rw [e]; exact hc) ⟨.str ⟨#[c]⟩, H2, I2.tok _, ⟨_, rfl⟩, q⟩) (hs _ _)
/-- b[i], 0 ≤ i < len -/
theorem pe_item_byt (ha : PE X a ta) (hb : PE X b tb) (hs : PlainIxT b) :
    PE X (.Subscript a b pos) (tOp (fun x y H Q => ∃ (z : List UInt8) (i : Int), x = .byt z.toArray ∧ y = .int i ∧ z.length ≤ sizeLine ∧ 0 ≤ i ∧ i < z.length ∧ Q (.int ((z.getD i.toNat 0).toNat : Nat)) H) ta tb) := by
  intro pins s σ H Q I h
  refine Subscript_ (binT ha hb I h fun v u s2 x y H2 I2 rx ry q => ?_)
  obtain ⟨z, i, rfl, rfl, hz, h0, h1, q⟩ := q
  obtain ⟨t, rfl⟩ := rx
  obtain ⟨t', rfl⟩ := ry
  have hl : sizeLine = 16777216 := sizeLine_eq
  exact tail_any (PySem.W.typeIs_bytes s2 z.toArray t) PySem.W.FB.slot_bytes_getitem.lookup (PySem.W.getItem_bytes (by omega) h0 h1 ⟨.int ((z.getD i.toNat 0).toNat : Nat), H2, I2.tok _, ⟨_, rfl⟩, q⟩) (hs _ _)

/-! ### scalar builtins, by CallR -/
theorem vals1 {x : V} {us : List Value} (r : Vals [x] us) : ∃ u, us = [u] ∧ RelV x u := by
  cases r with
  | cons r1 r2 => cases r2; exact ⟨_, rfl, r1⟩
theorem vals2 {x y : V} {us : List Value} (r : Vals [x, y] us) : ∃ u w', us = [u, w'] ∧ RelV x u ∧ RelV y w' := by
  cases r with
  | cons r1 r2 =>
    cases r2 with
    | cons r3 r4 => cases r4; exact ⟨_, _, rfl, r1, r3⟩
theorem call_abs : CallR X (.builtin "abs") (fun xs H Q => ∃ i, xs = [.int i] ∧ Q (.int (if i < 0 then -i else i)) H) := by
  intro pins s σ H xs us Q I r h
  obtain ⟨i, rfl, q⟩ := h
  obtain ⟨u, rfl, t, rfl⟩ := vals1 r
  exact call_abs_int fun u tk => ⟨.int (if i < 0 then -i else i), H, I.tok _, ⟨_, rfl⟩, q⟩
theorem call_max2 (hc : X.calm = true) : CallR X (.builtin "max") (fun xs H Q => ∃ i j, xs = [.int i, .int j] ∧ Q (.int (if j > i then j else i)) H) := by
  intro pins s σ H xs us Q I r h
  obtain ⟨i, j, rfl, q⟩ := h
  obtain ⟨u, w', rfl, ⟨t, rfl⟩, ⟨t', rfl⟩⟩ := vals2 r
  refine max_two_ints (I.ok.hd hc) fun h' tk k => ⟨_, H, I.kept k, ?_, q⟩
  by_cases hj : j > i
  · rw [if_pos hj, if_pos hj]; exact ⟨_, rfl⟩
  · rw [if_neg hj, if_neg hj]; exact ⟨_, rfl⟩
theorem call_min2 (hc : X.calm = true) : CallR X (.builtin "min") (fun xs H Q => ∃ i j, xs = [.int i, .int j] ∧ Q (.int (if j < i then j else i)) H) := by
  intro pins s σ H xs us Q I r h
  obtain ⟨i, j, rfl, q⟩ := h
  obtain ⟨u, w', rfl, ⟨t, rfl⟩, ⟨t', rfl⟩⟩ := vals2 r
  refine min_two_ints (I.ok.hd hc) fun h' tk k => ⟨_, H, I.kept k, ?_, q⟩
  by_cases hj : j < i
  · rw [if_pos hj, if_pos hj]; exact ⟨_, rfl⟩
  · rw [if_neg hj, if_neg hj]; exact ⟨_, rfl⟩
theorem call_int1 : CallR X (.type "int") (fun xs H Q => (∃ i, xs = [.int i] ∧ Q (.int i) H) ∨ ∃ k, xs = [.bl k] ∧ Q (.int (if k then 1 else 0)) H) := by
  intro pins s σ H xs us Q I r h
  rcases h with ⟨i, rfl, q⟩ | ⟨k, rfl, q⟩
  · obtain ⟨u, rfl, t, rfl⟩ := vals1 r
    exact call_int_int ⟨.int i, H, I, ⟨_, rfl⟩, q⟩
  · obtain ⟨u, rfl, r1⟩ := vals1 r
    cases r1
    exact call_int_bool ⟨.int (if k then 1 else 0), H, I.tok _, ⟨_, rfl⟩, q⟩
theorem call_bool1 : CallR X (.type "bool") (fun xs H Q => (∃ i, xs = [.int i] ∧ Q (.bl (i != 0)) H) ∨ ∃ k, xs = [.bl k] ∧ Q (.bl k) H) := by
  intro pins s σ H xs us Q I r h
  rcases h with ⟨i, rfl, q⟩ | ⟨k, rfl, q⟩
  · obtain ⟨u, rfl, t, rfl⟩ := vals1 r
    exact call_bool_int ⟨.bl (i != 0), H, I, rfl, q⟩
  · obtain ⟨u, rfl, r1⟩ := vals1 r
    cases r1
    exact call_bool_bool ⟨.bl k, H, I, rfl, q⟩
theorem call_str_int : CallR X (.type "str") (fun xs H Q => ∃ i, xs = [.int i] ∧ i.natAbs.log2 < 1920 ∧ Q (.str (toString i)) H) := by
  intro pins s σ H xs us Q I r h
  obtain ⟨i, rfl, hz, q⟩ := h
  obtain ⟨u, rfl, t, rfl⟩ := vals1 r
  exact PySem.P.str_of_int hz ⟨.str _, H, I.tok _, ⟨_, rfl⟩, q⟩
theorem call_ord : CallR X (.builtin "ord") (fun xs H Q => ∃ x, xs = [.str x] ∧ x.length = 1 ∧ Q (.int (x.cps.getD 0 0 : Nat)) H) := by
  intro pins s σ H xs us Q I r h
  obtain ⟨x, rfl, hz, q⟩ := h
  obtain ⟨u, rfl, t, rfl⟩ := vals1 r
  exact ord_of_one hz ⟨.int _, H, I.tok _, ⟨_, rfl⟩, q⟩
theorem call_chr : CallR X (.builtin "chr") (fun xs H Q => ∃ i, xs = [.int i] ∧ 0 ≤ i ∧ i ≤ 1114111 ∧ Q (.str ⟨#[i.toNat]⟩) H) := by
  intro pins s σ H xs us Q I r h
  obtain ⟨i, rfl, h0, h1, q⟩ := h
  obtain ⟨u, rfl, t, rfl⟩ := vals1 r
  exact chr_of_range h0 h1 ⟨.str _, H, I.tok _, ⟨_, rfl⟩, q⟩
/-- len of a str, a bytes, a list, a tuple -/
def LenV (K : PySem.W.Frag) (x : V) (H : Hp) (n : Nat) : Prop :=
  match x with
  | .str y => y.length ≤ sizeLine ∧ n = y.length
  | .byt y => y.size ≤ sizeLine ∧ n = y.size
  | .ref p => (∃ xs, SqL K H p xs ∧ n = xs.length) ∨ ∃ xs, SqT K H p xs ∧ n = xs.length
  | _ => False
theorem call_len : CallR X (.builtin "len") (fun xs H Q => ∃ x n, xs = [x] ∧ LenV X.K x H n ∧ Q (.int n) H) := by
  intro pins s σ H xs us Q I r h
  obtain ⟨x, n, rfl, e, q⟩ := h
  obtain ⟨u, rfl, rx⟩ := vals1 r
  have hl := line63
  have hs : sizeLine = 16777216 := sizeLine_eq
  cases x with
  | str y =>
    obtain ⟨t, rfl⟩ := rx
    obtain ⟨hy, e'⟩ : y.length ≤ sizeLine ∧ n = y.length := e
    subst e'
    exact len_str (by omega) ⟨.int _, H, I.tok _, ⟨_, rfl⟩, q⟩
  | byt y =>
    obtain ⟨t, rfl⟩ := rx
    obtain ⟨hy, e'⟩ : y.size ≤ sizeLine ∧ n = y.size := e
    subst e'
    exact PySem.W.len_bytes (by omega) ⟨.int _, H, I.tok _, ⟨_, rfl⟩, q⟩
  | ref p =>
    cases rx
    have e' : (∃ xs, SqL X.K H p xs ∧ n = xs.length) ∨ ∃ xs, SqT X.K H p xs ∧ n = xs.length := e
    rcases e' with ⟨xs, hx, e'⟩ | ⟨xs, hx, e'⟩
    · subst e'
      obtain ⟨its, r', pl, hz⟩ := I.list hx
      have hlen := r'.length
      exact Calls.call_len_list pl.isList (by simp only [List.size_toArray]; omega) ⟨.int xs.length, H, I.tok _, ⟨_, by simp only [List.size_toArray]; rw [hlen]⟩, q⟩
    · subst e'
      obtain ⟨its, r', pl, hz⟩ := I.tuple hx
      have hlen := r'.length
      exact len_tuple pl (by simp only [List.size_toArray]; omega) ⟨.int xs.length, H, I.tok _, ⟨_, by simp only [List.size_toArray]; rw [hlen]⟩, q⟩
  | _ => exact (show False from e).elim
/-- divmod: a new tuple -/
theorem call_divmod : CallR X (.builtin "divmod") (fun xs H Q => ∃ i j, xs = [.int i, .int j] ∧ CDiv i j ∧ ∀ p, H p = none → Q (.ref p) (upd H p (.tup [.int (i / j), .int (i % j)]))) := by
  intro pins s σ H xs us Q I r h
  obtain ⟨i, j, rfl, ⟨h1, h2⟩, q⟩ := h
  obtain ⟨u, w', rfl, ⟨t, rfl⟩, ⟨t', rfl⟩⟩ := vals2 r
  refine divmod_int (by omega) ?_ (.inl (PyProof.noPylong_small (by omega)))
  rw [Int.fdiv_eq_ediv_of_nonneg i (by omega), Int.fmod_eq_emod_of_nonneg i (by omega)]
  have hn : H s.heap.objs.size = none := I.hok.fresh (Nat.le_refl _)
  refine ⟨.ref s.heap.objs.size, _, ?_, rfl, q _ hn⟩
  refine I.laid (fun b o e => Heap.get?_push_of_some _ e) (Nat.le_refl _) ⟨by simp only [List.length_cons, List.length_nil]; rw [sizeLine_eq]; decide, [.int (i / j) s.toks, .int (i % j) (s.toks + 1)], .cons ⟨_, rfl⟩ (.cons ⟨_, rfl⟩ .nil), ?_⟩
  exact ⟨_, Heap.get?_push_size s.heap rfl, rfl, 0, rfl⟩
end
end L2

namespace L2
open PySem PySem.Spec PyProof.Rows

/-! ### an instance, its attributes a map -/
structure ObjM (h : Heap) (x dx C : Addr) (mA : Str → Option Value) : Prop where
  obj : h.get? x = some (PySem.W.instObj C dx)
  ns : h.Ns1 dx mA
  ne : dx ≠ x

theorem lookIn_ns {h : Heap} {dx : Addr} {mA : Str → Option Value} (n : h.Ns1 dx mA) : ∃ od, h.get? dx = some od ∧ ∀ name, PySem.W.lookIn name od = some (mA name) := by
  obtain ⟨o, es, ep, ho, hd, hk, _, hm⟩ := n
  refine ⟨o, ho, fun name => ?_⟩
  have e := hm name
  unfold nsFind findBy at e
  rw [← Array.find?_toList] at e
  unfold PySem.W.lookIn
  rw [hd]
  dsimp only
  split
  · rename_i y q
    rw [q] at e
    exact congrArg some e
  · rename_i q
    rw [q] at e
    have a : es.toList.any (·.refKey) = false := by
      rw [List.any_eq_false]
      intro y hy
      obtain ⟨z, t, hkey⟩ := hk y (Array.mem_toList_iff.mp hy)
      simp [DictEntry.refKey, hkey]
    have a' : ¬ es.toList.any (·.refKey) = true := by rw [a]; exact Bool.false_ne_true
    rw [if_neg a']
    exact congrArg some e

theorem ObjM.look {h : Heap} {x dx C : Addr} {mA : Str → Option Value} (I : ObjM h x dx C mA) : ∃ od, PySem.W.InstAt h x (PySem.W.instObj C dx) C (some od) ∧ ∀ name, PySem.W.lookIn name od = some (mA name) :=
  let ⟨od, ho, hl⟩ := lookIn_ns I.ns
  ⟨od, ⟨I.obj, rfl, rfl, ho⟩, hl⟩

section
variable {prog : Program} {w : World} {A : Around} {E : Value → Shared → Prop} {s : Shared} {K : PySem.W.Frag} {x dx C f : Addr} {mA : Str → Option Value} {name : Str} {v : Value}

theorem get_map {expr : Bool} {Q : Value → Shared → Prop} (X : K.In s.heap) (I : ObjM s.heap x dx C mA) (hg : PySem.W.plainGet K C name = true) (hh : PySem.W.hasDictIn K C = true)
    (ha : PySem.W.findIn K (.ref C) name = some none) (hv : mA name = some v) (hv' : PySem.W.handedIn v = true) (h : Q v { s with toks := s.toks + 1 }) :
    wpAny (model prog w) A (getAttr (.ref x) name expr) Q E s := by
  obtain ⟨od, J, hl⟩ := I.look
  exact PySem.W.get_value X J (PySem.W.plainGet_of hg).1 (PySem.W.findObj_own hh ha rfl (by rw [hl, hv])) hv' h

theorem get_const {expr : Bool} {a : Value} {Q : Value → Shared → Prop} (X : K.In s.heap) (I : ObjM s.heap x dx C mA) (hg : PySem.W.plainGet K C name = true) (hh : PySem.W.hasDictIn K C = true)
    (ha : PySem.W.findIn K (.ref C) name = some (some a)) (hn : PySem.W.specialIn K a "__get__" = some none) (hc : PySem.W.copiedNames.contains name = false) (hv : mA name = none) (hv' : PySem.W.handedIn a = true)
    (h : Q a { s with toks := s.toks + 1 }) : wpAny (model prog w) A (getAttr (.ref x) name expr) Q E s := by
  obtain ⟨od, J, hl⟩ := I.look
  exact PySem.W.get_value X J (PySem.W.plainGet_of hg).1 (PySem.W.findObj_cls hh ha hn hv' hc (by rw [hl, hv])) hv' h

theorem get_meth {pl : Sem Bool} {Q : Value × List Value → Shared → Prop} (X : K.In s.heap) (I : ObjM s.heap x dx C mA) (hg : PySem.W.plainGet K C name = true)
    (hf : PySem.W.findIn K (.ref C) name = some (some (.ref f))) (ht : PySem.W.isFn K (.ref f) = true) (hv : mA name = none) (h : Q (.ref f, [.ref x]) s) :
    wpAny (model prog w) A (getMethod (.ref x) name pl) Q E s := by
  obtain ⟨od, J, hl⟩ := I.look
  exact PySem.W.method_fn X J (PySem.W.plainGet_of hg).1 (PySem.W.plainGet_of hg).2 hf (beq_iff_eq.mp ht) (by show (PySem.W.lookIn name od).map (·.isSome) = some false; rw [hl, hv]; rfl) h

theorem set_map {ns : List Str} {Q : Unit → Shared → Prop} (X : K.In s.heap) (I : ObjM s.heap x dx C mA)
    (hs : PySem.W.findIn K (.ref C) "__setattr__" = some (some (.builtin "object.__setattr__"))) (hp : PySem.W.plainOver K C = true) (ht : PySem.W.takerIn K C name = some none) (hh : PySem.W.hasDictIn K C = true)
    (hw : PySem.Within mA ns) (hsz : ns.length ≤ sizeLine)
    (h : ∀ h', ObjM h' x dx C (fun y => if y = name then some v else mA y) → Heap.SameBut dx s.heap h' → Q () { s with heap := h', toks := s.toks + 2 }) :
    wpAny (model prog w) A (setAttr (.ref x) name v) Q E s := by
  obtain ⟨od, J, hl⟩ := I.look
  refine PySem.W.set_plain X J hs (PySem.W.osa_open (s := { s with toks := s.toks + 1 }) (r := none) X J hp ht fun b => ?_)
  obtain ⟨cd, hc, hd'⟩ := PySem.W.any_some hh
  have hx : s.heap.get? x = some ⟨.ref C, some dx, .plain, #[]⟩ := I.obj
  refine wpAny_bind (wpAny_pure (wpAny_bind (wpAny_bind (wpAny_loadPart hx (wpAny_bind (PySem.W.Looks.here (s := { s with toks := s.toks + 1 }) (PySem.W.looks_clsIn X hc) ?_))))))
  rw [hd']
  refine wpAny_pure (a := some dx) (wpAny_bind (wpAny_pure (wpAny_bind ?_)))
  refine wpAny_nsSet1 (s := { s with toks := s.toks + 1 }) I.ns fun h' hn2 hs2 => ?_
  obtain ⟨oD, esD, epD, hoD, hdD, hcD⟩ := hn2.count (PySem.Within.cons name v hw)
  refine wpAny_bind (wpAny_lookBehind hoD (by rw [hdD]; exact pastItsLine_dict (Nat.le_trans hcD (by rw [List.length_cons]; omega))) ?_)
  exact wpAny_pure (h _ ⟨(hs2.2 _ (Ne.symm I.ne)).trans I.obj, hn2, I.ne⟩ hs2)

/-- C(..): the dict at the heap's end, the instance behind it; then its __init__ -/
theorem make_map {R : Result → Shared → Prop} {vs : List Value} {kw : List (Str × Value)} (X : K.In s.heap) (hm : PySem.W.makesIn K C = true)
    (hi : PySem.W.findIn K (.ref C) "__init__" = some (some (.ref f))) (hf : PySem.W.typeIn K (.ref f) = some (.type "function"))
    (h : codeAny (model prog w) (A.under (.builtin "type.__call__" ⟨.ref C :: vs, kw⟩)) (.call (.ref f) ⟨.ref (s.heap.objs.size + 1) :: vs, kw⟩) (PySem.W.InitBack (s.heap.objs.size + 1) R)
      { s with heap := (s.heap.push PySem.W.emptyDict).push (PySem.W.instObj C s.heap.objs.size) }) :
    codeAny (model prog w) A (.call (.ref C) ⟨vs, kw⟩) R s := by
  obtain ⟨hh, g, d, t, os⟩ := s
  exact PySem.W.make_core (PySem.W.makes_of X hm) (PySem.W.looks_findIn X hi) (fun self => PySem.W.bind_fn X self hf) (.inl rfl) h
/-- C() where there is no __init__ but object's -/
theorem make_map0 {R : Result → Shared → Prop} (X : K.In s.heap) (hm : PySem.W.makesIn K C = true)
    (hi : PySem.W.findIn K (.ref C) "__init__" = some (some (.builtin "object.__init__")))
    (hb : ∀ self, PySem.W.Looks (model prog w) s.heap (bindSpecial (.builtin "object.__init__") self) (.builtin "object.__init__", [self]))
    (h : codeAny (model prog w) (A.under (.builtin "type.__call__" ⟨[.ref C], []⟩)) (.call (.builtin "object.__init__") ⟨[.ref (s.heap.objs.size + 1)], []⟩) (PySem.W.InitBack (s.heap.objs.size + 1) R)
      { s with heap := (s.heap.push PySem.W.emptyDict).push (PySem.W.instObj C s.heap.objs.size) }) :
    codeAny (model prog w) A (.call (.ref C) ⟨[], []⟩) R s := by
  obtain ⟨hh, g, d, t, os⟩ := s
  exact PySem.W.make_core (PySem.W.makes_of X hm) (PySem.W.looks_findIn X hi) hb (.inr ⟨rfl, rfl⟩) h
end

/-! ### the attributes as a list of pairs -/
def putF (f : Str) (v : V) : List (Str × V) → List (Str × V)
  | [] => [(f, v)]
  | (g, x) :: r => if g = f then (g, v) :: r else (g, x) :: putF f v r
theorem lookup_putF (f g : Str) (v : V) : ∀ fs : List (Str × V), (putF f v fs).lookup g = if g = f then some v else fs.lookup g
  | [] => by
    show List.lookup g [(f, v)] = _
    by_cases h : g = f
    · have hb : (g == f) = true := beq_iff_eq.mpr h
      simp only [List.lookup, hb, if_pos h]
    · have hb : (g == f) = false := beq_eq_false_iff_ne.mpr h
      simp only [List.lookup, hb, if_neg h]
  | (k, x) :: r => by
    have ih := lookup_putF f g v r
    rw [show putF f v ((k, x) :: r) = (if k = f then (k, v) :: r else (k, x) :: putF f v r) from rfl]
    by_cases hk : k = f
    · rw [if_pos hk]
      by_cases h : g = k
      · have hb : (g == k) = true := beq_iff_eq.mpr h
        simp only [List.lookup, hb, if_pos (h.trans hk)]
      · have hb : (g == k) = false := beq_eq_false_iff_ne.mpr h
        simp only [List.lookup, hb, if_neg (fun e : g = f => h (e.trans hk.symm))]
    · rw [if_neg hk]
      by_cases h : g = k
      · have hb : (g == k) = true := beq_iff_eq.mpr h
        simp only [List.lookup, hb, if_neg (fun e : g = f => hk (h.symm.trans e))]
      · have hb : (g == k) = false := beq_eq_false_iff_ne.mpr h
        simp only [List.lookup, hb]
        exact ih
theorem keys_putF (f : Str) (v : V) : ∀ fs : List (Str × V), f ∈ (putF f v fs).map (·.1) ∧ ∀ g, g ∈ fs.map (·.1) → g ∈ (putF f v fs).map (·.1)
  | [] => ⟨by simp [putF], fun g h => by simp at h⟩
  | (k, x) :: r => by
    obtain ⟨i1, i2⟩ := keys_putF f v r
    rw [show putF f v ((k, x) :: r) = (if k = f then (k, v) :: r else (k, x) :: putF f v r) from rfl]
    by_cases hk : k = f
    · rw [if_pos hk]
      subst hk
      exact ⟨by simp, fun g h => by simpa using h⟩
    · rw [if_neg hk]
      refine ⟨?_, fun g h => ?_⟩
      · rw [List.map_cons]
        exact List.mem_cons_of_mem _ i1
      · rw [List.map_cons] at h ⊢
        rcases List.mem_cons.mp h with e | e
        · exact List.mem_cons.mpr (.inl e)
        · exact List.mem_cons_of_mem _ (i2 g e)
theorem length_putF (f : Str) (v : V) : ∀ fs : List (Str × V), (putF f v fs).length ≤ fs.length + 1
  | [] => by simp [putF]
  | (k, x) :: r => by
    have ih := length_putF f v r
    rw [show putF f v ((k, x) :: r) = (if k = f then (k, v) :: r else (k, x) :: putF f v r) from rfl]
    by_cases hk : k = f
    · rw [if_pos hk, List.length_cons, List.length_cons]; omega
    · rw [if_neg hk, List.length_cons, List.length_cons]; omega

theorem RelO.some_of {v : V} {o : Option Value} (r : RelO (some v) o) : ∃ u, o = some u ∧ RelV v u := by
  cases o with
  | none => exact (show False from r).elim
  | some u => exact ⟨u, rfl, r⟩
theorem RelO.none_of {o : Option Value} (r : RelO none o) : o = none := by
  cases o with
  | none => rfl
  | some u => exact (show False from r).elim
theorem handed_of {v : V} {u : Value} (r : RelV v u) : PySem.W.handedIn u = true := by
  cases v with
  | non => cases (show u = Value.none from r); rfl
  | bl b => cases (show u = Value.bool b from r); rfl
  | int i => obtain ⟨t, e⟩ := (show ∃ t, u = Value.int i t from r); cases e; rfl
  | str x => obtain ⟨t, e⟩ := (show ∃ t, u = Value.str x t from r); cases e; rfl
  | byt b => obtain ⟨t, e⟩ := (show ∃ t, u = Value.bytes b t from r); cases e; rfl
  | flt b => obtain ⟨t, e⟩ := (show ∃ t, u = Value.float b t from r); cases e; rfl
  | ref a => cases (show u = Value.ref a from r); rfl
  | ty n => cases (show u = Value.type n from r); rfl

section
variable {P : Program} {w : World} {H H' : Hp} {h h' : Heap} {a C dx : Addr} {fs fs' : List (Str × V)}
theorem ins_get (hok : HOk P w H h) (e : H a = some (.ins C dx fs)) : ∃ mA, ObjM h a dx C mA ∧ (∀ f, RelO (fs.lookup f) (mA f)) ∧ PySem.Within mA (fs.map (·.1)) ∧ fs.length ≤ 1000 ∧ H dx = some (.own a) := by
  obtain ⟨d, z, ne, ob, mA, n, r, q⟩ := (show ObjOk P w H h a (.ins C dx fs) from hok a _ e)
  exact ⟨mA, ⟨ob, n, ne⟩, r, q, z, d⟩
end

/-! ### what of the text a class must have -/
structure Cls (K : PySem.W.Frag) (C : Addr) : Prop where
  pg : PySem.W.plainGet K C Str.empty = true
  hd : PySem.W.hasDictIn K C = true
  po : PySem.W.plainOver K C = true
  sa : PySem.W.findIn K (.ref C) "__setattr__" = some (some (.builtin "object.__setattr__"))
theorem Cls.get {K : PySem.W.Frag} {C : Addr} (c : Cls K C) (f : Str) : PySem.W.plainGet K C f = true := c.pg
/-- no class of it has the name -/
def NoAttr (K : PySem.W.Frag) (C : Addr) (f : Str) : Prop := PySem.W.findIn K (.ref C) f = some none
theorem NoAttr.taker {K : PySem.W.Frag} {C : Addr} {f : Str} (n : NoAttr K C f) : PySem.W.takerIn K C f = some none := by
  unfold PySem.W.takerIn
  rw [show PySem.W.findIn K (.ref C) f = some none from n]
  rfl
/-- a constant of the class -/
structure Con (K : PySem.W.Frag) (C : Addr) (f : Str) (v : V) (u : Value) : Prop where
  at_ : PySem.W.findIn K (.ref C) f = some (some u)
  rel : RelV v u
  get : PySem.W.specialIn K u "__get__" = some none
  cp : PySem.W.copiedNames.contains f = false
/-- a method: a plain def of the class or of one above it -/
structure Meth (K : PySem.W.Frag) (C : Addr) (m : Str) (f : Addr) : Prop where
  at_ : PySem.W.findIn K (.ref C) m = some (some (.ref f))
  fn : PySem.W.isFn K (.ref f) = true
  kp : PySem.W.keepIn K (.ref f) = true

section
variable {X : Cx} {pins : List (Addr × Obj)} {σ : St} {H : Hp} {s : Shared} {a C dx : Addr} {fs : List (Str × V)} {f : Str} {v : V} {A : Around} {E : Value → Shared → Prop}

theorem getattr_ok {b : Bool} {Q : Value → Shared → Prop} (I : Inv X pins σ H s) (e : H a = some (.ins C dx fs)) (c : Cls X.K C) (n : NoAttr X.K C f) (l : fs.lookup f = some v)
    (h : ∀ u s', Inv X pins σ H s' → RelV v u → Q u s') : wpAny (model X.prog X.w) A (getAttr (.ref a) f b) Q E s := by
  obtain ⟨mA, O, r, _, _, _⟩ := ins_get I.hok e
  obtain ⟨u, hu, ru⟩ := RelO.some_of (v := v) (o := mA f) (by rw [← l]; exact r f)
  exact get_map I.kIn O (c.get f) c.hd n hu (handed_of ru) (h u _ (I.tok _) ru)

theorem getcon_ok {b : Bool} {u : Value} {Q : Value → Shared → Prop} (I : Inv X pins σ H s) (e : H a = some (.ins C dx fs)) (c : Cls X.K C) (k : Con X.K C f v u) (l : fs.lookup f = none)
    (h : ∀ s', Inv X pins σ H s' → Q u s') : wpAny (model X.prog X.w) A (getAttr (.ref a) f b) Q E s := by
  obtain ⟨mA, O, r, _, _, _⟩ := ins_get I.hok e
  have hn : mA f = none := RelO.none_of (by rw [← l]; exact r f)
  exact get_const I.kIn O (c.get f) c.hd k.at_ k.get k.cp hn (handed_of k.rel) (h _ (I.tok _))

theorem getmeth_ok {m : Str} {g : Addr} {pl : Sem Bool} {Q : Value × List Value → Shared → Prop} (I : Inv X pins σ H s) (e : H a = some (.ins C dx fs)) (c : Cls X.K C) (k : Meth X.K C m g) (l : fs.lookup m = none)
    (h : Q (.ref g, [.ref a]) s) : wpAny (model X.prog X.w) A (getMethod (.ref a) m pl) Q E s := by
  obtain ⟨mA, O, r, _, _, _⟩ := ins_get I.hok e
  have hn : mA m = none := RelO.none_of (by rw [← l]; exact r m)
  exact get_meth I.kIn O (c.get m) k.at_ k.fn hn h

theorem setattr_ok {y : V} {u : Value} {Q : Unit → Shared → Prop} (I : Inv X pins σ H s) (e : H a = some (.ins C dx fs)) (c : Cls X.K C) (n : NoAttr X.K C f) (hl : fs.length < 1000) (ry : RelV y u)
    (h : ∀ s', Inv X pins σ (upd H a (.ins C dx (putF f y fs))) s' → Q () s') : wpAny (model X.prog X.w) A (setAttr (.ref a) f u) Q E s := by
  obtain ⟨mA, O, r, wi, _, ho⟩ := ins_get I.hok e
  have hz : (fs.map (·.1)).length ≤ sizeLine := by rw [List.length_map, sizeLine_eq]; omega
  refine set_map I.kIn O c.sa c.po n.taker c.hd wi hz fun h' O' sb => h _ ?_
  have hd : ∃ o, h'.get? dx = some o := let ⟨o, _, _, e', _⟩ := O'.ns; ⟨o, e'⟩
  refine I.write (x := a) (e := dx) (by rw [e]; exact True.intro) (.inr ho) (fun b q hb z => (sb.2 b hb).trans z) hd ?_
  refine ⟨by rw [upd_ne O.ne]; exact ho, ?_, O.ne, O'.obj, _, O'.ns, fun g => ?_, fun g hg => ?_⟩
  · have := length_putF f y fs; omega
  · show RelO ((putF f y fs).lookup g) (if g = f then some u else mA g)
    rw [lookup_putF]
    by_cases q : g = f
    · rw [if_pos q, if_pos q]; exact ry
    · rw [if_neg q, if_neg q]; exact r g
  · by_cases q : g = f
    · rw [q]; exact (keys_putF f y fs).1
    · refine (keys_putF f y fs).2 g (wi g fun z => hg ?_)
      show (if g = f then some u else mA g) = none
      rw [if_neg q]; exact z

/-- a new instance, tracked, without attributes -/
theorem Inv.made (I : Inv X pins σ H s) : Inv X pins σ (upd (upd H s.heap.objs.size (.own (s.heap.objs.size + 1))) (s.heap.objs.size + 1) (.ins C s.heap.objs.size []))
    { s with heap := (s.heap.push PySem.W.emptyDict).push (PySem.W.instObj C s.heap.objs.size) } := by
  have e1 : (s.heap.push PySem.W.emptyDict).get? s.heap.objs.size = some PySem.W.emptyDict := Heap.get?_push_size s.heap rfl
  have e2 : ((s.heap.push PySem.W.emptyDict).push (PySem.W.instObj C s.heap.objs.size)).get? (s.heap.objs.size + 1) = some (PySem.W.instObj C s.heap.objs.size) := by
    have := Heap.get?_push_size (s.heap.push PySem.W.emptyDict) (o := PySem.W.instObj C s.heap.objs.size) rfl
    rwa [Heap.size_push] at this
  have e3 : (s.heap.push PySem.W.emptyDict).Ns s.heap.objs.size (fun _ => none) := ⟨PySem.W.emptyDict, #[], _, e1, rfl, (fun e he => absurd he (by simp)), fun _ => rfl⟩
  have I1 := I.laid (a := s.heap.objs.size) (o := .own (s.heap.objs.size + 1)) (h' := s.heap.push PySem.W.emptyDict) (t' := s.toks) (fun b u q => Heap.get?_push_of_some _ q) (Nat.le_refl _) ⟨_, e1⟩
  refine I1.laid (a := s.heap.objs.size + 1) (o := .ins C s.heap.objs.size []) (t' := s.toks) (fun b u q => Heap.get?_push_of_some _ q) (Nat.le_of_eq (Heap.size_push _ _)) ?_
  have ne : s.heap.objs.size ≠ s.heap.objs.size + 1 := Nat.ne_of_lt (Nat.lt_succ_self _)
  refine ⟨by rw [upd_ne ne, upd_same], Nat.zero_le _, ne, e2, fun _ => none, (Heap.Ns1.of_empty e3).at fun o q => Heap.get?_push_of_some _ q, fun _ => True.intro, fun y hy => absurd rfl hy⟩

/-- e.f where nothing but the object is asked: through attributeBase (super) and the last hold -/
theorem attr_of {prog : Program} {w : World} {env : Env} {e : Expr} {f : Str} {pos : Pos} {s : Shared} {Q : Value → Shared → Prop} (hb : attributeBase e f env (eval e env) = eval e env)
    (h : wpAny (model prog w) A (eval e env) (fun o s₁ => wpAny (model prog w) A (getAttr o f true) Q E s₁) E s) : wpAny (model prog w) A (eval (.Attribute e f pos) env) Q E s :=
  Attribute_any_ h (by rw [arm_eval_Attribute, hb])
end

/-! ### readings and rules -/
/-- e.f, an attribute of the instance -/
def tFld (K : PySem.W.Frag) (ta : TE) (f : Str) : TE := fun σ H Q => ta σ H fun x H1 => ∃ a C dx fs v, x = .ref a ∧ H1 a = some (.ins C dx fs) ∧ Cls K C ∧ NoAttr K C f ∧ fs.lookup f = some v ∧ Q v H1
/-- e.f, a constant of the class -/
def tCon (K : PySem.W.Frag) (ta : TE) (f : Str) : TE := fun σ H Q => ta σ H fun x H1 => ∃ a C dx fs v u, x = .ref a ∧ H1 a = some (.ins C dx fs) ∧ Cls K C ∧ Con K C f v u ∧ fs.lookup f = none ∧ Q v H1
/-- e.f = value -/
def sFld (K : PySem.W.Frag) (ta tv : TE) (f : Str) : TS := fun D σ H => tv σ H fun y H1 => ta σ H1 fun x H2 => ∃ a C dx fs, x = .ref a ∧ H2 a = some (.ins C dx fs) ∧ Cls K C ∧ NoAttr K C f ∧ fs.length < 1000 ∧
  D.nx σ (upd H2 a (.ins C dx (putF f y fs)))
/-- an augmented operator on two values -/
def InOp (X : Cx) (op : Operator) (rd : V → V → Hp → VK → Prop) : Prop :=
  ∀ (pins : List (Addr × Obj)) (s : Shared) (σ : St) (H : Hp) (x y : V) (u v : Value) (Q : VK), Inv X pins σ H s → RelV x u → RelV y v → rd x y H Q → wpAny (model X.prog X.w) X.A (inplaceOp op u v) (EP X pins σ Q) X.xe s
/-- e.f op= value -/
def sFldAug (K : PySem.W.Frag) (ta tv : TE) (rd : V → V → Hp → VK → Prop) (f : Str) : TS := fun D σ H => ta σ H fun x H1 => ∃ a C dx fs v, x = .ref a ∧ H1 a = some (.ins C dx fs) ∧ Cls K C ∧ NoAttr K C f ∧ fs.lookup f = some v ∧
  tv σ H1 fun y H2 => rd v y H2 fun z H3 => ∃ dx' fs', H3 a = some (.ins C dx' fs') ∧ fs'.length < 1000 ∧ D.nx σ (upd H3 a (.ins C dx' (putF f z fs')))

section
variable {X : Cx} {o e value : Expr} {f : Str} {pos pos' tpos : Pos} {ta tv : TE}
theorem pe_fld (he : PE X e ta) (hb : attributeBase e f X.env (eval e X.env) = eval e X.env) : PE X (.Attribute e f pos) (tFld X.K ta f) := by
  intro pins s σ H Q I h
  refine attr_of hb (thn (he pins s σ H _ I h) fun u s1 ⟨x, H1, I1, rx, a, C, dx, fs, v, ex, ea, c, n, l, q⟩ => ?_)
  subst ex
  obtain rfl : u = Value.ref a := rx
  exact getattr_ok I1 ea c n l fun u' s2 I2 ru => ⟨v, H1, I2, ru, q⟩
theorem pe_con (he : PE X e ta) (hb : attributeBase e f X.env (eval e X.env) = eval e X.env) : PE X (.Attribute e f pos) (tCon X.K ta f) := by
  intro pins s σ H Q I h
  refine attr_of hb (thn (he pins s σ H _ I h) fun u s1 ⟨x, H1, I1, rx, a, C, dx, fs, v, u0, ex, ea, c, k, l, q⟩ => ?_)
  subst ex
  obtain rfl : u = Value.ref a := rx
  exact getcon_ok I1 ea c k l fun s2 I2 => ⟨v, H1, I2, k.rel, q⟩
theorem ps_fld (ha : PE X o ta) (hv : PE X value tv) (hs : swapsWith value (some (.Attribute o f pos')) pos.line X.env = pure false) : PS X (.Assign [.Attribute o f pos'] value pos) (sFld X.K ta tv f) := by
  intro pins s σ H D I h
  refine plainObj_wpAny_Assign_Attribute (thn (hv pins s σ H _ I h) fun u s1 ⟨y, H1, I1, ry, q⟩ => thn (ha pins s1 σ H1 _ I1 q) fun ov s2 ⟨x, H2, I2, rx, a, C, dx, fs, ex, ea, c, n, l, q2⟩ => ?_) hs
  subst ex
  obtain rfl : ov = Value.ref a := rx
  exact setattr_ok I2 ea c n l ry fun s3 I3 => ⟨σ, _, I3, q2⟩
theorem ps_fldaug {op : Operator} {rd : V → V → Hp → VK → Prop} (ha : PE X o ta) (hv : PE X value tv) (hop : InOp X op rd) : PS X (.AugAssign (.Attribute o f tpos) op value pos) (sFldAug X.K ta tv rd f) := by
  intro pins s σ H D I h
  refine wpAny_AugAssign_AttributeAny (thn (ha pins s σ H _ I h) fun ov s1 ⟨x, H1, I1, rx, a, C, dx, fs, v, ex, ea, c, n, l, q⟩ => ?_)
  subst ex
  obtain rfl : ov = Value.ref a := rx
  refine getattr_ok I1 ea c n l fun u s2 I2 ru => thn (hv pins s2 σ H1 _ I2 q) fun w3 s3 ⟨y, H2, I3, ry, q3⟩ => thn (hop pins s3 σ H2 v y u w3 _ I3 ru ry q3) fun w4 s4 ⟨z, H3, I4, rz, dx', fs', ea', l', q4⟩ => ?_
  exact setattr_ok I4 ea' c n l' rz fun s5 I5 => ⟨σ, _, I5, q4⟩
def rAdd : V → V → Hp → VK → Prop := fun x y H Q => ∃ i j, x = .int i ∧ y = .int j ∧ Q (.int (i + j)) H
def rSub : V → V → Hp → VK → Prop := fun x y H Q => ∃ i j, x = .int i ∧ y = .int j ∧ Q (.int (i - j)) H
theorem in_add : InOp X .Add rAdd := by
  rintro pins s σ H x y u v Q I rx ry ⟨i, j, rfl, rfl, q⟩
  obtain ⟨t, rfl⟩ := (show ∃ t, u = Value.int i t from rx)
  obtain ⟨t', rfl⟩ := (show ∃ t', v = Value.int j t' from ry)
  exact PyProof.Rows.iadd_int ⟨.int (i + j), H, I.tok _, ⟨_, rfl⟩, q⟩
theorem in_sub : InOp X .Sub rSub := by
  rintro pins s σ H x y u v Q I rx ry ⟨i, j, rfl, rfl, q⟩
  obtain ⟨t, rfl⟩ := (show ∃ t, u = Value.int i t from rx)
  obtain ⟨t', rfl⟩ := (show ∃ t', v = Value.int j t' from ry)
  exact PyProof.Rows.isub_int ⟨.int (i - j), H, I.tok _, ⟨_, rfl⟩, q⟩

/-- what is between an instance and its method: the tree of a method call -/
theorem methcall_of {pl : Sem Bool} {m : Str} {apos : Pos} {args : List Expr} {pins : List (Addr × Obj)} {s : Shared} {σ : St} {H : Hp} {Q : Value → Shared → Prop} {te : TE} (he : PE X e te) (I : Inv X pins σ H s)
    (h : te σ H fun x H1 => ∃ a C dx fs g, x = .ref a ∧ H1 a = some (.ins C dx fs) ∧ Cls X.K C ∧ Meth X.K C m g ∧ fs.lookup m = none ∧
      ∀ s1, Inv X pins σ H1 s1 → wpAny (model X.prog X.w) X.A (callWith pos (.ref g) [.ref a] (backTo pos (starEach args X.env)) (backToKw pos (keywordEach [] X.env))) Q X.xe s1)
    (ht : eval (.Call (.Attribute e m apos) args [] pos) X.env = (do
      let ov ← eval e X.env
      standAt apos.atName
      let (f, first) ← holding [ov] (getMethod ov m pl)
      callWith pos f first (backTo pos (starEach args X.env)) (backToKw pos (keywordEach [] X.env)))) :
    wpAny (model X.prog X.w) X.A (eval (.Call (.Attribute e m apos) args [] pos) X.env) Q X.xe s := by
  refine PySem.W.methodCall_KW (pl := pl) (thn (he pins s σ H _ I h) fun u s1 ⟨x, H1, I1, rx, a, C, dx, fs, g, ex, ea, c, k, l, q⟩ => ?_) ht
  subst ex
  obtain rfl : u = Value.ref a := rx
  exact getmeth_ok I1 ea c k l (q s1 I1)
end

/-! ### isinstance -/
section
variable {X : Cx} {pins : List (Addr × Obj)} {σ : St} {H : Hp} {s : Shared} {A : Around} {E : Value → Shared → Prop} {Q : Value → Shared → Prop} {c : Value} {b : Bool}
/-- the type of a value, as the fragment's deciders take it; for an instance its class -/
inductive TyOf (K : PySem.W.Frag) (H : Hp) : V → Value → Prop where
  | non : TyOf K H .non (.type "NoneType")
  | bl (x : Bool) : TyOf K H (.bl x) (.type "bool")
  | int (i : Int) : TyOf K H (.int i) (.type "int")
  | str (x : Str) : TyOf K H (.str x) (.type "str")
  | flt (x : UInt64) : TyOf K H (.flt x) (.type "float")
  | lst {a : Addr} {xs : List V} (e : H a = some (.lst xs)) : TyOf K H (.ref a) (.type "list")
  | frz {a : Addr} {o : Obj} {xs : List V} (e : H a = some (.frz o (.lst xs))) : TyOf K H (.ref a) (.type "list")
  | tup {a : Addr} {xs : List V} (e : H a = some (.tup xs)) : TyOf K H (.ref a) (.type "tuple")
  | dK {a : Addr} {kvs : List (Key × V)} (e : H a = some (.dK kvs)) : TyOf K H (.ref a) (.type "dict")
  | dT {a : Addr} {kvs : List (List Key × V)} (e : H a = some (.dT kvs)) : TyOf K H (.ref a) (.type "dict")
  | ins {a C dx : Addr} {fs : List (Str × V)} (e : H a = some (.ins C dx fs)) (cl : Cls K C) (ha : PySem.W.findIn K (.ref C) "__class__" = some (some (.builtin "object.__class__")))
      (hn : PySem.W.specialIn K (.builtin "object.__class__") "__get__" = some (some (.builtin "getset_descriptor.__get__"))) (htk : PySem.W.takesIn K (.builtin "object.__class__") = some true)
      (hm : PySem.W.mroIn K C (.type "object") = some true) : TyOf K H (.ref a) (.ref C)
/-- isinstance(x, c) for one class c, a built-in or an own one: kitOne's answer -/
theorem isinst_ok {x : V} {u t : Value} (I : Inv X pins σ H s) (rx : RelV x u) (ty : TyOf X.K H x t) (e : PySem.W.kitOne X.K t c = some b) (h : ∀ tk, Q (.bool b) { s with toks := tk }) :
    wpAny (model X.prog X.w) A (call (.builtin "isinstance") [u, c]) Q E s := by
  cases ty with
  | non => cases (show u = Value.none from rx); exact PySem.W.kia_one PySem.W.kitx_none I.kIn True.intro e (fun z => nomatch z) h
  | bl y => cases (show u = Value.bool y from rx); exact PySem.W.kia_one PySem.W.kitx_bool I.kIn True.intro e (fun z => nomatch z) h
  | int i => obtain ⟨t, q⟩ := (show ∃ t, u = Value.int i t from rx); cases q; exact PySem.W.kia_one PySem.W.kitx_int I.kIn True.intro e (fun z => nomatch z) h
  | str y => obtain ⟨t, q⟩ := (show ∃ t, u = Value.str y t from rx); cases q; exact PySem.W.kia_one PySem.W.kitx_str I.kIn True.intro e (fun z => nomatch z) h
  | flt y => obtain ⟨t, q⟩ := (show ∃ t, u = Value.float y t from rx); cases q; exact PySem.W.kia_one PySem.W.kitx_float I.kIn True.intro e (fun z => nomatch z) h
  | @lst a xs ea =>
    cases (show u = Value.ref a from rx)
    obtain ⟨_, _, n, _, h1⟩ := (show ObjOk X.prog X.w H s.heap a (.lst xs) from I.hok a _ ea)
    exact PySem.W.kia_one PySem.W.kitx_list I.kIn ⟨_, h1, rfl⟩ e (fun z => nomatch z) h
  | @frz a ob xs ea =>
    cases (show u = Value.ref a from rx)
    obtain ⟨_, _, _, n, _, h1⟩ := (show ObjOk X.prog X.w H s.heap a (.frz ob (.lst xs)) from I.hok a _ ea)
    exact PySem.W.kia_one PySem.W.kitx_list I.kIn ⟨_, h1, rfl⟩ e (fun z => nomatch z) h
  | @tup a xs ea =>
    cases (show u = Value.ref a from rx)
    obtain ⟨_, _, _, p⟩ := (show ObjOk X.prog X.w H s.heap a (.tup xs) from I.hok a _ ea)
    obtain ⟨o, h1, h2, _⟩ := p
    exact PySem.W.kia_one PySem.W.kitx_tuple I.kIn ⟨o, h1, h2⟩ e (fun z => nomatch z) h
  | @dK a kvs ea =>
    cases (show u = Value.ref a from rx)
    obtain ⟨_, _, vs, _, p⟩ := (show ObjOk X.prog X.w H s.heap a (.dK kvs) from I.hok a _ ea)
    obtain ⟨o, es, ep, h1, h2, _⟩ := p
    exact PySem.W.kia_one PySem.W.kitx_dict I.kIn ⟨o, h1, h2.1⟩ e (fun z => nomatch z) h
  | @dT a kvs ea =>
    cases (show u = Value.ref a from rx)
    obtain ⟨_, _, xs, _, o, es, ep, h1, h2, _⟩ := (show ObjOk X.prog X.w H s.heap a (.dT kvs) from I.hok a _ ea)
    exact PySem.W.kia_one PySem.W.kitx_dict I.kIn ⟨o, h1, h2.1⟩ e (fun z => nomatch z) h
  | @ins a C dx fs ea cl ha hn htk hm =>
    cases (show u = Value.ref a from rx)
    obtain ⟨mA, O, _⟩ := ins_get I.hok ea
    obtain ⟨od, J, _⟩ := O.look
    exact PySem.W.kia_one (PySem.W.kitx_own (cl.get _) cl.hd ha hn htk hm) I.kIn J e (fun z => nomatch z) h
end
end L2

namespace L2
open PySem PySem.Spec PyProof.Rows

/-! ### room -/
structure Room (k : Nat) (A : Around) : Prop where
  hd : A.handled = none
  dp : A.depth + 3 * k + 5 < recursionLimit
  un : A.units + 16 * k + 200 < cLine
theorem Room.mono {j k : Nat} {A : Around} (r : Room k A) (h : j ≤ k) : Room j A := ⟨r.hd, by have := r.dp; omega, by have := r.un; omega⟩
theorem Room.deeper {k : Nat} {A : Around} (r : Room (k + 1) A) (env : Env) : Room k (A.deeper env) :=
  ⟨r.hd, by have := r.dp; show A.depth + 1 + 3 * k + 5 < _; omega, by have := r.un; show A.units + 3 + 16 * k + 200 < _; omega⟩
theorem Room.in1 {k : Nat} {A : Around} (r : Room (k + 1) A) : Room k A.in1 :=
  ⟨r.hd, by have := r.dp; show A.depth + 3 * k + 5 < _; omega, by have := r.un; show A.units + 1 + 16 * k + 200 < _; omega⟩
theorem make_depth {A : Around} {C : Addr} {us : List Value} {kw : List (Str × Value)} : (A.under (.builtin "type.__call__" ⟨.ref C :: us, kw⟩)).depth = A.depth + 1 := by
  first | rfl | simp [Around.under, Code.weight, Code.isCreation, Code.isGuard, Code.isCaller, Code.frames, Code.isFrame, guardIds]
theorem make_units {A : Around} {C : Addr} {us : List Value} {kw : List (Str × Value)} : (A.under (.builtin "type.__call__" ⟨.ref C :: us, kw⟩)).units = A.units + 1 := by
  first | rfl | simp [Around.under, Code.cUnits, Code.frames, Code.isFrame]
theorem Room.make {k : Nat} {A : Around} (r : Room (k + 1) A) (C : Addr) (us : List Value) (kw : List (Str × Value)) : Room k (A.under (.builtin "type.__call__" ⟨.ref C :: us, kw⟩)) :=
  ⟨r.hd, by have := r.dp; rw [make_depth]; omega, by have := r.un; rw [make_units]; omega⟩
theorem Room.depth {k : Nat} {A : Around} (r : Room k A) : A.depth < recursionLimit := by have := r.dp; omega
theorem Room.units {k : Nat} {A : Around} (r : Room k A) : A.units + 64 < cLine := by have := r.un; omega
theorem Room.units0 {k : Nat} {A : Around} (r : Room k A) : A.units < cLine := by have := r.un; omega

/-! ### argument lists and displays -/
def tNil : TA := fun _ H Q => Q [] H
def tCons (ta : TE) (tr : TA) : TA := fun σ H Q => ta σ H fun x H1 => tr σ H1 fun xs H2 => Q (x :: xs) H2
section
variable {X : Cx} {e : Expr} {es : List Expr} {te : TE} {t : TA} {pos : Pos}
theorem pa_nil : PA X [] tNil := fun _ _ _ _ H Q I h => Calls.spliced_nil ⟨[], H, I, .nil, h⟩
theorem pa_cons (ha : PE X e te) (hr : PA X es t) (hs : starEach (e :: es) X.env = (false, eval e X.env) :: starEach es X.env := by rfl) : PA X (e :: es) (tCons te t) := by
  intro pos pins s σ H Q I h
  rw [hs]
  show wpAny _ _ (spliced ((false, eval e X.env) :: backTo pos (starEach es X.env))) _ _ s
  refine Calls.spliced_cons (thn (ha pins s σ H _ I h) fun u s1 ⟨x, H1, I1, r1, q1⟩ => ?_)
  exact thn (hr pos pins s1 σ H1 _ I1 q1) fun us s2 ⟨xs, H2, I2, r2, q2⟩ => ⟨x :: xs, H2, I2, .cons r1 r2, q2⟩

/-- a tuple, a list of written items -/
def tTup (t : TA) : TE := fun σ H Q => t σ H fun xs H1 => xs.length ≤ sizeLine ∧ ∀ p, H1 p = none → Q (.ref p) (upd H1 p (.tup xs))
def tLst (t : TA) : TE := fun σ H Q => t σ H fun xs H1 => xs.length ≤ sizeLine ∧ ∀ p, H1 p = none → Q (.ref p) (upd H1 p (.lst xs))
theorem pe_tup {x1} (h : PA X es t) : PE X (.Tuple es x1 pos) (tTup t) := by
  intro pins s σ H Q I hq
  refine wpAny_Tuple_spliced (thn (h pos pins s σ H _ I hq) fun us s1 ⟨xs, H1, I1, r, z, q⟩ => ⟨by rw [← r.length]; exact z, ?_⟩)
  have hf : H1 s1.heap.objs.size = none := I1.hok.fresh (Nat.le_refl _)
  refine ⟨.ref s1.heap.objs.size, upd H1 s1.heap.objs.size (.tup xs), I1.laid (t' := s1.toks) (fun b u e => Heap.get?_push_of_some _ e) (Nat.le_refl _) ?_, rfl, q _ hf⟩
  exact ⟨z, us, r, ⟨_, Heap.get?_push_size _ rfl, rfl, _, rfl⟩⟩
theorem pe_lst (h : PA X es t) : PE X (.List es pos) (tLst t) := by
  intro pins s σ H Q I hq
  refine wpAny_List_spliced (thn (h pos pins s σ H _ I hq) fun us s1 ⟨xs, H1, I1, r, z, q⟩ => ⟨by rw [← r.length]; exact z, ?_⟩)
  have hf : H1 s1.heap.objs.size = none := I1.hok.fresh (Nat.le_refl _)
  refine ⟨.ref s1.heap.objs.size, upd H1 s1.heap.objs.size (.lst xs), I1.laid (t' := s1.toks) (fun b u e => Heap.get?_push_of_some _ e) (Nat.le_refl _) ?_, rfl, q _ hf⟩
  exact ⟨z, us, 0, r, Heap.get?_push_size _ rfl⟩
end

/-! ### what a def promises -/
/-- a def's promise: the bound arguments in the parameters' order, the heap, the wanted end, the wanted exception -/
abbrev Sp := List V → Hp → VK → XK → Prop
/-- how an exception lies behind a call (file 08 gives it): the callers' frames, abstract heap and state ahead of the call, the wish, the exception, the state -/
abbrev CXT := List Env → Hp → Shared → XK → Value → Shared → Prop

/-- the state at a call -/
structure Env0 (P : Program) (w : World) (K : PySem.W.Frag) (mg : Str → Option Value) (base : Heap) (A : Around) (outer : List Env) (s : Shared) (H : Hp) : Prop where
  frames : A.frames = some outer
  mod : Mod K mg base
  bs : ∀ b o, base.get? b = some o → s.heap.get? b = some o ∧ H b = none
  bsz : base.objs.size ≤ s.heap.objs.size
  funs : s.heap.FunFrames base outer
  frf : ∀ b ∈ frs outer, H b = none
  hok : HOk P w H s.heap
  bare : AllBare s.gens
/-- a call's end -/
def CE (outer : List Env) (P : Program) (w : World) (H : Hp) (s : Shared) (Q : VK) (u : Value) (s' : Shared) : Prop :=
  ∃ v H', s'.os = s.os ∧ AllBare s'.gens ∧ Un (frs outer) [] H H' s.heap s'.heap ∧ HOk P w H' s'.heap ∧ RelV v u ∧ Q v H'
def CR (CX : CXT) (outer : List Env) (P : Program) (w : World) (H : Hp) (s : Shared) (Q : VK) (E : XK) (r : Result) (s' : Shared) : Prop :=
  match r with
  | .ok (.ret u) => CE outer P w H s Q u s'
  | .ok _ => False
  | .error e => CX outer H s E e s'
structure FnOk (P : Program) (w : World) (K : PySem.W.Frag) (mg : Str → Option Value) (base : Heap) (CX : CXT) (k : Nat) (f : Addr) (fd : FuncData) (ps : List Str) (sp : Sp) : Prop where
  len : ∀ vs H Q E, sp vs H Q E → vs.length = ps.length
  run : ∀ (A : Around) (outer : List Env) (s : Shared) (H : Hp) (args : Args) (us : List Value) (vs : List V) (Q : VK) (E : XK), Room k A → Env0 P w K mg base A outer s H → BindsTo s fd args (ps.zip us) → Vals vs us → sp vs H Q E →
    codeAny (model P w) A (.call (.ref f) args) (CR CX outer P w H s Q E) s
theorem FnOk.mono {P : Program} {w : World} {K : PySem.W.Frag} {mg : Str → Option Value} {base : Heap} {CX : CXT} {j k : Nat} {f : Addr} {fd : FuncData} {ps : List Str} {sp : Sp} (F : FnOk P w K mg base CX j f fd ps sp) (h : j ≤ k) :
    FnOk P w K mg base CX k f fd ps sp := ⟨F.len, fun A outer s H args us vs Q E hr => F.run A outer s H args us vs Q E (hr.mono h)⟩
/-- a weaker promise -/
theorem FnOk.imp {P : Program} {w : World} {K : PySem.W.Frag} {mg : Str → Option Value} {base : Heap} {CX : CXT} {k : Nat} {f : Addr} {fd : FuncData} {ps : List Str} {sp sp' : Sp} (F : FnOk P w K mg base CX k f fd ps sp)
    (h : ∀ vs H Q E, sp' vs H Q E → sp vs H Q E) : FnOk P w K mg base CX k f fd ps sp' :=
  ⟨fun vs H Q E q => F.len vs H Q E (h _ _ _ _ q), fun A outer s H args us vs Q E hr he hb hv hs => F.run A outer s H args us vs Q E hr he hb hv (h _ _ _ _ hs)⟩

theorem Env0.make {P : Program} {w : World} {K : PySem.W.Frag} {mg : Str → Option Value} {base : Heap} {A : Around} {outer : List Env} {s : Shared} {H : Hp} (e : Env0 P w K mg base A outer s H) (C : Addr) (us : List Value) (kw : List (Str × Value)) :
    Env0 P w K mg base (A.under (.builtin "type.__call__" ⟨.ref C :: us, kw⟩)) outer s H := ⟨by first | exact e.frames | (simpa [Around.under, Code.envs, Code.isFrame, pushEnvs] using e.frames), e.mod, e.bs, e.bsz, e.funs, e.frf, e.hok, e.bare⟩
theorem Env0.in1 {P : Program} {w : World} {K : PySem.W.Frag} {mg : Str → Option Value} {base : Heap} {A : Around} {outer : List Env} {s : Shared} {H : Hp} (e : Env0 P w K mg base A outer s H) :
    Env0 P w K mg base A.in1 outer s H := ⟨e.frames, e.mod, e.bs, e.bsz, e.funs, e.frf, e.hok, e.bare⟩

section
variable {X : Cx} {pins : List (Addr × Obj)} {σ : St} {H : Hp} {s s' : Shared}
/-- from a body: what a callee wants -/
theorem Inv.env0 (I : Inv X pins σ H s) : Env0 X.prog X.w X.K X.mg X.base X.A X.stack s H :=
  ⟨I.ok.frames, I.ok.mod, I.bs, Nat.le_trans I.ok.bsz I.sz, I.stack, I.stkFree, I.hok, I.bare⟩
/-- behind a call -/
theorem Inv.after {Q : VK} {u : Value} (I : Inv X pins σ H s) (h : CE X.stack X.prog X.w H s Q u s') : EP X pins σ Q u s' := by
  obtain ⟨v, H', os, bare, un, hok, r, q⟩ := h
  obtain ⟨hh, g, d, t, os'⟩ := s'
  obtain rfl : os' = s.os := os
  exact ⟨v, H', I.call (h' := hh) (g' := g) (d' := d) (t' := t) (ch := []) un hok bare (fun b z => absurd z (by simp)), r, q⟩
end

/-! ### calls -/
/-- f(..): the written arguments, then the defaults dvs; E: what is wanted of an exception -/
def tCall (sp : Sp) (dvs : List V) (E : XK) (t : TA) : TE := fun σ H Q => t σ H fun vs H1 => sp (vs ++ dvs) H1 Q E
/-- o.m(..) of an instance of the class at C -/
def tMeth (C : Addr) (m : Str) (sp : Sp) (dvs : List V) (E : XK) (ta : TE) (t : TA) : TE := fun σ H Q => ta σ H fun x H1 => ∃ a dx fs, x = .ref a ∧ H1 a = some (.ins C dx fs) ∧ fs.lookup m = none ∧
  t σ H1 fun vs H2 => sp (x :: (vs ++ dvs)) H2 Q E
/-- C(..): a new instance and its dict, then __init__ -/
def tMake (C : Addr) (sp : Sp) (dvs : List V) (E : XK) (t : TA) : TE := fun σ H Q => t σ H fun vs H1 => ∀ x dx, H1 x = none → H1 dx = none → dx ≠ x →
  sp (.ref x :: (vs ++ dvs)) (upd (upd H1 dx (.own x)) x (.ins C dx [])) (fun v H2 => v = .non ∧ Q (.ref x) H2) E

/-- how the parameters are bound: us the positional arguments, kw the keywords' values by name, ds the defaults that fill up -/
def Binds (K : PySem.W.Frag) (fd : FuncData) (ps : List Str) (ds : List Value) : Prop :=
  ∀ (s : Shared) (us : List Value), K.In s.heap → (us ++ ds).length = ps.length → BindsTo s fd ⟨us, []⟩ (ps.zip (us ++ ds))
/-- every parameter is given -/
theorem Binds.all {K : PySem.W.Frag} {fd : FuncData} {ps : List Str} (h : ∀ us : List Value, us.length = ps.length → bindArgs fd ⟨us, []⟩ = pure (ps.zip us)) : Binds K fd ps [] := fun s us _ hl => by
  rw [List.append_nil] at hl ⊢
  exact .of_eq (h us hl)

/-- an exception of a callee reaches what this body wants of exceptions -/
def Passes (CX : CXT) (X : Cx) (E : XK) : Prop := ∀ (pins : List (Addr × Obj)) (σ : St) (H : Hp) (s : Shared) (e : Value) (s' : Shared), Inv X pins σ H s → CX X.stack H s E e s' → X.xe e s'

section
variable {X : Cx} {CX : CXT} {k : Nat} {f C : Addr} {fd : FuncData} {ps : List Str} {sp : Sp} {dvs : List V} {ds : List Value} {E : XK} {x m : Str} {p pos apos : Pos} {e o : Expr} {es : List Expr} {ta : TE} {t : TA}

/-- the callee runs -/
theorem run_fn {pins : List (Addr × Obj)} {σ : St} {H : Hp} {s : Shared} {Q : VK} {us : List Value} {vs : List V} (F : FnOk X.prog X.w X.K X.mg X.base CX k f fd ps sp) (hr : Room k X.A) (hb : Binds X.K fd ps ds) (hd : Vals dvs ds) (hx : Passes CX X E)
    (I : Inv X pins σ H s) (r : Vals vs us) (h : sp (vs ++ dvs) H Q E) : wpAny (model X.prog X.w) X.A (call (.ref f) us) (EP X pins σ Q) X.xe s := by
  have r2 : Vals (vs ++ dvs) (us ++ ds) := r.append hd
  have hl : (us ++ ds).length = ps.length := by rw [← r2.length]; exact F.len _ _ _ _ h
  refine wpAny_call (codeAny_mono (F.run X.A X.stack s H ⟨us, []⟩ (us ++ ds) (vs ++ dvs) Q E hr I.env0 (hb s us I.kIn hl) r2 h) fun r s' hq => ?_)
  cases r with
  | error e => exact hx pins σ H s e s' I hq
  | ok fl =>
    cases fl with
    | ret u => exact I.after hq
    | next => exact False.elim hq
    | brk => exact False.elim hq
    | cont => exact False.elim hq

theorem pe_call (F : FnOk X.prog X.w X.K X.mg X.base CX k f fd ps sp) (hr : Room k X.A) (hg : Gl X x) (hm : X.mg x = some (.ref f)) (hk : PySem.W.keepIn X.K (.ref f) = true) (hb : Binds X.K fd ps ds) (hd : Vals dvs ds) (hx : Passes CX X E)
    (ha : PA X (e :: es) t) (hdb : (x == ("__debug__" : Str)) = false := by decide) (he : starEach (e :: es) X.env = (false, eval e X.env) :: starEach es X.env := by rfl) (hpl : (backTo pos (starEach es X.env)).any (·.1) = false := by rfl) :
    PE X (.Call (.Name x p) (e :: es) [] pos) (tCall sp dvs E t) := by
  intro pins s σ H Q I h
  refine wpAny_Call_Name_kw (ld_glob I hg hm ?_ hdb)
  refine PySem.W.callWith_K (h₀ := X.base) I.ok.mod.kin hk (thn (ha pos pins s σ H _ I h) fun us s1 ⟨vs, H1, I1, r, q⟩ => ⟨I1.kIn, ?_⟩) he hpl
  exact run_fn F hr hb hd hx I1 r q
theorem pe_call0 (F : FnOk X.prog X.w X.K X.mg X.base CX k f fd ps sp) (hr : Room k X.A) (hg : Gl X x) (hm : X.mg x = some (.ref f)) (hk : PySem.W.keepIn X.K (.ref f) = true) (hb : Binds X.K fd ps ds) (hd : Vals dvs ds) (hx : Passes CX X E)
    (hdb : (x == ("__debug__" : Str)) = false := by decide) : PE X (.Call (.Name x p) [] [] pos) (tCall sp dvs E tNil) := by
  intro pins s σ H Q I h
  refine wpAny_Call_Name_kw (ld_glob I hg hm ?_ hdb)
  exact PySem.W.callWith_K0 I.kIn hk (run_fn (us := []) F hr hb hd hx I .nil h)

/-- o.m(e, ..) -/
theorem pe_meth {pl : Sem Bool} (he : PE X o ta) (c : Cls X.K C) (hm : Meth X.K C m f) (F : FnOk X.prog X.w X.K X.mg X.base CX k f fd ps sp) (hr : Room k X.A) (hb : Binds X.K fd ps ds) (hd : Vals dvs ds) (hx : Passes CX X E) (ha : PA X (e :: es) t)
    (hst : starEach (e :: es) X.env = (false, eval e X.env) :: starEach es X.env := by rfl) (hpl : (backTo pos (starEach es X.env)).any (·.1) = false := by rfl)
    (ht : eval (.Call (.Attribute o m apos) (e :: es) [] pos) X.env = (do
      let ov ← eval o X.env
      standAt apos.atName
      let (f, first) ← holding [ov] (getMethod ov m pl)
      callWith pos f first (backTo pos (starEach (e :: es) X.env)) (backToKw pos (keywordEach [] X.env))) := by rfl) :
    PE X (.Call (.Attribute o m apos) (e :: es) [] pos) (tMeth C m sp dvs E ta t) := by
  intro pins s σ H Q I h
  refine PySem.W.methodCall_KW (pl := pl) (thn (he pins s σ H _ I h) fun u s1 ⟨x, H1, I1, rx, a, dx, fs, ex, ea, l, q⟩ => ?_) ht
  subst ex
  obtain rfl : u = Value.ref a := rx
  refine getmeth_ok I1 ea c hm l ?_
  refine PySem.W.callWith_K (first := [.ref a]) (h₀ := X.base) I.ok.mod.kin hm.kp (thn (ha pos pins s1 σ H1 _ I1 q) fun us s2 ⟨vs, H2, I2, r, q2⟩ => ⟨I2.kIn, ?_⟩) hst hpl
  exact run_fn (us := .ref a :: us) (vs := .ref a :: vs) F hr hb hd hx I2 (.cons rfl r) q2
/-- o.m() -/
theorem pe_meth0 {pl : Sem Bool} (he : PE X o ta) (c : Cls X.K C) (hm : Meth X.K C m f) (F : FnOk X.prog X.w X.K X.mg X.base CX k f fd ps sp) (hr : Room k X.A) (hb : Binds X.K fd ps ds) (hd : Vals dvs ds) (hx : Passes CX X E)
    (ht : eval (.Call (.Attribute o m apos) [] [] pos) X.env = (do
      let ov ← eval o X.env
      standAt apos.atName
      let (f, first) ← holding [ov] (getMethod ov m pl)
      callWith pos f first (backTo pos (starEach [] X.env)) (backToKw pos (keywordEach [] X.env))) := by rfl) :
    PE X (.Call (.Attribute o m apos) [] [] pos) (tMeth C m sp dvs E ta tNil) := by
  intro pins s σ H Q I h
  refine PySem.W.methodCall_KW (pl := pl) (thn (he pins s σ H _ I h) fun u s1 ⟨x, H1, I1, rx, a, dx, fs, ex, ea, l, q⟩ => ?_) ht
  subst ex
  obtain rfl : u = Value.ref a := rx
  refine getmeth_ok I1 ea c hm l ?_
  exact PySem.W.callWith_K0 (first := [.ref a]) I1.kIn hm.kp (run_fn (us := [.ref a]) (vs := [.ref a]) F hr hb hd hx I1 (.cons rfl .nil) q)

/-- what a class must have to be made -/
structure Mk (K : PySem.W.Frag) (C f : Addr) : Prop where
  makes : PySem.W.makesIn K C = true
  init : PySem.W.findIn K (.ref C) "__init__" = some (some (.ref f))
  fn : PySem.W.isFn K (.ref f) = true
  kp : PySem.W.keepIn K (.ref C) = true

theorem run_make {pins : List (Addr × Obj)} {σ : St} {H : Hp} {s : Shared} {Q : VK} {us : List Value} {vs : List V} (M : Mk X.K C f) (F : FnOk X.prog X.w X.K X.mg X.base CX k f fd ps sp) (hr : Room (k + 1) X.A) (hb : Binds X.K fd ps ds) (hd : Vals dvs ds)
    (hx : Passes CX X E) (I : Inv X pins σ H s) (r : Vals vs us)
    (h : ∀ x dx, H x = none → H dx = none → dx ≠ x → sp (.ref x :: (vs ++ dvs)) (upd (upd H dx (.own x)) x (.ins C dx [])) (fun v H2 => v = .non ∧ Q (.ref x) H2) E) :
    wpAny (model X.prog X.w) X.A (call (.ref C) us) (EP X pins σ Q) X.xe s := by
  have hq := h (s.heap.objs.size + 1) s.heap.objs.size (I.hok.fresh (Nat.le_succ _)) (I.hok.fresh (Nat.le_refl _)) (Nat.ne_of_lt (Nat.lt_succ_self _))
  have I2 := Inv.made (C := C) I
  have r2 : Vals (V.ref (s.heap.objs.size + 1) :: (vs ++ dvs)) (Value.ref (s.heap.objs.size + 1) :: (us ++ ds)) := .cons rfl (r.append hd)
  have hl : (Value.ref (s.heap.objs.size + 1) :: us ++ ds).length = ps.length := by
    have e := r2.length
    rw [F.len _ _ _ _ hq] at e
    exact e.symm
  refine wpAny_call (make_map (f := f) I.kIn M.makes M.init (beq_iff_eq.mp M.fn) (codeAny_mono (F.run _ X.stack _ _ ⟨Value.ref (s.heap.objs.size + 1) :: us, []⟩ (Value.ref (s.heap.objs.size + 1) :: (us ++ ds)) _ _ E (hr.make C us [])
    (I2.env0.make C us []) (hb _ (Value.ref (s.heap.objs.size + 1) :: us) I2.kIn hl) r2 hq) fun r s' hq' => ?_))
  cases r with
  | error e => exact hx pins σ _ _ e s' I2 hq'
  | ok fl =>
    cases fl with
    | ret u =>
      obtain ⟨v, H', I3, rv, ev, q3⟩ := I2.after hq'
      subst ev
      exact ⟨rv, ⟨V.ref (s.heap.objs.size + 1), H', I3, rfl, q3⟩⟩
    | next => exact False.elim hq'
    | brk => exact False.elim hq'
    | cont => exact False.elim hq'
theorem pe_make (M : Mk X.K C f) (F : FnOk X.prog X.w X.K X.mg X.base CX k f fd ps sp) (hr : Room (k + 1) X.A) (hg : Gl X x) (hm : X.mg x = some (.ref C)) (hb : Binds X.K fd ps ds) (hd : Vals dvs ds) (hx : Passes CX X E)
    (ha : PA X (e :: es) t) (hdb : (x == ("__debug__" : Str)) = false := by decide) (he : starEach (e :: es) X.env = (false, eval e X.env) :: starEach es X.env := by rfl) (hpl : (backTo pos (starEach es X.env)).any (·.1) = false := by rfl) :
    PE X (.Call (.Name x p) (e :: es) [] pos) (tMake C sp dvs E t) := by
  intro pins s σ H Q I h
  refine wpAny_Call_Name_kw (ld_glob I hg hm ?_ hdb)
  refine PySem.W.callWith_K (h₀ := X.base) I.ok.mod.kin M.kp (thn (ha pos pins s σ H _ I h) fun us s1 ⟨vs, H1, I1, r, q⟩ => ⟨I1.kIn, ?_⟩) he hpl
  exact run_make M F hr hb hd hx I1 r q
theorem pe_make0 (M : Mk X.K C f) (F : FnOk X.prog X.w X.K X.mg X.base CX k f fd ps sp) (hr : Room (k + 1) X.A) (hg : Gl X x) (hm : X.mg x = some (.ref C)) (hb : Binds X.K fd ps ds) (hd : Vals dvs ds) (hx : Passes CX X E)
    (hdb : (x == ("__debug__" : Str)) = false := by decide) : PE X (.Call (.Name x p) [] [] pos) (tMake C sp dvs E tNil) := by
  intro pins s σ H Q I h
  refine wpAny_Call_Name_kw (ld_glob I hg hm ?_ hdb)
  exact PySem.W.callWith_K0 I.kIn M.kp (run_make (us := []) M F hr hb hd hx I .nil h)
end

/-! ### keywords -/
/-- the values of the keywords, from the left -/
def PK (X : Cx) (kws : List Keyword) (t : TA) : Prop :=
  ∀ (pos : Pos) (pins : List (Addr × Obj)) (s : Shared) (σ : St) (H : Hp) (Q : List V → Hp → Prop), Inv X pins σ H s → t σ H Q → wpAny (model X.prog X.w) X.A (evalAll ((backToKw pos (keywordEach kws X.env)).map (·.2))) (AP X pins σ Q) X.xe s
section
variable {X : Cx} {CX : CXT} {k : Nat} {f C : Addr} {fd : FuncData} {ps ks : List Str} {sp : Sp} {E : XK} {x m : Str} {p pos apos kpos : Pos} {e o : Expr} {es : List Expr} {kws : List Keyword} {te ta : TE} {t tk : TA} {nm : Option Str}
theorem pk_nil : PK X [] tNil := fun _ _ _ _ H Q I h => wpAny_evalAll_nil ⟨[], H, I, .nil, h⟩
theorem pk_cons (ha : PE X e te) (hr : PK X kws t) : PK X (⟨nm, e, kpos⟩ :: kws) (tCons te t) := by
  intro pos pins s σ H Q I h
  show wpAny _ _ (evalAll ((do let v ← eval e X.env; standAt pos; pure v) :: (backToKw pos (keywordEach kws X.env)).map (·.2))) _ _ s
  refine wpAny_evalAll_cons (wpAny_bind (thn (ha pins s σ H _ I h) fun u s1 ⟨x, H1, I1, r1, q1⟩ => wpAny_bind (wpAny_standAt (wpAny_pure ?_))))
  exact thn (hr pos pins s1 σ H1 _ I1 q1) fun us s2 ⟨xs, H2, I2, r2, q2⟩ => ⟨x :: xs, H2, I2, .cons r1 r2, q2⟩

/-- how a call with keywords binds: g puts the positional values us and the keywords' values ws (names ks) in the parameters' order, defaults among them -/
structure KBinds (K : PySem.W.Frag) (fd : FuncData) (ps ks : List Str) (g : List Value → List Value → List Value) (gV : List V → List V → List V) : Prop where
  to : ∀ (s : Shared) (us ws : List Value), K.In s.heap → (g us ws).length = ps.length → BindsTo s fd ⟨us, ks.zip ws⟩ (ps.zip (g us ws))
  rel : ∀ {vs : List V} {us : List Value} {zs : List V} {ws : List Value}, Vals vs us → Vals zs ws → Vals (gV vs zs) (g us ws)
def tCallK (sp : Sp) (gV : List V → List V → List V) (E : XK) (t tk : TA) : TE := fun σ H Q => t σ H fun vs H1 => tk σ H1 fun zs H2 => sp (gV vs zs) H2 Q E
variable {g : List Value → List Value → List Value} {gV : List V → List V → List V}
theorem run_fnk {pins : List (Addr × Obj)} {σ : St} {H : Hp} {s : Shared} {Q : VK} {us ws : List Value} {vs zs : List V} (F : FnOk X.prog X.w X.K X.mg X.base CX k f fd ps sp) (hr : Room k X.A) (hb : KBinds X.K fd ps ks g gV) (hx : Passes CX X E)
    (I : Inv X pins σ H s) (r : Vals vs us) (rz : Vals zs ws) (h : sp (gV vs zs) H Q E) : wpAny (model X.prog X.w) X.A (call (.ref f) us (ks.zip ws)) (EP X pins σ Q) X.xe s := by
  have r2 := hb.rel r rz
  have hl : (g us ws).length = ps.length := by rw [← r2.length]; exact F.len _ _ _ _ h
  refine wpAny_call (codeAny_mono (F.run X.A X.stack s H ⟨us, ks.zip ws⟩ (g us ws) (gV vs zs) Q E hr I.env0 (hb.to s us ws I.kIn hl) r2 h) fun r s' hq => ?_)
  cases r with
  | error e => exact hx pins σ H s e s' I hq
  | ok fl =>
    cases fl with
    | ret u => exact I.after hq
    | next => exact False.elim hq
    | brk => exact False.elim hq
    | cont => exact False.elim hq
/-- f(e, .., k = v, ..) -/
theorem pe_callK (F : FnOk X.prog X.w X.K X.mg X.base CX k f fd ps sp) (hr : Room k X.A) (hg : Gl X x) (hm : X.mg x = some (.ref f)) (hk : PySem.W.keepIn X.K (.ref f) = true) (hb : KBinds X.K fd ps ks g gV) (hx : Passes CX X E)
    (ha : PA X (e :: es) t) (hkw : PK X kws tk) (hall : (backToKw pos (keywordEach kws X.env)).all (·.1.isSome) = true := by rfl) (hks : (backToKw pos (keywordEach kws X.env)).filterMap (·.1) = ks := by rfl)
    (hdb : (x == ("__debug__" : Str)) = false := by decide) (he : starEach (e :: es) X.env = (false, eval e X.env) :: starEach es X.env := by rfl)
    (hpl : ((backTo pos (starEach (e :: es) X.env)).any (·.1) || (backToKw pos (keywordEach kws X.env)).any (·.1.isNone)) = false := by rfl) :
    PE X (.Call (.Name x p) (e :: es) kws pos) (tCallK sp gV E t tk) := by
  intro pins s σ H Q I h
  refine wpAny_Call_Name_kw (ld_glob I hg hm ?_ hdb)
  refine PySem.W.callWith_KW (h₀ := X.base) I.ok.mod.kin hk hall (thn (ha pos pins s σ H _ I h) fun us s1 ⟨vs, H1, I1, r, q⟩ => ?_) hpl he
  refine thn (hkw pos pins s1 σ H1 _ I1 q) fun ws s2 ⟨zs, H2, I2, rz, q2⟩ => ⟨I2.kIn, ?_⟩
  rw [hks]
  exact run_fnk F hr hb hx I2 r rz q2
end

/-! ### a def's body keeps its promise -/
/-- names: the parameters first -/
structure FnScope (N P : List Str) (sc : Scope) : Prop where
  kind : sc.kind = .function
  co : sc.isCoroutine = false
  gen : sc.isGenerator = false
  nd : N.Nodup
  pre : N.take P.length = P
  par : ∀ x ∈ P, sc.names.lookup x = some .local ∨ sc.names.lookup x = some .cell
  nofree : ∀ y ∈ sc.names, y.2 ≠ .free

theorem bindL_out {kindOf : Str → Option NameKind} {x : Str} : ∀ {binds : List (Str × Value)} {m : Str → Option Value}, (∀ v, (x, v) ∉ binds) → bindL kindOf binds m x = m x
  | [], _, _ => rfl
  | (n, v) :: r, m, h => by
    unfold bindL
    rw [bindL_out fun w hw => h w (List.mem_cons_of_mem _ hw)]
    split
    · have : x ≠ n := by rintro rfl; exact h v List.mem_cons_self
      simp [this]
    · rfl
theorem bindC_out {kindOf : Str → Option NameKind} {x : Str} : ∀ {binds : List (Str × Value)} {m : Str → Option Value}, (∀ v, (x, v) ∉ binds) → bindC kindOf binds m x = m x
  | [], _, _ => rfl
  | (n, v) :: r, m, h => by
    unfold bindC
    rw [bindC_out fun w hw => h w (List.mem_cons_of_mem _ hw)]
    split
    · rfl
    · have : x ≠ n := by rintro rfl; exact h v List.mem_cons_self
      simp [this]
theorem bindL_get {kindOf : Str → Option NameKind} {x : Str} {v : Value} : ∀ {P : List Str} {vs : List Value} {i : Nat} {m : Str → Option Value}, P.Nodup → P[i]? = some x → vs[i]? = some v → kindOf x = some .local →
    bindL kindOf (P.zip vs) m x = some v
  | [], _, _, _, _, h, _, _ => by simp at h
  | _ :: _, [], _, _, _, _, h, _ => by simp at h
  | p :: P, w :: vs, 0, m, nd, h1, h2, hk => by
    simp at h1 h2; subst h1; subst h2
    show bindL kindOf ((p, w) :: P.zip vs) m p = _
    unfold bindL
    rw [bindL_out fun v hv => (List.nodup_cons.mp nd).1 (List.of_mem_zip hv).1, if_pos hk]
    simp
  | p :: P, w :: vs, i + 1, m, nd, h1, h2, hk => by
    show bindL kindOf ((p, w) :: P.zip vs) m x = _
    unfold bindL
    exact bindL_get (i := i) (List.nodup_cons.mp nd).2 (by simpa using h1) (by simpa using h2) hk
theorem bindC_get {kindOf : Str → Option NameKind} {x : Str} {v : Value} : ∀ {P : List Str} {vs : List Value} {i : Nat} {m : Str → Option Value}, P.Nodup → P[i]? = some x → vs[i]? = some v → kindOf x ≠ some .local →
    bindC kindOf (P.zip vs) m x = some v
  | [], _, _, _, _, h, _, _ => by simp at h
  | _ :: _, [], _, _, _, _, h, _ => by simp at h
  | p :: P, w :: vs, 0, m, nd, h1, h2, hk => by
    simp at h1 h2; subst h1; subst h2
    show bindC kindOf ((p, w) :: P.zip vs) m p = _
    unfold bindC
    rw [bindC_out fun v hv => (List.nodup_cons.mp nd).1 (List.of_mem_zip hv).1, if_neg hk]
    simp
  | p :: P, w :: vs, i + 1, m, nd, h1, h2, hk => by
    show bindC kindOf ((p, w) :: P.zip vs) m x = _
    unfold bindC
    exact bindC_get (i := i) (List.nodup_cons.mp nd).2 (by simpa using h1) (by simpa using h2) hk

/-- the names' values at the entry -/
def start (N : List Str) (vs : List V) : St := vs.map some ++ List.replicate (N.length - vs.length) none

/-- the context of a def's body, at its entry; an exception leaves the frame, then lies as CX says -/
def cxOf (CX : CXT) (P : Program) (w : World) (K : PySem.W.Frag) (mg : Str → Option Value) (base : Heap) (N : List Str) (qual : Str) (scope : Scope) (f : Addr) (cd : Value) (A : Around) (outer : List Env) (s : Shared) (H : Hp) (E : XK) : Cx where
  prog := P
  w := w
  K := K
  mg := mg
  base := base
  A := A.deeper (envOfC qual scope s.heap.objs.size f cd)
  N := N
  s₀ := s
  H₀ := H
  env := envOfC qual scope s.heap.objs.size f cd
  outer := outer
  stack := envOfC qual scope s.heap.objs.size f cd :: outer
  ex := []
  calm := true
  fn := fun _ => true
  pn := []
  xe := fun e s' => wpAny (model P w) (A.deeper (envOfC qual scope s.heap.objs.size f cd)) (leaving (envOfC qual scope s.heap.objs.size f cd) e) (fun _ s'' => CX outer H s E e s'') (fun e' s'' => CX outer H s E e' s'') s'

theorem cell_has {sc : Scope} {n : Nat} {x : Str} (h : sc.names.lookup x = some .cell) : ∃ c, (cellsFrom n sc.names []).lookup x = some c := by
  have q := PySem.W.cellsFrom_some sc.names n [] (.inl h)
  exact Option.isSome_iff_exists.mp q

theorem inv_start {CX : CXT} {P : Program} {w : World} {K : PySem.W.Frag} {mg : Str → Option Value} {base : Heap} {N ps : List Str} {qual : Str} {scope : Scope} {f : Addr} {cd : Value} {A : Around} {outer : List Env} {s s1 : Shared} {H : Hp} {E : XK} {us : List Value} {vs : List V}
    (S : FnScope N ps scope) (hd : A.handled = none) (e0 : Env0 P w K mg base A outer s H) (hl : vs.length = ps.length) (r : Vals vs us)
    (x : InCallC s s.heap.objs.size (bindL (envOfC qual scope s.heap.objs.size f cd).kindOf (ps.zip us) fun _ => none) (cellsFrom (s.heap.objs.size + 1) scope.names []) (bindC (envOfC qual scope s.heap.objs.size f cd).kindOf (ps.zip us) fun _ => none) s1) :
    Inv (cxOf CX P w K mg base N qual scope f cd A outer s H E) [] (start N vs) H s1 := by
  have hpl : ps.length ≤ N.length := by have := congrArg List.length S.pre; rw [List.length_take] at this; omega
  obtain ⟨h1, tk, rfl, hk⟩ := x.done
  have noA : ∀ b : Addr, b ∉ (cxOf CX P w K mg base N qual scope f cd A outer s H E).ex := fun b z => absurd (show b ∈ ([] : List Addr) from z) (by simp)
  refine ⟨⟨e0.mod, S.kind, rfl, rfl, Nat.le_refl _, fun y z c h1 h2 => ?_, fun y hy => ?_, fun y c _ h => ?_, fun _ => hd, Around.frames_deeper e0.frames, .inr ⟨rfl, rfl⟩, fun b z => absurd z (noA b), e0.bs, e0.bsz, fun b _ _ => noA b, fun b z => absurd z (noA b), e0.funs, e0.frf⟩,
    rfl, e0.bare, Un.kept hk, ⟨_, x.toInCall.ns, fun i y v h1 h2 h3 => ?_⟩, fun y c h => ⟨_, x.cell y c h⟩, e0.hok.fresh (Nat.le_refl _), fun y c h => ?_, fun p hp => absurd (show p ∈ ([] : List (Addr × Obj)) from hp) (by simp), e0.hok.kept hk, ?_⟩
  · exact name_of_addr x.apart (PySem.mem_of_lookup h1) (PySem.mem_of_lookup h2)
  · have hy : scope.names.lookup y = some .cell ∨ scope.names.lookup y = some .free := hy
    rcases hy with hy | hy
    · exact cell_has hy
    · exact absurd rfl (S.nofree _ (PySem.mem_of_lookup hy))
  · exact Nat.le_of_lt (x.above y c (PySem.mem_of_lookup h))
  · have hi : i < vs.length := by
      unfold start at h2
      by_cases hi : i < vs.length
      · exact hi
      · rw [List.getElem?_append_right (by simpa using hi)] at h2
        rw [List.getElem?_replicate] at h2
        split at h2 <;> cases h2
    have ha : vs[i]? = some v := by
      unfold start at h2
      rw [List.getElem?_append_left (by simpa using hi), List.getElem?_map] at h2
      cases e : vs[i]? with
      | none => rw [e] at h2; cases h2
      | some a => rw [e] at h2; cases h2; rfl
    obtain ⟨u, hu, rv⟩ := r.get ha
    have hp : ps[i]? = some y := by
      rw [← S.pre, List.getElem?_take_of_lt (by omega)]; exact h1
    have ndP : ps.Nodup := by rw [← S.pre]; exact S.nd.sublist (List.take_sublist _ _)
    refine ⟨u, rv, ?_⟩
    rcases S.par y (List.mem_of_getElem? hp) with k | k
    · exact .inl ⟨k, bindL_get ndP hp hu k⟩
    · obtain ⟨c, e⟩ := cell_has (n := s.heap.objs.size + 1) k
      refine .inr ⟨.inl k, c, e, ?_⟩
      have q := x.cell y c e
      rw [bindC_get ndP hp hu (by show scope.names.lookup y ≠ _; rw [k]; decide)] at q
      exact q
  · exact e0.hok.fresh (Nat.le_of_lt (x.above y c (PySem.mem_of_lookup h)))
  · unfold start
    show _ = N.length
    rw [List.length_append, List.length_map, List.length_replicate]
    omega

/-- THE RULE: a def (or a method) of the text, by its body. The body's reading t is chosen for each entry; it is run at the parameters' values -/
theorem fn_of {CX : CXT} {P : Program} {w : World} {K : PySem.W.Frag} {mg : Str → Option Value} {base : Heap} {k : Nat} {f : Addr} {name qual : Str} {params : Arguments} {body : List Stmt} {scope : Scope} {dV kV doc pm cdv ct oc : Value} {an od : Option Addr}
    {osl : Array (Option Value)} {N ps : List Str} {sp : Sp} (lk : K.lookup f = some ⟨oc, od, .func (PySem.W.fnOf name qual params body scope dV kV doc pm an cdv ct), osl⟩) (hcd : PySem.W.codeIn K cdv qual = true) (S : FnScope N ps scope)
    (len : ∀ vs H Q E, sp vs H Q E → vs.length = ps.length)
    (hbody : ∀ (A : Around) (outer : List Env) (s : Shared) (H : Hp) (vs : List V) (Q : VK) (E : XK), Room k (A.deeper (envOfC qual scope s.heap.objs.size f cdv)) → sp vs H Q E →
      ∃ t, PSs (cxOf CX P w K mg base N qual scope f cdv A outer s H E) body t ∧ t { nx := fun _ H' => Q .non H', rt := Q } (start N vs) H) :
    FnOk P w K mg base CX (k + 1) f (PySem.W.fnOf name qual params body scope dV kV doc pm an cdv ct) ps sp := by
  refine ⟨len, fun A outer s H args us vs Q E hr e0 hb r hsp => ?_⟩
  have hl := len _ _ _ _ hsp
  have KX : K.In s.heap := e0.mod.kin.keeps fun b o e => (e0.bs b o e).1
  have lim : s.heap.NoLimit := e0.mod.nolimit.keeps fun b o e => (e0.bs b o e).1
  have hkind : ∀ y ∈ ps.zip us, scope.names.lookup y.1 = some .local ∨ (scope.names.lookup y.1 = some .cell ∧ ((cellsFrom (s.heap.objs.size + 1) scope.names []).lookup y.1).isSome = true) := fun ⟨n, v⟩ hy => by
    rcases S.par n (List.of_mem_zip hy).1 with q | q
    · exact .inl q
    · exact .inr ⟨q, PySem.W.cellsFrom_some _ _ _ (.inl q)⟩
  refine codeAny_call_function hr.depth (KX _ _ lk) rfl S.co S.gen rfl (PySem.W.codeRec_of KX hcd) (hb _ _ _ _ ?_)
  refine wpAny_newFunctionEnv_cells S.kind hkind fun env he s1 x => ?_
  subst he
  refine ⟨lim.keeps x.toInCall.keep, codeAny_func ?_⟩
  obtain ⟨t, ht, hq⟩ := hbody A outer s H vs Q E (hr.deeper _) hsp
  have I : Inv (cxOf CX P w K mg base N qual scope f cdv A outer s H E) [] (start N vs) H s1 := inv_start S hr.hd e0 hl r x
  refine wpAny_mono (ht [] s1 (start N vs) H _ I hq) (fun fl s' hs => ?_) fun e s' hs => hs
  have fin : ∀ {σ' : St} {H' : Hp} {v : V} {u : Value}, Inv (cxOf CX P w K mg base N qual scope f cdv A outer s H E) [] σ' H' s' → RelV v u → Q v H' → CE outer P w H s Q u s' :=
    fun {σ' H' v u} J rv q => ⟨v, H', J.os, J.bare, J.base, J.hok, rv, q⟩
  cases fl with
  | ret u =>
    obtain ⟨v, σ', H', J, rv, q⟩ := hs
    exact fin J rv q
  | next =>
    obtain ⟨σ', H', J, q⟩ := hs
    exact fin (v := V.non) (u := Value.none) J rfl q
  | brk =>
    obtain ⟨_, _, _, q⟩ := hs
    exact False.elim q
  | cont =>
    obtain ⟨_, _, _, q⟩ := hs
    exact False.elim q
end L2

namespace L2
open PySem PySem.Spec PyProof.Rows
section
variable {X : Cx} {x : Str} {p pos : Pos} {e : Expr} {es : List Expr} {t : TA} {id T : String} {r : List V → Hp → VK → Prop}

def tCB (r : List V → Hp → VK → Prop) (t : TA) : TE := fun σ H Q => t σ H fun vs H1 => r vs H1 Q
/-- f(e, ..), f a built-in function -/
theorem pe_callB (hc : CallR X (.builtin id) r) (hg : Gl X x) (hm : X.mg x = none) (hv : bootBuiltins x = some (.builtin id)) (ha : PA X (e :: es) t) (hn : x ≠ "__name__" := by decide) (hdb : (x == ("__debug__" : Str)) = false := by decide)
    (he : starEach (e :: es) X.env = (false, eval e X.env) :: starEach es X.env := by rfl) (hpl : (backTo pos (starEach es X.env)).any (·.1) = false := by rfl) : PE X (.Call (.Name x p) (e :: es) [] pos) (tCB r t) := by
  intro pins s σ H Q I h
  refine wpAny_Call_Name_kw (ld_blt I hg hm hv ?_ hn hdb)
  exact PyProof.Rows.callWith_builtin1 (thn (ha pos pins s σ H _ I h) fun us s1 ⟨vs, H1, I1, r1, q1⟩ => hc pins s1 σ H1 vs us Q I1 r1 q1) he hpl
/-- T(e, ..), T a built-in type -/
theorem pe_callTy (hc : CallR X (.type T) r) (hg : Gl X x) (hm : X.mg x = none) (hv : bootBuiltins x = some (.type T)) (ha : PA X (e :: es) t) (hn : x ≠ "__name__" := by decide) (hdb : (x == ("__debug__" : Str)) = false := by decide)
    (he : starEach (e :: es) X.env = (false, eval e X.env) :: starEach es X.env := by rfl) (hpl : (backTo pos (starEach es X.env)).any (·.1) = false := by rfl) : PE X (.Call (.Name x p) (e :: es) [] pos) (tCB r t) := by
  intro pins s σ H Q I h
  refine wpAny_Call_Name_kw (ld_blt I hg hm hv ?_ hn hdb)
  exact PyProof.Rows.callWith_type1 (thn (ha pos pins s σ H _ I h) fun us s1 ⟨vs, H1, I1, r1, q1⟩ => hc pins s1 σ H1 vs us Q I1 r1 q1) he hpl
/-- T() -/
theorem pe_callTy0 (hc : CallR X (.type T) r) (hg : Gl X x) (hm : X.mg x = none) (hv : bootBuiltins x = some (.type T)) (hn : x ≠ "__name__" := by decide) (hdb : (x == ("__debug__" : Str)) = false := by decide) :
    PE X (.Call (.Name x p) [] [] pos) (tCB r tNil) := by
  intro pins s σ H Q I h
  refine wpAny_Call_Name_kw (ld_blt I hg hm hv ?_ hn hdb)
  exact PyProof.Rows.callWith_type0 (hc pins s σ H [] [] Q I .nil h)
end
end L2

namespace HT
open PySem PyProof.Rows

/-- t < u of tuples of ints -/
def lexLt : List Int → List Int → Bool
  | [], [] => false
  | [], _ :: _ => true
  | _ :: _, [] => false
  | x :: xs, y :: ys => if x = y then lexLt xs ys else decide (x < y)
theorem lexLt_cons (x y : Int) (xs ys : List Int) : lexLt (x :: xs) (y :: ys) = if x = y then lexLt xs ys else decide (x < y) := rfl
theorem lexLt_nil_nil : lexLt [] [] = false := rfl
theorem lexLt_nil_cons (y : Int) (ys : List Int) : lexLt [] (y :: ys) = true := rfl
theorem lexLt_cons_nil (x : Int) (xs : List Int) : lexLt (x :: xs) [] = false := rfl

theorem eqAt_int (A : Around) (s : Shared) (a : Int) (t : Tok) (c : Int) (u : Tok) : ∃ e, SeqAt.EqAt A s (.int a t) (.int c u) e ∧ (e = true ↔ a = c) :=
  ⟨(a == c), SeqAt.EqAt.int_int a t c u, by simp⟩
theorem rcLt_int (A : Around) (s : Shared) (a : Int) (t : Tok) (c : Int) (u : Tok) (prog : Program) (w : World) (E : Value → Shared → Prop) (Q : Value → Shared → Prop) (h : Q (.bool (decide (a < c))) s) :
    wpAny (model prog w) A (richCompare .Lt (.int a t) (.int c u)) Q E s :=
  (PyProof.Rows.lt_int h : wpAny (model prog w) A (compareOp .Lt (.int a t) (.int c u)) Q E s)

section
open PySem.SeqAt
open PySem.AutoSeq1 (wpAny_loadPart')
open PySem.MeetsSeq PySem.MeetsSeq2 PySem.MeetsSeq3

theorem tuple_lt_ints (l b : Addr) (items items2 : Array Value) (n n2 : Nat) (dd dd2 : Option Addr) (sl sl2 : Array (Option Value)) (ns ms : List Int) (hi : IntsAre items.toList ns) (hj : IntsAre items2.toList ms) :
    Meets (Builtin.«tuple.__lt__» ⟨[.ref l, .ref b], []⟩)
      (fun _ R s => s.heap.get? l = some { cls := .type "tuple", dict := dd, data := .seq items n, slots := sl } ∧ s.heap.get? b = some { cls := .type "tuple", dict := dd2, data := .seq items2 n2, slots := sl2 } ∧
        R (.ok (.ret (.bool (lexLt ns ms)))) s) :=
  .of_wp fun prog w A R s h => by
    obtain ⟨hp, g, d, tk, os⟩ := s; obtain ⟨hl, hb, h⟩ := h
    have f2 := AutoSeq1.sub_tuple_tuple
    have z1 : items.size = ns.length := by rw [← hi.length]; simp
    have z2 : items2.size = ms.length := by rw [← hj.length]; simp
    wp_walk using wpAny_loadPart' hl, wpAny_loadPart' hb, wpAny_forIn_list _ (fun rest b s' => b.1 = none ∧ s' = ⟨hp, g, d, tk, os⟩ ∧ ∃ (vs ws : List Value) (ns' ms' : List Int), rest = vs.zip ws ∧
      IntsAre vs ns' ∧ IntsAre ws ms' ∧ ns'.length + items2.size = ms'.length + items.size ∧ R (.ok (.ret (.bool (lexLt ns' ms')))) ⟨hp, g, d, tk, os⟩) _
    case turn =>
      rintro ⟨y, x⟩ rest b s' ⟨hb', rfl, vs, ws, ns', ms', hz, hvi, hwi, hlen, hR⟩
      cases hvi with
      | nil => rw [List.zip_nil_left] at hz; cases hz
      | cons a t hvi' =>
        cases hwi with
        | nil => rw [List.zip_nil_right] at hz; cases hz
        | cons c u hwi' =>
          rw [List.zip_cons_cons] at hz
          injection hz with hyx hrest
          injection hyx with hy hx
          subst hy hx
          rw [lexLt_cons] at hR
          simp only [List.length_cons] at hlen
          obtain ⟨e, he, hiff⟩ := eqAt_int A.in1 ⟨hp, g, d, tk, os⟩ a t c u
          refine wpAny_bind (he prog w _ _ ?_)
          cases e with
          | true =>
            rw [if_pos (hiff.mp rfl)] at hR
            wp_walk
            exact ⟨rfl, rfl, _, _, _, _, hrest, hvi', hwi', by omega, hR⟩
          | false =>
            rw [if_neg (fun q => absurd (hiff.mpr q) Bool.false_ne_true)] at hR
            have hri := rcLt_int A.in1 ⟨hp, g, d, tk, os⟩ a t c u prog w
            wp_walk using hri
            exact ⟨_, rfl, by simpa using hR⟩
    case fin =>
      rintro ⟨b1, b2⟩ s' ⟨hb', rfl, vs, ws, ns', ms', hz, hvi, hwi, hlen, hR⟩
      simp only at hb'
      subst hb'
      have hv : lexLt ns' ms' = decide (items.size < items2.size) := by
        cases hvi with
        | nil =>
          cases hwi with
          | nil =>
            simp only [List.length_nil] at hlen
            rw [lexLt_nil_nil]
            exact (decide_eq_false (by omega)).symm
          | cons c u hw =>
            simp only [List.length_nil, List.length_cons] at hlen
            rw [lexLt_nil_cons]
            exact (decide_eq_true (by omega)).symm
        | cons a t hv =>
          cases hwi with
          | nil =>
            simp only [List.length_nil, List.length_cons] at hlen
            rw [lexLt_cons_nil]
            exact (decide_eq_false (by omega)).symm
          | cons c u hw =>
            rw [List.zip_cons_cons] at hz
            cases hz
      rw [hv] at hR
      wp_walk
      exact ⟨_, rfl, by simpa [Builtin.Tuple.tupleCompareSizes] using hR⟩
    case h =>
      exact ⟨rfl, rfl, items.toList, items2.toList, ns, ms, rfl, hi, hj, by omega, h⟩
end

section
variable {prog : Program} {w : World} {A : Around} {E : Value → Shared → Prop} {s : Shared}

theorem lt_tupInts {l b : Addr} {items items2 : Array Value} {ns ms : List Int} {Q : Value → Shared → Prop} (hl : IsTup s.heap l items) (hb : IsTup s.heap b items2) (hi : IntsAre items.toList ns) (hj : IntsAre items2.toList ms)
    (hu : A.units < cLine) (h : Q (.bool (lexLt ns ms)) s) : wpAny (model prog w) A (compareOp .Lt (.ref l) (.ref b)) Q E s := by
  obtain ⟨⟨cls, dd, data, sl⟩, ho, hc, n, hd⟩ := id hl
  obtain ⟨⟨cls2, dd2, data2, sl2⟩, ho2, hc2, n2, hd2⟩ := id hb
  simp only at hc hd hc2 hd2
  subst hc hd hc2 hd2
  exact richCompare_meets_room (op := .Lt) ⟨_, ho, rfl⟩ ⟨_, ho2, rfl⟩ PySem.F.slot_tuple_lt PySem.F.entry_tuple_lt (PySem.F.args_tuple_lt_2 _ _) (tuple_lt_ints l b items items2 n n2 dd dd2 sl sl2 ns ms hi hj)
    ⟨ho, ho2, show Value.bool (lexLt ns ms) ≠ Value.notImplemented ∧ Q (.bool (lexLt ns ms)) s from ⟨(fun x => nomatch x), h⟩⟩ hu

/-- t + u, t not empty -/
theorem cat_tup {t b : Addr} {vs ws : List Value} {Q : Value → Shared → Prop} (ht : IsTup s.heap t vs.toArray) (hb : IsTup s.heap b ws.toArray) (hv : vs ≠ [])
    (h1 : ws = [] → Q (.ref t) s) (h2 : ws ≠ [] → Q (.ref s.heap.objs.size) { s with heap := s.heap.push { cls := .type "tuple", data := .seq (vs ++ ws).toArray } })
    (hsz : vs.length + ws.length ≤ sizeLine) : wpAny (model prog w) A (binaryOp .Add (.ref t) (.ref b)) Q E s := by
  obtain ⟨⟨cls, dd, data, sl⟩, ho, hc, n, hd⟩ := id ht
  obtain ⟨⟨cls2, dd2, data2, sl2⟩, ho2, hc2, n2, hd2⟩ := id hb
  simp only at hc hd hc2 hd2
  subst hc hd hc2 hd2
  have e : vs.toArray ++ ws.toArray = (vs ++ ws).toArray := by simp
  by_cases hw : ws = []
  · exact concat_meets ⟨_, ho, rfl⟩ ⟨_, ho2, rfl⟩ noFill_tuple_add seq_tuple_add PySem.F.slot_tuple_add PySem.F.entry_tuple_add (PySem.F.args_tuple_add_2 _ _)
      (tuple_addW1 t b vs.toArray ws.toArray n n2 dd dd2 sl sl2 (by simpa using hv) (by simp [hw])) ⟨ho, ho2, h1 hw⟩
  · refine concat_meets ⟨_, ho, rfl⟩ ⟨_, ho2, rfl⟩ noFill_tuple_add seq_tuple_add PySem.F.slot_tuple_add PySem.F.entry_tuple_add (PySem.F.args_tuple_add_2 _ _)
      (tuple_addW2 t b vs.toArray ws.toArray n n2 dd dd2 sl sl2 (by simpa using hv) (by simpa using hw) (by rw [List.size_toArray, List.size_toArray]; exact hsz)) ⟨ho, ho2, ?_⟩
    rw [e]
    exact h2 hw

/-! ### t[a:b], not the whole -/
/-- a slice's bound as a place among n (d where it is left out) -/
def sIx (n d : Nat) : Option Int → Nat
  | none => d
  | some v => if v < 0 then (v + (n : Int)).toNat else min v.toNat n
theorem sIx_none (n d : Nat) : sIx n d none = d := rfl
theorem sIx_nat (n d k : Nat) : sIx n d (some (k : Int)) = min k n := by
  show (if (k : Int) < 0 then ((k : Int) + (n : Int)).toNat else min (k : Int).toNat n) = min k n
  rw [if_neg (by omega), Int.toNat_natCast]
theorem sIx_le (n d : Nat) (hd : d ≤ n) (o : Option Int) : sIx n d o ≤ n := by
  cases o with
  | none => exact hd
  | some v =>
    show (if v < 0 then (v + (n : Int)).toNat else min v.toNat n) ≤ n
    by_cases hv : v < 0
    · rw [if_pos hv]; omega
    · rw [if_neg hv]; exact Nat.min_le_right _ _
theorem clip_eq (v : Int) (n d : Nat) : (if v < 0 then max (v + (n : Int)) 0 else min v (n : Int)) = ((sIx n d (some v) : Nat) : Int) := by
  show (if v < 0 then max (v + (n : Int)) 0 else min v (n : Int)) = (((if v < 0 then (v + (n : Int)).toNat else min v.toNat n) : Nat) : Int)
  by_cases hv : v < 0
  · simp only [if_pos hv]; omega
  · simp only [if_neg hv]; omega
theorem adjust_gen (lo hi : Option Int) (n : Nat) : Builtin.Slice.sliceAdjust lo hi 1 (n : Int) = (((sIx n 0 lo : Nat) : Int), ((sIx n n hi : Nat) : Int)) := by
  have h1 : ¬ ((1 : Int) < 0) := by omega
  unfold Builtin.Slice.sliceAdjust
  simp only [h1, if_false]
  refine Prod.ext ?_ ?_
  · cases lo with
    | none => rfl
    | some v => exact clip_eq v n 0
  · cases hi with
    | none => rfl
    | some v => exact clip_eq v n n
theorem places_gen (i j : Nat) : Builtin.Slice.slicePlaces (i : Int) (j : Int) 1 = j - i := by
  unfold Builtin.Slice.slicePlaces
  have h1 : (1 : Int) > 0 := by omega
  simp only [h1, if_true, Int.ediv_one]
  split <;> omega
theorem slicePart_ {v : Value} {o : Option Int} {Q : Option Int → Shared → Prop} (p : IsPart v o) (h : Q o s) : wpAny (model prog w) A (Builtin.Slice.slicePartIndex v) Q E s := by
  cases p with
  | none => exact slicePart_none h
  | int i t => exact slicePart_int h
theorem sliceApplied_gen {sl : Addr} {vl vu : Value} {lo hi : Option Int} {n : Nat} {Q : Int × Int × Nat → Shared → Prop} (hs : s.heap.IsSliceOf sl vl vu .none) (pl : IsPart vl lo) (pu : IsPart vu hi)
    (h : Q (((sIx n 0 lo : Nat) : Int), 1, sIx n n hi - sIx n 0 lo) s) : wpAny (model prog w) A (Builtin.Slice.sliceApplied (.ref sl) (pure (n : Int))) Q E s := by
  obtain ⟨os, hos, hcs, hds⟩ := id hs
  unfold Builtin.Slice.sliceApplied Builtin.Slice.sliceFields
  refine wpAny_bind (wpAny_bind (wpAny_field hos hds (x := vl) rfl (wpAny_bind (wpAny_field hos hds (x := vu) rfl (wpAny_bind (wpAny_field hos hds (x := .none) rfl (wpAny_pure ?_)))))))
  refine wpAny_bind (slicePart_none ?_)
  show wpAny _ _ (if ((1 : Int) == 0) = true then _ else _) _ _ s
  rw [if_neg (by decide)]
  refine wpAny_bind (slicePart_ pl (wpAny_bind (slicePart_ pu (wpAny_bind (wpAny_pure ?_)))))
  show wpAny _ _ (match Builtin.Slice.sliceAdjust lo hi 1 (n : Int) with | (lo, hi) => pure (lo, (1 : Int), Builtin.Slice.slicePlaces lo hi 1)) _ _ s
  rw [adjust_gen lo hi n]
  show wpAny _ _ (pure (((sIx n 0 lo : Nat) : Int), (1 : Int), Builtin.Slice.slicePlaces ((sIx n 0 lo : Nat) : Int) ((sIx n n hi : Nat) : Int) 1)) _ _ s
  rw [places_gen]
  exact wpAny_pure h
theorem pick_gen (xs : Array Value) (i k : Nat) : ((List.range k).filterMap fun (m : Nat) => xs[((i : Int) + (m : Int) * 1).toNat]?).toArray = ((xs.toList.drop i).take k).toArray := by
  have e : (fun (m : Nat) => xs[((i : Int) + (m : Int) * 1).toNat]?) = fun m => xs[i + m]? := by
    funext m
    have : ((i : Int) + (m : Int) * 1).toNat = i + m := by omega
    rw [this]
  rw [e]
  have := pick_run xs i k
  rw [List.filterMap_map] at this
  have e2 : ((fun x => xs[x]?) ∘ fun x => i + x) = fun m => xs[i + m]? := rfl
  rw [e2] at this
  rw [this]

theorem getItem_tuple_cut {t sl : Addr} {items : Array Value} {vl vu : Value} {lo hi : Option Int} {Q : Value → Shared → Prop} (ht : IsTup s.heap t items) (hs : s.heap.IsSliceOf sl vl vu .none) (pl : IsPart vl lo) (pu : IsPart vu hi)
    (hw : ¬ (sIx items.size 0 lo = 0 ∧ sIx items.size items.size hi = items.size))
    (h : Q (.ref s.heap.objs.size) { s with heap := s.heap.push { cls := .type "tuple", data := .seq ((items.toList.drop (sIx items.size 0 lo)).take (sIx items.size items.size hi - sIx items.size 0 lo)).toArray } })
    (hsz : items.size ≤ sizeLine) : wpAny (model prog w) A (getItem (.ref t) (.ref sl)) Q E s := by
  have htake : sizeOk (.seq ((items.toList.drop (sIx items.size 0 lo)).take (sIx items.size items.size hi - sIx items.size 0 lo)).toArray) := by
    show ((items.toList.drop (sIx items.size 0 lo)).take (sIx items.size items.size hi - sIx items.size 0 lo)).toArray.size ≤ sizeLine
    rw [List.size_toArray, List.length_take, List.length_drop, Array.length_toList]
    omega
  have hj : sIx items.size items.size hi ≤ items.size := sIx_le _ _ (Nat.le_refl _) hi
  obtain ⟨os, hos, hcs, hds⟩ := id hs
  have hTs : s.TypeIs (.ref sl) "slice" := ⟨os, hos, hcs⟩
  unfold getItem
  try with_reducible refine wpAny_holding ?_
  first | refine wpAny_bind (wpAny_pure ?_) | skip
  refine wpAny_bind (wpAny_sequenceKey ht.typeIs (by decide) ?_)
  refine wpAny_bind (wpAny_callSpecial?_slot (name := Str.ofString "__getitem__") ht.typeIs PyProof.Rows.slot_tuple_getitem
    (wpAny_call_entry PyProof.Rows.slot_tuple_getitem ht.typeIs entry_tuple_getitem ?_ (args_tuple_getitem _ _)))
  show wpAny _ _ (Builtin.Tuple.tupleItemsOf (.ref t) >>= _) _ _ s
  refine wpAny_bind (tupleItemsOf_ ht ?_)
  refine wpAny_bind (wpAny_typeOf hTs ?_)
  rw [if_pos (by decide)]
  refine wpAny_bind (sliceApplied_gen hs pl pu ?_)
  have hno : ¬ ((((sIx items.size 0 lo : Nat) : Int) == 0 && (1 : Int) == 1 && (sIx items.size items.size hi - sIx items.size 0 lo) == items.size) = true) := by
    intro q
    rw [Bool.and_eq_true, Bool.and_eq_true] at q
    have q1 : ((sIx items.size 0 lo : Nat) : Int) = 0 := eq_of_beq q.1.1
    have q2 : sIx items.size items.size hi - sIx items.size 0 lo = items.size := eq_of_beq q.2
    exact hw ⟨by omega, by omega⟩
  show wpAny _ _ (if (((sIx items.size 0 lo : Nat) : Int) == 0 && (1 : Int) == 1 && (sIx items.size items.size hi - sIx items.size 0 lo) == items.size) = true then _ else _) _ _ s
  rw [if_neg hno, pick_gen]
  first
    | exact wpAny_bind (m := Builtin.Tuple.tupleExact _) (wpAny_newObj_type (wpAny_pure ⟨_, rfl, wpAny_pure h⟩) htake)
    | exact wpAny_bind (m := Builtin.Tuple.tupleExact _) (wpAny_newObj_type (wpAny_bind (wpAny_pure (wpAny_pure ⟨_, rfl, wpAny_pure h⟩))) htake)
    | exact wpAny_bind (wpAny_bind (m := Builtin.Tuple.tupleExact _) (wpAny_newObj_type (wpAny_pure (wpAny_pure ⟨_, rfl, wpAny_pure h⟩)) htake))
    | exact wpAny_bind (wpAny_bind (m := Builtin.Tuple.tupleExact _) (wpAny_newObj_type (wpAny_pure ⟨_, rfl, wpAny_pure h⟩) htake))
end
end HT

namespace L2
open PySem PySem.Spec PyProof.Rows

/-! ### the parts of a slice -/
abbrev TO := St → Hp → (Option Int → Hp → Prop) → Prop
/-- a slice's part (left out, or an int) -/
def PO (X : Cx) (e : Option Expr) (t : TO) : Prop :=
  ∀ (pins : List (Addr × Obj)) (s : Shared) (σ : St) (H : Hp) (Q : Option Int → Hp → Prop), Inv X pins σ H s → t σ H Q →
    wpAny (model X.prog X.w) X.A (evalPart e X.env) (fun u s' => ∃ o H', Inv X pins σ H' s' ∧ IsPart u o ∧ Q o H') X.xe s
def tNoPart : TO := fun _ H Q => Q none H
def tPart (t : TE) : TO := fun σ H Q => t σ H fun x H1 => ∃ i, x = .int i ∧ Q (some i) H1

theorem intsAre_of {ns : List Int} : ∀ {us : List Value}, Vals (ns.map V.int) us → IntsAre us ns := by
  induction ns with
  | nil => intro us r; rw [List.map_nil] at r; cases r; exact .nil
  | cons n ns ih =>
    intro us r
    rw [List.map_cons] at r
    cases r with
    | cons r1 r2 =>
      obtain ⟨t, e⟩ := r1
      subst e
      exact .cons n t (ih r2)

section
variable {X : Cx} {e : Expr} {te : TE} {lo hi : Option Expr} {tl th : TO} {pos p2 : Pos}

theorem po_none : PO X none tNoPart := by
  intro pins s σ H Q I h
  rw [evalPart_none]
  exact wpAny_pure ⟨none, H, I, .none, h⟩
theorem po_some (h : PE X e te) : PO X (some e) (tPart te) := by
  intro pins s σ H Q I hw
  rw [evalPart_some]
  refine thn (h pins s σ H _ I hw) fun u s1 ⟨x, H1, I1, r1, q1⟩ => ?_
  obtain ⟨i, rfl, q⟩ := q1
  obtain ⟨t, rfl⟩ := r1
  exact ⟨some i, H1, I1, .int i t, q⟩

/-- what a slice of a value is, by values: the slice object stands at sl -/
def SlR (X : Cx) (r : V → Option Int → Option Int → Hp → VK → Prop) : Prop :=
  ∀ (pins : List (Addr × Obj)) (s : Shared) (σ : St) (H : Hp) (x : V) (v vl vu : Value) (lo hi : Option Int) (sl : Addr) (Q : VK), Inv X pins σ H s → RelV x v → s.heap.IsSliceOf sl vl vu .none → IsPart vl lo → IsPart vu hi → r x lo hi H Q →
    ∃ T id, typeLookup (.type T) "__getitem__" = pure (some (.builtin id)) ∧ s.TypeIs v T ∧ wpAny (model X.prog X.w) X.A (getItem v (.ref sl)) (EP X pins σ Q) X.xe s
theorem SlR.or {r r' : V → Option Int → Option Int → Hp → VK → Prop} (h : SlR X r) (h' : SlR X r') : SlR X (fun x lo hi H Q => r x lo hi H Q ∨ r' x lo hi H Q) := by
  intro pins s σ H x v vl vu lo hi sl Q I rx hs pl pu q
  rcases q with q | q
  · exact h pins s σ H x v vl vu lo hi sl Q I rx hs pl pu q
  · exact h' pins s σ H x v vl vu lo hi sl Q I rx hs pl pu q
def tSl (r : V → Option Int → Option Int → Hp → VK → Prop) (te : TE) (tl th : TO) : TE := fun σ H Q => te σ H fun x H1 => tl σ H1 fun l H2 => th σ H2 fun u H3 => r x l u H3 Q
/-- a[lo:hi], any a -/
theorem pe_slice {r : V → Option Int → Option Int → Hp → VK → Prop} (hr : SlR X r) (he : PE X e te) (hl : PO X lo tl) (hu : PO X hi th) : PE X (.Subscript e (.Slice lo hi none p2) pos) (tSl r te tl th) := by
  intro pins s σ H Q I h
  refine Subscript_ (thn (he pins s σ H _ I h) fun v s1 ⟨x, H1, I1, r1, q1⟩ => ?_)
  refine wpAny_Slice (thn (hl pins s1 σ H1 _ I1 q1) fun vl s2 ⟨l, H2, I2, pl, q2⟩ => thn (hu pins s2 σ H2 _ I2 q2) fun vu s3 ⟨u, H3, I3, pu, q3⟩ => ?_)
  rw [evalPart_none]
  refine wpAny_pure ?_
  have I4 : Inv X pins σ H3 { s3 with heap := s3.heap.push { cls := .type "slice", data := .fields #[vl, vu, .none] } } := I3.kept (t' := s3.toks) fun b ob q => Heap.get?_push_of_some _ q
  obtain ⟨T, id, hT, ht, hg⟩ := hr pins { s3 with heap := s3.heap.push { cls := .type "slice", data := .fields #[vl, vu, .none] } } σ H3 x v vl vu l u s3.heap.objs.size Q I4 r1 (Heap.IsSliceOf.new ..) pl pu q3
  show wpAny (model X.prog X.w) X.A (subscriptTail e (.Slice lo hi none p2) v (.ref s3.heap.objs.size)) (EP X pins σ Q) X.xe { s3 with heap := s3.heap.push { cls := .type "slice", data := .fields #[vl, vu, .none] } }
  exact tail_any (ops := [.ref s3.heap.objs.size, v]) ht hT hg (by with_unfolding_all rfl)

/-- the items of xs[lo:hi] -/
def cutV (xs : List V) (lo hi : Option Int) : List V := (xs.drop (HT.sIx xs.length 0 lo)).take (HT.sIx xs.length xs.length hi - HT.sIx xs.length 0 lo)
theorem cutV_length (xs : List V) (lo hi : Option Int) : (cutV xs lo hi).length ≤ xs.length := by
  unfold cutV
  rw [List.length_take, List.length_drop]
  omega
/-- t[lo:hi], not the whole of it (the whole would be t itself) -/
def rSlT (K : PySem.W.Frag) : V → Option Int → Option Int → Hp → VK → Prop := fun x lo hi H Q => ∃ a xs, x = .ref a ∧ SqT K H a xs ∧
  ¬ (HT.sIx xs.length 0 lo = 0 ∧ HT.sIx xs.length xs.length hi = xs.length) ∧ ∀ p, H p = none → Q (.ref p) (upd H p (.tup (cutV xs lo hi)))
theorem sl_tup : SlR X (rSlT X.K) := by
  intro pins s σ H x v vl vu lo hi sl Q I rx hs pl pu h
  obtain ⟨a, xs, rfl, hx, hw, q⟩ := h
  cases rx
  obtain ⟨its, r, ht, hz⟩ := I.tuple hx
  have hlen : its.toArray.size = xs.length := by rw [List.size_toArray]; exact r.length.symm
  refine ⟨"tuple", _, PyProof.Rows.slot_tuple_getitem.lookup, ht.typeIs, ?_⟩
  refine HT.getItem_tuple_cut ht hs pl pu (by rw [hlen]; exact hw) ?_ (by rw [hlen]; exact hz)
  rw [hlen]
  refine ⟨.ref s.heap.objs.size, _, I.laid (t' := s.toks) (o := .tup (cutV xs lo hi)) (fun b ob q => Heap.get?_push_of_some _ q) (Nat.le_refl _) ?_, rfl, q _ (I.hok.fresh (Nat.le_refl _))⟩
  exact ⟨Nat.le_trans (cutV_length xs lo hi) hz, _, (r.drop (HT.sIx xs.length 0 lo)).take (HT.sIx xs.length xs.length hi - HT.sIx xs.length 0 lo), IsTup.new _ _⟩

/-! ### t < u, t + u -/
def rLtT (K : PySem.W.Frag) : R2 := fun x y H Q => ∃ a b ns ms, x = .ref a ∧ y = .ref b ∧ SqT K H a (ns.map V.int) ∧ SqT K H b (ms.map V.int) ∧ Q (.bl (HT.lexLt ns ms)) H
theorem op_ltT (hu : X.A.units < cLine) : OpR X (compareOp .Lt) (rLtT X.K) := by
  intro pins s σ H x y v u Q I rx ry h
  obtain ⟨a, b, ns, ms, rfl, rfl, ha, hb, q⟩ := h
  cases rx
  cases ry
  obtain ⟨its, r1, p1, _⟩ := I.tuple ha
  obtain ⟨its2, r2, p2, _⟩ := I.tuple hb
  have i1 : IntsAre its.toArray.toList ns := intsAre_of r1
  have i2 : IntsAre its2.toArray.toList ms := intsAre_of r2
  exact HT.lt_tupInts p1 p2 i1 i2 hu ⟨.bl (HT.lexLt ns ms), H, I, rfl, q⟩
/-- t + u, t not empty: u empty gives t itself -/
def rCatT (K : PySem.W.Frag) : R2 := fun x y H Q => ∃ a b xs ys, x = .ref a ∧ y = .ref b ∧ SqT K H a xs ∧ SqT K H b ys ∧ xs ≠ [] ∧ xs.length + ys.length ≤ sizeLine ∧
  (ys = [] → Q (.ref a) H) ∧ (ys ≠ [] → ∀ p, H p = none → Q (.ref p) (upd H p (.tup (xs ++ ys))))
theorem Vals.nil_iff {xs : List V} {us : List Value} (r : Vals xs us) : us = [] ↔ xs = [] := by
  cases r with
  | nil => simp
  | cons _ _ => simp
theorem op_catT : OpR X (binaryOp .Add) (rCatT X.K) := by
  intro pins s σ H x y v u Q I rx ry h
  obtain ⟨a, b, xs, ys, rfl, rfl, ha, hb, hx, hz, q1, q2⟩ := h
  cases rx
  cases ry
  obtain ⟨its, r1, p1, _⟩ := I.tuple ha
  obtain ⟨its2, r2, p2, _⟩ := I.tuple hb
  refine HT.cat_tup p1 p2 (fun z => hx (r1.nil_iff.mp z)) (fun z => ⟨.ref a, H, I, rfl, q1 (r2.nil_iff.mp z)⟩) (fun z => ?_) (by rw [← r1.length, ← r2.length]; exact hz)
  refine ⟨.ref s.heap.objs.size, _, I.laid (t' := s.toks) (o := .tup (xs ++ ys)) (fun b ob q => Heap.get?_push_of_some _ q) (Nat.le_refl _) ?_, rfl, q2 (fun w => z (r2.nil_iff.mpr w)) _ (I.hok.fresh (Nat.le_refl _))⟩
  exact ⟨by rw [List.length_append]; exact hz, _, r1.append r2, IsTup.new _ _⟩
/-- tuple(t) -/
theorem call_tupleT : CallR X (.type "tuple") (fun xs H Q => ∃ a ys, xs = [.ref a] ∧ SqT X.K H a ys ∧ Q (.ref a) H) := by
  intro pins s σ H xs us Q I r h
  obtain ⟨a, ys, rfl, ha, q⟩ := h
  obtain ⟨u, rfl, ru⟩ := vals1 r
  cases ru
  obtain ⟨its, _, p1, _⟩ := I.tuple ha
  exact call_tuple_same (items := its.toArray) p1 ⟨.ref a, H, I, rfl, q⟩
end
end L2

namespace L2
open PySem PySem.Spec PyProof.Rows

/-! ### places -/
/-- the place that an index of any sign means -/
def ixN (n : Nat) (i : Int) : Option Nat := if 0 ≤ i then (if i < n then some i.toNat else none) else if -(n : Int) ≤ i then some (i + n).toNat else none
def atI {α : Type} (xs : List α) (i : Int) : Option α := (ixN xs.length i).bind fun j => xs[j]?
theorem ixN_seq {n : Nat} {i : Int} {j : Nat} (h : ixN n i = some j) : seqIndex? i n = some j ∧ j < n ∧ -(n : Int) ≤ i ∧ i < n := by
  unfold ixN at h
  by_cases h0 : 0 ≤ i
  · rw [if_pos h0] at h
    by_cases h1 : i < n
    · rw [if_pos h1] at h
      have e : i.toNat = j := Option.some.inj h
      exact ⟨by rw [seqIndex_of h0 h1, e], by omega, by omega, h1⟩
    · rw [if_neg h1] at h; cases h
  · rw [if_neg h0] at h
    by_cases h1 : -(n : Int) ≤ i
    · rw [if_pos h1] at h
      have e : (i + n).toNat = j := Option.some.inj h
      exact ⟨by rw [seqIndex_neg (by omega) h1, e], by omega, h1, by omega⟩
    · rw [if_neg h1] at h; cases h
theorem atI_get {α : Type} {xs : List α} {i : Int} {v : α} (h : atI xs i = some v) : ∃ j, seqIndex? i xs.length = some j ∧ xs[j]? = some v ∧ j < xs.length ∧ -(xs.length : Int) ≤ i ∧ i < xs.length := by
  unfold atI at h
  cases e : ixN xs.length i with
  | none => rw [e] at h; cases h
  | some j =>
    rw [e] at h
    obtain ⟨h1, h2, h3, h4⟩ := ixN_seq e
    exact ⟨j, h1, h, h2, h3, h4⟩
theorem atI_nat {α : Type} {xs : List α} {j : Nat} {v : α} (h : xs[j]? = some v) : atI xs (j : Int) = some v := by
  have hj : j < xs.length := (List.getElem?_eq_some_iff.mp h).1
  have e : ixN xs.length (j : Int) = some j := by
    unfold ixN
    rw [if_pos (by omega), if_pos (by omega)]; simp
  unfold atI; rw [e]; exact h
theorem atI_last {α : Type} (xs : List α) (v : α) : atI (xs ++ [v]) (-1) = some v := by
  have hl : (xs ++ [v]).length = xs.length + 1 := by simp
  have e : ixN (xs ++ [v]).length (-1) = some xs.length := by
    unfold ixN
    rw [hl, if_neg (by decide), if_pos (by omega)]
    congr 1
    omega
  unfold atI
  rw [e]
  show (xs ++ [v])[xs.length]? = some v
  simp

/-! ### what may be subscripted -/
/-- what stands as an index of a plain subscript -/
def PlainIx (b : Expr) : Prop := ∀ o i, subscripted b false o i = operate [o, i] (getItem o i)
/-- a subscript by values -/
def IxR (X : Cx) (r : R2) : Prop :=
  ∀ (value slice : Expr) (pins : List (Addr × Obj)) (s : Shared) (σ : St) (H : Hp) (x y : V) (v u : Value) (Q : VK), Inv X pins σ H s → RelV x v → RelV y u → r x y H Q →
    subscripted slice false v u = operate [v, u] (getItem v u) → wpAny (model X.prog X.w) X.A (subscriptTail value slice v u) (EP X pins σ Q) X.xe s
/-- a call of a builtin's method by values: the receiver, the arguments -/
def MtR (X : Cx) (id : String) (r : V → List V → Hp → VK → Prop) : Prop :=
  ∀ (pins : List (Addr × Obj)) (s : Shared) (σ : St) (H : Hp) (x : V) (xs : List V) (v : Value) (us : List Value) (Q : VK), Inv X pins σ H s → RelV x v → Vals xs us → r x xs H Q →
    wpAny (model X.prog X.w) X.A (call (.builtin id) (v :: us)) (EP X pins σ Q) X.xe s
section
variable {X : Cx} {a b : Expr} {ta tb : TE} {pos : Pos}
theorem IxR.or {r r' : R2} (h : IxR X r) (h' : IxR X r') : IxR X (fun x y H Q => r x y H Q ∨ r' x y H Q) := by
  intro value slice pins s σ H x y v u Q I rx ry q hs
  rcases q with q | q
  · exact h value slice pins s σ H x y v u Q I rx ry q hs
  · exact h' value slice pins s σ H x y v u Q I rx ry q hs
theorem MtR.or {id : String} {r r' : V → List V → Hp → VK → Prop} (h : MtR X id r) (h' : MtR X id r') : MtR X id (fun x xs H Q => r x xs H Q ∨ r' x xs H Q) := by
  intro pins s σ H x xs v us Q I rx rs q
  rcases q with q | q
  · exact h pins s σ H x xs v us Q I rx rs q
  · exact h' pins s σ H x xs v us Q I rx rs q
/-- a[b] -/
theorem pe_ix {r : R2} (hr : IxR X r) (ha : PE X a ta) (hb : PE X b tb) (hs : PlainIx b) : PE X (.Subscript a b pos) (tOp r ta tb) := by
  intro pins s σ H Q I h
  exact Subscript_ (binT ha hb I h fun v u s2 x y H2 I2 rx ry q => hr a b pins s2 σ H2 x y v u Q I2 rx ry q (hs _ _))

def rIxL (K : PySem.W.Frag) : R2 := fun x y H Q => ∃ p xs i v, x = .ref p ∧ y = .int i ∧ SqL K H p xs ∧ atI xs i = some v ∧ Q v H
def rIxT (K : PySem.W.Frag) : R2 := fun x y H Q => ∃ p xs i v, x = .ref p ∧ y = .int i ∧ SqT K H p xs ∧ atI xs i = some v ∧ Q v H
def rIxS : R2 := fun x y H Q => ∃ z i c, x = .str z ∧ y = .int i ∧ z.length ≤ sizeLine ∧ atI z.cps.toList i = some c ∧ Q (.str ⟨#[c]⟩) H
theorem ix_list : IxR X (rIxL X.K) := by
  intro value slice pins s σ H x y v u Q I rx ry h hs
  obtain ⟨p, xs, i, z, rfl, rfl, hq, he, q⟩ := h
  cases rx
  obtain ⟨t, rfl⟩ := ry
  obtain ⟨its, r, pl, hz⟩ := I.list hq
  obtain ⟨j, h1, h2, h3, h4, h5⟩ := atI_get he
  obtain ⟨w, ew, rw'⟩ := r.get h2
  have hl := r.length
  have hn := line63
  have fin : EP X pins σ Q w s := ⟨z, H, I, rw', q⟩
  by_cases h0 : 0 ≤ i
  · have hj : i.toNat = j := by
      rw [seqIndex_of h0 h5] at h1
      exact Option.some.inj h1
    exact item_listR pl.isList h0 (by omega) (by rw [hj]; simpa using ew) fin hs
  · have hj : (i + (its.toArray.size : Int)).toNat = j := by
      rw [seqIndex_neg (by omega) h4] at h1
      rw [List.size_toArray, ← hl]
      exact Option.some.inj h1
    exact subscriptTail_builtinR (x := w) pl.isList.typeIs slot_list_getitem.lookup
      (wpAny_getItem_list_neg (Q := fun r s' => r = w ∧ EP X pins σ Q r s') pl.isList (by omega) (by rw [List.size_toArray] <;> omega) (by omega) (by rw [hj]; simpa using ew) ⟨rfl, fin⟩) hs
theorem ix_tup : IxR X (rIxT X.K) := by
  intro value slice pins s σ H x y v u Q I rx ry h hs
  obtain ⟨p, xs, i, z, rfl, rfl, hq, he, q⟩ := h
  cases rx
  obtain ⟨t, rfl⟩ := ry
  obtain ⟨its, r, pl, hz⟩ := I.tuple hq
  obtain ⟨j, h1, h2, h3, h4, h5⟩ := atI_get he
  obtain ⟨w, ew, rw'⟩ := r.get h2
  have hl := r.length
  have hn := line63
  have fin : EP X pins σ Q w s := ⟨z, H, I, rw', q⟩
  exact subscriptTail_builtinR (x := w) pl.typeIs slot_tuple_getitem.lookup
    (getItem_tuple (j := j) (Q := fun r s' => r = w ∧ EP X pins σ Q r s') pl (by omega) (by omega) (by rw [List.size_toArray, ← hl]; exact h1) (by simpa using ew) ⟨rfl, fin⟩) hs
theorem ix_str : IxR X rIxS := by
  intro value slice pins s σ H x y v u Q I rx ry h hs
  obtain ⟨z, i, c, rfl, rfl, hz, he, q⟩ := h
  obtain ⟨t, rfl⟩ := rx
  obtain ⟨t', rfl⟩ := ry
  obtain ⟨j, h1, h2, h3, h4, h5⟩ := atI_get he
  have hl : z.cps.toList.length = z.length := by simp [Str.length]
  rw [hl] at h1 h4 h5
  have hn := line63
  exact tail_any (typeIs_str s z t) slot_str_getitem.lookup (getItem_str (c := c) (by
    have e1 : decide (i < -(2 ^ 63 : Int)) = false := decide_eq_false (by omega)
    have e2 : decide (i ≥ 2 ^ 63) = false := decide_eq_false (by omega)
    rw [e1, e2, Bool.or_false]) (by rw [h1]; simpa using h2) ⟨.str ⟨#[c]⟩, H, I.tok _, ⟨_, rfl⟩, q⟩) hs
/-- list, tuple or str -/
def rIx (K : PySem.W.Frag) : R2 := fun x y H Q => rIxL K x y H Q ∨ rIxT K x y H Q ∨ rIxS x y H Q
theorem ix_seq : IxR X (rIx X.K) := ix_list.or (ix_tup.or ix_str)

/-! ### xs[i] = v, any sign -/
/-- the list's object behind a store -/
theorem mapSeq_set (its : List Value) (n j : Nat) (u : Value) : Obj.mapSeq (·.setIfInBounds j u) { cls := .type "list", data := .seq its.toArray n } = { cls := .type "list", data := .seq (its.set j u).toArray n } := by
  simp [Obj.mapSeq]
theorem Inv.lst {pins : List (Addr × Obj)} {σ : St} {H : Hp} {s : Shared} {p : Addr} {xs : List V} (I : Inv X pins σ H s) (h : H p = some (.lst xs)) :
    ∃ (its : List Value) (n : Nat), Vals xs its ∧ s.heap.get? p = some { cls := .type "list", data := .seq its.toArray n } ∧ xs.length ≤ sizeLine := by
  obtain ⟨z, its, n, r, e⟩ := I.hok p _ h
  exact ⟨its, n, r, e, z⟩
/-- the list at p is written by an update of its object -/
theorem Inv.lstUpd {pins : List (Addr × Obj)} {σ : St} {H : Hp} {s : Shared} {p : Addr} {xs ys : List V} {its its' : List Value} {n n' : Nat} {f : Obj → Obj} (I : Inv X pins σ H s) (h : H p = some (.lst xs))
    (ho : s.heap.get? p = some { cls := .type "list", data := .seq its.toArray n }) (hf : f { cls := .type "list", data := .seq its.toArray n } = { cls := .type "list", data := .seq its'.toArray n' }) (r : Vals ys its') (hz : ys.length ≤ sizeLine) (t : Nat) :
    Inv X pins σ (upd H p (.lst ys)) { s with heap := s.heap.update p f, toks := t } := by
  have e : (s.heap.update p f).get? p = some { cls := .type "list", data := .seq its'.toArray n' } := by
    rw [Heap.get?_update_self f ho (by rw [hf] <;> rfl), hf]
  refine I.write (x := p) (e := p) (by rw [h]; trivial) (.inl rfl) (fun b u hb q => (Heap.get?_update_other _ _ (Ne.symm hb)).trans q) ⟨_, e⟩ ?_
  exact ⟨hz, its', n', r, e⟩
def rSetL : V → V → V → Hp → (Hp → Prop) → Prop := fun o i v H Q => ∃ p xs k j, o = .ref p ∧ i = .int k ∧ H p = some (.lst xs) ∧ ixN xs.length k = some j ∧ Q (upd H p (.lst (xs.set j v)))
theorem set_list : PSet X rSetL := by
  intro pins s σ H o i v ov iv u Q I ro ri rv h
  obtain ⟨p, xs, k, j, rfl, rfl, hp, hj, q⟩ := h
  cases ro
  obtain ⟨t, rfl⟩ := ri
  obtain ⟨its, n, r, ho, hz⟩ := I.lst hp
  obtain ⟨h1, h2, h3, h4⟩ := ixN_seq hj
  have hl := r.length
  have hn := line63
  have I' : Inv X pins σ (upd H p (.lst (xs.set j v))) { s with heap := s.heap.update p (Obj.mapSeq (·.setIfInBounds j u)) } :=
    I.lstUpd hp ho (mapSeq_set its n j u) (r.set rv j) (by rw [List.length_set]; exact hz) s.toks
  by_cases h0 : 0 ≤ k
  · have hk : k.toNat = j := by
      rw [seqIndex_of h0 h4] at h1
      exact Option.some.inj h1
    exact PySem.W.ki_setAt ho h0 (by omega) (by rw [List.size_toArray, ← hl]; exact h4) (by rw [hk]; exact ⟨_, I', q⟩)
  · have hk : (k + (its.toArray.size : Int)).toNat = j := by
      rw [seqIndex_neg (by omega) h3] at h1
      rw [List.size_toArray, ← hl]
      exact Option.some.inj h1
    exact PySem.W.ki_setBack ho (by omega) (by rw [List.size_toArray, ← hl]; exact h3) (by omega) (by rw [hk]; exact ⟨_, I', q⟩)

/-! ### slices -/
theorem slice_bounds (lo hi : Option Int) (n : Nat) : (sliceBounds lo hi none n).1 = ((HT.sIx n 0 lo : Nat) : Int) ∧ (sliceBounds lo hi none n).2.1 = ((HT.sIx n n hi : Nat) : Int) ∧ (sliceBounds lo hi none n).2.2 = 1 := by
  refine ⟨?_, ?_, rfl⟩
  · cases lo with
    | none => simp [sliceBounds, HT.sIx]
    | some i =>
      simp only [sliceBounds, HT.sIx, Option.getD_none, show (1 : Int) > 0 by decide, if_true]
      by_cases h : i < 0
      · simp only [h, if_true] <;> omega
      · simp only [h, if_false] <;> omega
  · cases hi with
    | none => simp [sliceBounds, HT.sIx]
    | some i =>
      simp only [sliceBounds, HT.sIx, Option.getD_none, show (1 : Int) > 0 by decide, if_true]
      by_cases h : i < 0
      · simp only [h, if_true] <;> omega
      · simp only [h, if_false] <;> omega
theorem slicePick_cut (its : List Value) (lo hi : Option Int) : slicePick its.toArray lo hi none = ((its.drop (HT.sIx its.length 0 lo)).take (HT.sIx its.length its.length hi - HT.sIx its.length 0 lo)).toArray := by
  obtain ⟨h1, h2, h3⟩ := slice_bounds lo hi its.toArray.size
  unfold slicePick
  rw [h1, h2, h3]
  simp only [sliceRange_one, pick_run, List.size_toArray] <;> rfl
/-- xs[lo:hi] of a list: a new list -/
def rSlL (K : PySem.W.Frag) : V → Option Int → Option Int → Hp → VK → Prop := fun x lo hi H Q => ∃ a xs, x = .ref a ∧ SqL K H a xs ∧ ∀ p, H p = none → Q (.ref p) (upd H p (.lst (cutV xs lo hi)))
theorem sl_list : SlR X (rSlL X.K) := by
  intro pins s σ H x v vl vu lo hi sl Q I rx hs pl pu h
  obtain ⟨a, xs, rfl, hx, q⟩ := h
  cases rx
  obtain ⟨its, r, ht, hz⟩ := I.list hx
  have hlen := r.length
  refine ⟨"list", _, slot_list_getitem.lookup, ht.isList.typeIs, ?_⟩
  refine wpAny_getItem_list_slice ht.isList hs pl pu .none (by simp) ?_ (by rw [List.size_toArray] <;> omega)
  rw [slicePick_cut, ← hlen]
  refine ⟨.ref s.heap.objs.size, _, I.laid (t' := s.toks) (o := .lst (cutV xs lo hi)) (fun b ob q => Heap.get?_push_of_some _ q) (Nat.le_refl _) ?_, rfl, q _ (I.hok.fresh (Nat.le_refl _))⟩
  exact ⟨Nat.le_trans (cutV_length xs lo hi) hz, _, 0, (r.drop (HT.sIx xs.length 0 lo)).take (HT.sIx xs.length xs.length hi - HT.sIx xs.length 0 lo), Heap.get?_push_size _ rfl⟩

/-! ### in, not in: flat items -/
def flatV : V → Bool
  | .non => true
  | .bl _ => true
  | .int _ => true
  | .str _ => true
  | _ => false
/-- == of flat values -/
def eqV : V → V → Bool
  | .non, .non => true
  | .bl a, .bl b => a == b
  | .bl a, .int b => (if a then 1 else 0) == b
  | .int a, .bl b => a == (if b then 1 else 0)
  | .int a, .int b => a == b
  | .str a, .str b => a == b
  | _, _ => false
theorem eqAt_V {A : Around} {s : Shared} {y x : V} {u v : Value} (ry : RelV y u) (rx : RelV x v) (fy : flatV y = true) (fx : flatV x = true) : SeqAt.EqAt A s u v (eqV y x) := by
  cases y with
  | non =>
    cases ry
    cases x with
    | non => cases rx; exact SeqAt.EqAt.same _
    | bl b => cases rx; exact SeqAt.EqAt.none_bool b
    | int b => obtain ⟨t, rfl⟩ := rx; exact SeqAt.EqAt.none_int b t
    | str b => obtain ⟨t, rfl⟩ := rx; exact SeqAt.EqAt.none_str b t
    | _ => exact absurd (show false = true from fx) Bool.false_ne_true
  | bl a =>
    cases ry
    cases x with
    | non => cases rx; exact SeqAt.EqAt.bool_none a
    | bl b => cases rx; exact SeqAt.EqAt.bool_bool a b
    | int b => obtain ⟨t, rfl⟩ := rx; exact SeqAt.EqAt.bool_int a b t
    | str b => obtain ⟨t, rfl⟩ := rx; exact SeqAt.EqAt.bool_str a b t
    | _ => exact absurd (show false = true from fx) Bool.false_ne_true
  | int a =>
    obtain ⟨t', rfl⟩ := ry
    cases x with
    | non => cases rx; exact SeqAt.EqAt.int_none a t'
    | bl b => cases rx; exact SeqAt.EqAt.int_bool a t' b
    | int b => obtain ⟨t, rfl⟩ := rx; exact SeqAt.EqAt.int_int a t' b t
    | str b => obtain ⟨t, rfl⟩ := rx; exact SeqAt.EqAt.int_str a t' b t
    | _ => exact absurd (show false = true from fx) Bool.false_ne_true
  | str a =>
    obtain ⟨t', rfl⟩ := ry
    cases x with
    | non => cases rx; exact SeqAt.EqAt.str_none a t'
    | bl b => cases rx; exact SeqAt.EqAt.str_bool a t' b
    | int b => obtain ⟨t, rfl⟩ := rx; exact SeqAt.EqAt.str_int a t' b t
    | str b => obtain ⟨t, rfl⟩ := rx; exact SeqAt.EqAt.str_str a t' b t
    | _ => exact absurd (show false = true from fx) Bool.false_ne_true
  | _ => exact absurd (show false = true from fy) Bool.false_ne_true
/-- the items' answers, read off the values (a value's own answer does not lean on its token) -/
def eqU (x : V) (u : Value) : Bool := match u with
  | .none => eqV .non x
  | .bool b => eqV (.bl b) x
  | .int i _ => eqV (.int i) x
  | .str z _ => eqV (.str z) x
  | _ => false
theorem eqU_of {x y : V} {u : Value} (r : RelV y u) (f : flatV y = true) : eqU x u = eqV y x := by
  cases y with
  | non => cases r; rfl
  | bl b => cases r; rfl
  | int i => obtain ⟨t, rfl⟩ := r; rfl
  | str z => obtain ⟨t, rfl⟩ := r; rfl
  | _ => exact absurd (show false = true from f) Bool.false_ne_true
theorem any_eqU {x : V} : ∀ {xs : List V} {us : List Value}, Vals xs us → xs.all flatV = true → us.any (eqU x) = xs.any fun y => eqV y x
  | _, _, .nil, _ => rfl
  | y :: xs, u :: us, .cons r t, f => by
    rw [List.all_cons, Bool.and_eq_true] at f
    rw [List.any_cons, List.any_cons, eqU_of r f.1, any_eqU t f.2]
theorem mem_eqAt {A : Around} {s : Shared} {x : V} {v : Value} (rx : RelV x v) (fx : flatV x = true) : ∀ {xs : List V} {us : List Value}, Vals xs us → xs.all flatV = true → ∀ u ∈ us, SeqAt.EqAt A s u v (eqU x u)
  | _, _, .nil, _ => fun u hu => by cases hu
  | y :: xs, u :: us, .cons r t, f => fun u' hu => by
    rw [List.all_cons, Bool.and_eq_true] at f
    rcases List.mem_cons.mp hu with rfl | hu
    · rw [eqU_of r f.1]; exact eqAt_V r rx f.1 fx
    · exact mem_eqAt rx fx t f.2 u' hu
def inV (x : V) (xs : List V) : Bool := xs.any fun y => eqV y x
/-- x in a list or tuple of flat items -/
def rIn (K : PySem.W.Frag) (neg : Bool) : R2 := fun x y H Q => ∃ p xs, y = .ref p ∧ (SqL K H p xs ∨ SqT K H p xs) ∧ flatV x = true ∧ xs.all flatV = true ∧ Q (.bl (if neg then !inV x xs else inV x xs)) H
theorem op_in_seq : OpR X (compareOp .In) (rIn X.K false) := by
  intro pins s σ H x y v u Q I rx ry h
  obtain ⟨p, xs, rfl, hq, fx, fs, q⟩ := h
  cases ry
  rcases hq with hq | hq
  · obtain ⟨its, r, pl, hz⟩ := I.list hq
    refine SeqAt.in_listAt (eqU x) pl.isList (fun w hw => mem_eqAt rx fx r fs w (by simpa using hw)) ⟨.bl _, H, I, rfl, ?_⟩
    rw [show its.toArray.any (eqU x) = its.any (eqU x) by simp, any_eqU r fs]
    exact q
  · obtain ⟨its, r, pl, hz⟩ := I.tuple hq
    refine SeqAt.in_tupleAt (eqU x) pl (fun w hw => mem_eqAt rx fx r fs w (by simpa using hw)) ⟨.bl _, H, I, rfl, ?_⟩
    rw [show its.toArray.any (eqU x) = its.any (eqU x) by simp, any_eqU r fs]
    exact q
theorem op_notIn_seq : OpR X (compareOp .NotIn) (rIn X.K true) := by
  intro pins s σ H x y v u Q I rx ry h
  obtain ⟨p, xs, rfl, hq, fx, fs, q⟩ := h
  cases ry
  rcases hq with hq | hq
  · obtain ⟨its, r, pl, hz⟩ := I.list hq
    refine SeqAt.notIn_listAt (eqU x) pl.isList (fun w hw => mem_eqAt rx fx r fs w (by simpa using hw)) ⟨.bl _, H, I, rfl, ?_⟩
    rw [show its.toArray.any (eqU x) = its.any (eqU x) by simp, any_eqU r fs]
    exact q
  · obtain ⟨its, r, pl, hz⟩ := I.tuple hq
    refine SeqAt.notIn_tupleAt (eqU x) pl (fun w hw => mem_eqAt rx fx r fs w (by simpa using hw)) ⟨.bl _, H, I, rfl, ?_⟩
    rw [show its.toArray.any (eqU x) = its.any (eqU x) by simp, any_eqU r fs]
    exact q
theorem op_notIn_str : OpR X (compareOp .NotIn) (fun x y H Q => ∃ i j, x = .str i ∧ y = .str j ∧ Q (.bl (!(!(Builtin.Str.occurrences j i 0 j.length 1).isEmpty))) H) := by
  intro pins s σ H x y v u Q I rx ry h
  obtain ⟨i, j, rfl, rfl, q⟩ := h
  obtain ⟨t, rfl⟩ := rx
  obtain ⟨t', rfl⟩ := ry
  exact notIn_str ⟨.bl _, H, I, rfl, q⟩

/-! ### len, list(x), tuple(x) of any list or tuple that is read -/
theorem call_len_seq : CallR X (.builtin "len") (fun xs H Q => ∃ p ys, xs = [.ref p] ∧ (SqL X.K H p ys ∨ SqT X.K H p ys) ∧ Q (.int ys.length) H) := by
  intro pins s σ H xs us Q I r h
  obtain ⟨p, ys, rfl, hq, q⟩ := h
  obtain ⟨u, rfl, rx⟩ := vals1 r
  cases rx
  have hn := line63
  rcases hq with hq | hq
  · obtain ⟨its, r', pl, hz⟩ := I.list hq
    have hlen := r'.length
    exact Calls.call_len_list pl.isList (by simp only [List.size_toArray] <;> omega) ⟨.int ys.length, H, I.tok _, ⟨s.toks + 1, by rw [List.size_toArray, hlen]⟩, q⟩
  · obtain ⟨its, r', pl, hz⟩ := I.tuple hq
    have hlen := r'.length
    exact len_tuple pl (by simp only [List.size_toArray] <;> omega) ⟨.int ys.length, H, I.tok _, ⟨s.toks + 1, by rw [List.size_toArray, hlen]⟩, q⟩
theorem call_len_str : CallR X (.builtin "len") (fun xs H Q => ∃ z, xs = [.str z] ∧ z.length ≤ sizeLine ∧ Q (.int z.length) H) := by
  intro pins s σ H xs us Q I r h
  obtain ⟨z, rfl, hz, q⟩ := h
  obtain ⟨u, rfl, t, rfl⟩ := vals1 r
  have hn := line63
  exact len_str (by omega) ⟨.int z.length, H, I.tok _, ⟨_, rfl⟩, q⟩
theorem CallR.or {f : Value} {r r' : List V → Hp → VK → Prop} (h : CallR X f r) (h' : CallR X f r') : CallR X f (fun xs H Q => r xs H Q ∨ r' xs H Q) := by
  intro pins s σ H xs us Q I rs q
  rcases q with q | q
  · exact h pins s σ H xs us Q I rs q
  · exact h' pins s σ H xs us Q I rs q
theorem call_list_of : CallR X (.type "list") (fun xs H Q => ∃ p ys, xs = [.ref p] ∧ (SqL X.K H p ys ∨ SqT X.K H p ys) ∧ ∀ l, H l = none → Q (.ref l) (upd H l (.lst ys))) := by
  intro pins s σ H xs us Q I r h
  obtain ⟨p, ys, rfl, hq, q⟩ := h
  obtain ⟨u, rfl, rx⟩ := vals1 r
  cases rx
  have fin : ∀ (its : List Value), Vals ys its → ys.length ≤ sizeLine → ∀ (h' : Heap) (c' : Nat), (∀ b o', s.heap.get? b = some o' → h'.get? b = some o') →
      h'.get? s.heap.objs.size = some { cls := .type "list", dict := none, data := .seq its.toArray c', slots := #[] } → EP X pins σ Q (.ref s.heap.objs.size) { s with heap := h' } := fun its r' hz h' c' kp e =>
    ⟨.ref s.heap.objs.size, _, I.laid (t' := s.toks) kp (Nat.le_refl _) (show ObjOk X.prog X.w _ h' _ (.lst ys) from ⟨hz, its, c', r', e⟩), rfl, q _ (I.hok.fresh (Nat.le_refl _))⟩
  rcases hq with hq | hq
  · obtain ⟨its, r', pl, hz⟩ := I.list hq
    have hlen := r'.length
    obtain ⟨o, ho, hc, n, hd⟩ := pl.isList
    exact call_list_seq p (.inl rfl) ho hc hd (fun h' c' kp e => fin its r' hz h' c' kp e) (by simp only [List.size_toArray] <;> omega)
  · obtain ⟨its, r', pl, hz⟩ := I.tuple hq
    have hlen := r'.length
    obtain ⟨o, ho, hc, n, hd⟩ := pl
    exact call_list_seq p (.inr rfl) ho hc hd (fun h' c' kp e => fin its r' hz h' c' kp e) (by simp only [List.size_toArray] <;> omega)
theorem call_tuple_of : CallR X (.type "tuple") (fun xs H Q => ∃ p ys, xs = [.ref p] ∧ ((SqL X.K H p ys ∧ ∀ l, H l = none → Q (.ref l) (upd H l (.tup ys))) ∨ (SqT X.K H p ys ∧ Q (.ref p) H))) := by
  intro pins s σ H xs us Q I r h
  obtain ⟨p, ys, rfl, h⟩ := h
  obtain ⟨u, rfl, rx⟩ := vals1 r
  cases rx
  rcases h with ⟨hq, q⟩ | ⟨hq, q⟩
  · obtain ⟨its, r', pl, hz⟩ := I.list hq
    have hlen := r'.length
    refine call_tuple_list pl.isList (fun h' kp => ?_) (by simp only [List.size_toArray] <;> omega)
    have I1 : Inv X pins σ H { s with heap := h' } := I.kept (t' := s.toks) kp
    have I2 : Inv X pins σ (upd H h'.objs.size (.tup ys)) { s with heap := h'.push { cls := .type "tuple", data := .seq its.toArray } } :=
      I1.laid (t' := s.toks) (fun b o e => Heap.get?_push_of_some _ e) (Nat.le_refl _) (show ObjOk X.prog X.w _ _ _ (.tup ys) from ⟨hz, its, r', IsTup.new _ _⟩)
    exact ⟨.ref h'.objs.size, _, I2, rfl, q _ (I1.hok.fresh (Nat.le_refl _))⟩
  · obtain ⟨its, r', pl, hz⟩ := I.tuple hq
    exact call_tuple_same pl ⟨.ref p, H, I, rfl, q⟩

/-! ### the call of a builtin's method: o.m(..) -/
/-- the value is of that builtin type -/
def tyV (K : PySem.W.Frag) (T : String) (x : V) (H : Hp) : Prop := match x with
  | .str _ => T = "str"
  | .int _ => T = "int"
  | .ref p => (T = "list" ∧ ∃ xs, SqL K H p xs) ∨ (T = "tuple" ∧ ∃ o, K.lookup p = some o ∧ o.cls = .type "tuple" ∧ o.dict = none) ∨
      (T = "dict" ∧ ((∃ kvs, H p = some (.dK kvs)) ∨ ∃ kvs, H p = some (.dT kvs))) ∨ (T = "set" ∧ ∃ S n, H p = some (.set S n))
  | _ => False
theorem tyV_is {pins : List (Addr × Obj)} {σ : St} {H : Hp} {s : Shared} {T : String} {x : V} {v : Value} (I : Inv X pins σ H s) (r : RelV x v) (ty : tyV X.K T x H) :
    s.TypeIs v T ∧ ∀ a, v = .ref a → ∃ ob, s.heap.get? a = some ob ∧ ob.dict = none := by
  cases x with
  | str z =>
    obtain ⟨t, rfl⟩ := r
    cases (show T = "str" from ty)
    exact ⟨typeIs_str s z t, fun _ e => nomatch e⟩
  | int i =>
    obtain ⟨t, rfl⟩ := r
    cases (show T = "int" from ty)
    exact ⟨typeIs_int s i t, fun _ e => nomatch e⟩
  | ref p =>
    cases r
    rcases ty with ⟨rfl, xs, hq⟩ | ⟨rfl, o, hk, hc, hd⟩ | ⟨rfl, hk⟩ | ⟨rfl, S, n, hk⟩
    · obtain ⟨its, _, pl, _⟩ := I.list hq
      refine ⟨pl.isList.typeIs, fun a e => ?_⟩
      cases e
      obtain ⟨o, n, e, c, hd, _⟩ := pl
      exact ⟨o, e, hd⟩
    · refine ⟨⟨o, I.kIn p o hk, hc⟩, fun a e => ?_⟩
      cases e
      exact ⟨o, I.kIn _ o hk, hd⟩
    · have z : ∃ o, s.heap.get? p = some o ∧ o.ExactDict := by
        rcases hk with ⟨kvs, hk⟩ | ⟨kvs, hk⟩
        · obtain ⟨_, _, _, _, o, _, _, e, ex, _⟩ := I.hok p _ hk
          exact ⟨o, e, ex⟩
        · obtain ⟨_, _, _, _, o, _, _, e, ex, _⟩ := I.hok p _ hk
          exact ⟨o, e, ex⟩
      obtain ⟨o, e, ex⟩ := z
      refine ⟨⟨o, e, ex.1⟩, fun a e2 => ?_⟩
      cases e2
      exact ⟨o, e, ex.2.1⟩
    · obtain ⟨o, _, _, _, e, ex, _⟩ := I.hok p _ hk
      refine ⟨⟨o, e, ex.1⟩, fun a e2 => ?_⟩
      cases e2
      exact ⟨o, e, ex.2.1⟩
  | _ => exact False.elim ty
def tBM0 (K : PySem.W.Frag) (T : String) (r : V → List V → Hp → VK → Prop) (to : TE) : TE := fun σ H Q => to σ H fun x H1 => tyV K T x H1 ∧ r x [] H1 Q
def tBM (K : PySem.W.Frag) (T : String) (r : V → List V → Hp → VK → Prop) (to : TE) (t : TA) : TE := fun σ H Q => to σ H fun x H1 => tyV K T x H1 ∧ t σ H1 fun xs H2 => r x xs H2 Q
variable {o e : Expr} {es : List Expr} {to : TE} {t : TA} {name : Str} {apos cpos : Pos} {T id : String} {r : V → List V → Hp → VK → Prop}
theorem pe_bm0 (pa : PlainAttrs T) (slot : Slot T name id) (hty : typeOf (.builtin id) = pure (.type "method_descriptor")) (hm : MtR X id r) (ho : PE X o to)
    (hbase : attributeBase o name X.env (eval o X.env) = eval o X.env := by rfl) (hline : (apos.endLine == cpos.line) = true := by rfl) : PE X (.Call (.Attribute o name apos) [] [] cpos) (tBM0 X.K T r to) := by
  intro pins s σ H Q I h
  refine wpAny_Call_method0_late hbase hline (thn (ho pins s σ H _ I h) fun v s1 ⟨x, H1, I1, r1, ty, q1⟩ => ?_)
  obtain ⟨h1, h2⟩ := tyV_is I1 r1 ty
  exact ⟨T, id, pa, slot, hty, h1, h2, Calls.callWith_builtin rfl (PySem.evalArgs_none (hm pins s1 σ H1 x [] v [] Q I1 r1 .nil q1))⟩
theorem pe_bm (pa : PlainAttrs T) (slot : Slot T name id) (hty : typeOf (.builtin id) = pure (.type "method_descriptor")) (hm : MtR X id r) (ho : PE X o to) (ha : PA X (e :: es) t)
    (hbase : attributeBase o name X.env (eval o X.env) = eval o X.env := by rfl)
    (hfew : ((backTo cpos (starEach (e :: es) X.env)).all (fun x => !x.1) && (backToKw cpos (keywordEach [] X.env)).all (fun x => x.1.isSome)
      && decide ((e :: es).length + ([] : List Keyword).length + (if ([] : List Keyword).isEmpty then 0 else 1) < 30)) = true := by rfl)
    (hline : (apos.endLine == cpos.line) = true := by rfl) (hs : starEach (e :: es) X.env = (false, eval e X.env) :: starEach es X.env := by rfl) (hplain : (backTo cpos (starEach es X.env)).any (·.1) = false := by rfl) :
    PE X (.Call (.Attribute o name apos) (e :: es) [] cpos) (tBM X.K T r to t) := by
  intro pins s σ H Q I h
  refine wpAny_Call_method_late hbase hfew hline rfl (thn (ho pins s σ H _ I h) fun v s1 ⟨x, H1, I1, r1, ty, q1⟩ => ?_)
  obtain ⟨h1, h2⟩ := tyV_is I1 r1 ty
  refine ⟨T, id, pa, slot, hty, h1, h2, ?_⟩
  have hA := ha cpos pins s1 σ H1 _ I1 q1
  rw [hs] at hA ⊢
  refine Calls.callWith_builtin (by show (false || (backTo cpos (starEach es X.env)).any (·.1)) = false; rw [hplain] <;> rfl) (Calls.evalArgs_plain ?_)
  exact thn hA fun us s2 ⟨vs, H2, I2, r2, q2⟩ => hm pins s2 σ H2 x vs v us Q I2 r1 r2 q2
/- xs.append(e), list.index on a module's tuple .. are MtR facts of 06m -/
end
end L2

namespace L2
open PySem PySem.Spec PyProof.Rows

def MtM (X : Cx) (id : String) (r : V → List V → Hp → VK → Prop) : Prop :=
  ∀ (pins : List (Addr × Obj)) (s : Shared) (σ : St) (H : Hp) (x : V) (xs : List V) (v : Value) (us : List Value) (Q : VK), Inv X pins σ H s → RelV x v → Vals xs us → r x xs H Q →
    wpAny (model X.prog X.w) X.A (call (.builtin id) (v :: us)) (EP X pins σ Q) X.xe s

/-! ### lists of values -/
theorem Vals.one : ∀ {x : V} {us : List Value}, Vals [x] us → ∃ u, us = [u] ∧ RelV x u
  | _, _, .cons r .nil => ⟨_, rfl, r⟩
theorem Vals.two : ∀ {x y : V} {us : List Value}, Vals [x, y] us → ∃ u v, us = [u, v] ∧ RelV x u ∧ RelV y v
  | _, _, _, .cons r (.cons q .nil) => ⟨_, _, rfl, r, q⟩
theorem Vals.zero : ∀ {us : List Value}, Vals [] us → us = []
  | _, .nil => rfl
theorem Vals.dropLast {xs : List V} {us : List Value} (h : Vals xs us) : Vals xs.dropLast us.dropLast := by
  induction h with
  | nil => exact .nil
  | cons r t ih =>
    cases t with
    | nil => exact .nil
    | cons q t' => exact .cons r ih
theorem Vals.eraseIdx : ∀ {xs : List V} {us : List Value} (i : Nat), Vals xs us → Vals (xs.eraseIdx i) (us.eraseIdx i)
  | _, _, _, .nil => .nil
  | _, _, 0, .cons _ t => t
  | _, _, i + 1, .cons r t => .cons r (Vals.eraseIdx i t)
theorem Vals.reverse {xs : List V} {us : List Value} (h : Vals xs us) : Vals xs.reverse us.reverse := by
  induction h with
  | nil => exact .nil
  | cons r t ih => rw [List.reverse_cons, List.reverse_cons]; exact Vals.append ih (.cons r .nil)
theorem Vals.rep {xs : List V} {us : List Value} (h : Vals xs us) : ∀ k : Nat, Vals (List.replicate k xs).flatten (List.replicate k us).flatten
  | 0 => .nil
  | k + 1 => by
    rw [List.replicate_succ, List.replicate_succ, List.flatten_cons, List.flatten_cons]
    exact Vals.append h (Vals.rep h k)
theorem erase_last {α : Type} (l : List α) : l.eraseIdx (l.length - 1) = l.dropLast := by
  induction l with
  | nil => rfl
  | cons a r ih =>
    cases r with
    | nil => rfl
    | cons b r =>
      have e : (a :: b :: r).length - 1 = ((b :: r).length - 1) + 1 := by
        have h1 : (a :: b :: r).length = r.length + 2 := rfl
        have h2 : (b :: r).length = r.length + 1 := rfl
        omega
      rw [e, List.eraseIdx_cons_succ, ih]
      all_goals rfl
theorem len_erase {α : Type} : ∀ (l : List α) (i : Nat), (l.eraseIdx i).length ≤ l.length
  | [], _ => Nat.le_refl _
  | _ :: _, 0 => Nat.le_succ _
  | _ :: r, i + 1 => Nat.succ_le_succ (len_erase r i)
theorem foldl_rep (its : List Value) : ∀ (k : Nat) (acc : List Value),
    List.foldl (fun x1 x2 => x1 ++ x2) acc.toArray (List.replicate k its.toArray) = (acc ++ (List.replicate k its).flatten).toArray
  | 0, acc => by simp
  | k + 1, acc => by
    have e : acc.toArray ++ its.toArray = (acc ++ its).toArray := by simp
    have e2 : (acc ++ its) ++ (List.replicate k its).flatten = acc ++ (List.replicate (k + 1) its).flatten := by
      rw [List.replicate_succ, List.flatten_cons, List.append_assoc]
    rw [← e2, ← foldl_rep its k (acc ++ its), ← e, List.replicate_succ, List.foldl_cons]

section
variable {X : Cx} {pins : List (Addr × Obj)} {σ : St} {H : Hp} {s : Shared} {l b : Addr} {xs ys zs : List V}

/-! ### the two steps: a tracked list is rewritten, a new list is laid -/
theorem Inv.lset {its its' : List Value} {n : Nat} {f : Array Value → Array Value} {t' : Nat} (I : Inv X pins σ H s) (hH : H l = some (.lst xs))
    (e : s.heap.get? l = some { cls := .type "list", data := .seq its.toArray n }) (hf : f its.toArray = its'.toArray) (hv : Vals ys its') (hz : ys.length ≤ sizeLine) :
    Inv X pins σ (upd H l (.lst ys)) { s with heap := s.heap.update l (Obj.mapSeq f), toks := t' } := by
  have q := PySem.IsL.update e f
  rw [hf] at q
  refine I.write (x := l) (e := l) (by rw [hH]; exact trivial) (.inl rfl) (fun b' u hb hu => (Heap.get?_update_other s.heap (Obj.mapSeq f) (Ne.symm hb)).trans hu) ⟨_, q⟩ ?_
  exact ⟨hz, its', _, hv, q⟩
theorem Inv.lnew {its : List Value} {t' : Nat} (I : Inv X pins σ H s) (hv : Vals ys its) (hz : ys.length ≤ sizeLine) :
    Inv X pins σ (upd H s.heap.objs.size (.lst ys)) { s with heap := s.heap.push { cls := .type "list", data := .seq its.toArray }, toks := t' } :=
  I.laid (fun _ _ q => Heap.get?_push_of_some _ q) (Nat.le_refl _) ⟨hz, its, 0, hv, Heap.get?_push_size _ rfl⟩
theorem Inv.fresh (I : Inv X pins σ H s) : H s.heap.objs.size = none := I.hok.fresh (Nat.le_refl _)
theorem Inv.lstM (I : Inv X pins σ H s) (hH : H l = some (.lst xs)) : xs.length ≤ sizeLine ∧ ∃ (its : List Value) (n : Nat), Vals xs its ∧ xs.length = its.length ∧ s.heap.get? l = some { cls := .type "list", data := .seq its.toArray n } := by
  obtain ⟨z, its, n, r, e⟩ := I.hok l _ hH
  exact ⟨z, its, n, r, r.length, e⟩

theorem notLongL {n : Nat} (h : n ≤ sizeLine) : Builtin.List.listTooLong n = false := by
  unfold Builtin.List.listTooLong
  exact decide_eq_false (by omega)
end

section
variable {X : Cx}

/-! ### methods -/
def rAppend : V → List V → Hp → VK → Prop := fun x vs H Q => ∃ l xs y, x = .ref l ∧ vs = [y] ∧ H l = some (.lst xs) ∧ xs.length < sizeLine ∧ Q .non (upd H l (.lst (xs ++ [y])))
theorem mt_append : MtM X "list.append" rAppend := by
  intro pins s σ H x vs v us Q I rx rv h
  obtain ⟨l, xs, y, rfl, rfl, hH, hz, q⟩ := h
  cases rx
  obtain ⟨u, rfl, ru⟩ := rv.one
  obtain ⟨z, its, n, r, hl, e⟩ := I.lstM hH
  refine call_meets F.slot_list_append ⟨_, e, rfl⟩ F.entry_list_append (F.args_list_append_2 _ _) (PySem.list_append l its.toArray n u (by rw [List.size_toArray]; omega)) ⟨e, ?_⟩
  refine ⟨.non, _, I.lset (its' := its ++ [u]) hH e (by simp) (r.append (.cons ru .nil)) ?_, rfl, q⟩
  rw [List.length_append, List.length_singleton]
  omega

def rExtend : V → List V → Hp → VK → Prop := fun x vs H Q => ∃ l b xs zs, x = .ref l ∧ vs = [.ref b] ∧ H l = some (.lst xs) ∧ H b = some (.lst zs) ∧ xs.length + zs.length ≤ sizeLine ∧ Q .non (upd H l (.lst (xs ++ zs)))
theorem mt_extend : MtM X "list.extend" rExtend := by
  intro pins s σ H x vs v us Q I rx rv h
  obtain ⟨l, b, xs, zs, rfl, rfl, hH, hB, hz, q⟩ := h
  cases rx
  obtain ⟨u, rfl, ru⟩ := rv.one
  cases ru
  obtain ⟨z, its, n, r, hl, e⟩ := I.lstM hH
  obtain ⟨z2, its2, n2, r2, hl2, e2⟩ := I.lstM hB
  have hsz : its.toArray.size + its2.toArray.size ≤ sizeLine := by rw [List.size_toArray, List.size_toArray]; omega
  have hlong : ¬ (!its.toArray.isEmpty && Builtin.List.listTooLong (its.toArray.size + its2.toArray.size)) = true := by
    rw [notLongL hsz, Bool.and_false]
    exact Bool.false_ne_true
  refine call_meets F.slot_list_extend ⟨_, e, rfl⟩ F.entry_list_extend (F.args_list_extend_2 _ _)
    (AutoSeq1.list_extend_list_list_0 l its.toArray n b its2.toArray n2 hlong (by rw [List.size_toArray]; omega) (by omega)) ⟨e, e2, ?_⟩
  refine ⟨.non, _, I.lset (its' := its ++ its2) hH e (by simp) (r.append r2) ?_, rfl, q⟩
  rw [List.length_append]
  omega

def rPop : V → List V → Hp → VK → Prop := fun x vs H Q => ∃ l xs y, x = .ref l ∧ vs = [] ∧ H l = some (.lst xs) ∧ xs[xs.length - 1]? = some y ∧ Q y (upd H l (.lst xs.dropLast))
theorem mt_pop : MtM X "list.pop" rPop := by
  intro pins s σ H x vs v us Q I rx rv h
  obtain ⟨l, xs, y, rfl, rfl, hH, hy, q⟩ := h
  cases rx
  have hus := rv.zero
  subst hus
  obtain ⟨z, its, n, r, hl, e⟩ := I.lstM hH
  obtain ⟨u, hu, ru⟩ := r.get hy
  have hy' : its.toArray[its.toArray.size - 1]? = some u := by
    show its.toArray[its.length - 1]? = some u
    rw [← Array.getElem?_toList, ← hl]
    exact hu
  refine call_meets F.slot_list_pop ⟨_, e, rfl⟩ F.entry_list_pop (F.args_list_pop_1 _) (MeetsSeq.list_pop_last l its.toArray n u hy' (by rw [List.size_toArray]; omega)) ⟨e, ?_⟩
  refine ⟨y, _, I.lset (its' := its.dropLast) hH e ?_ r.dropLast ?_, ru, q⟩
  · show its.toArray.eraseIdxIfInBounds (its.toArray.size - 1) = its.dropLast.toArray
    rw [List.size_toArray, List.eraseIdxIfInBounds_toArray, erase_last]
  · rw [List.length_dropLast]
    omega

def rPopAt : V → List V → Hp → VK → Prop := fun x vs H Q => ∃ l xs i k y, x = .ref l ∧ vs = [.int i] ∧ H l = some (.lst xs) ∧ -(2 ^ 63) ≤ i ∧ i < 2 ^ 63 ∧ seqIndex? i xs.length = some k ∧ xs[k]? = some y ∧ Q y (upd H l (.lst (xs.eraseIdx k)))
theorem mt_popAt : MtM X "list.pop" rPopAt := by
  intro pins s σ H x vs v us Q I rx rv h
  obtain ⟨l, xs, i, k, y, rfl, rfl, hH, h1, h2, hk, hy, q⟩ := h
  cases rx
  obtain ⟨u, rfl, ru⟩ := rv.one
  obtain ⟨t, rfl⟩ := ru
  obtain ⟨z, its, n, r, hl, e⟩ := I.lstM hH
  obtain ⟨w, hw, rw'⟩ := r.get hy
  refine call_meets F.slot_list_pop ⟨_, e, rfl⟩ F.entry_list_pop (F.args_list_pop_2 _ _)
    (MeetsSeq.list_pop_at l its.toArray n i t k w (fitsIndex_both h1 h2) (by rw [List.size_toArray, ← hl]; exact hk) (by rw [← Array.getElem?_toList]; exact hw) (by rw [List.size_toArray]; omega)) ⟨e, ?_⟩
  refine ⟨y, _, I.lset (its' := its.eraseIdx k) hH e ?_ (r.eraseIdx k) ?_, rw', q⟩
  · show its.toArray.eraseIdxIfInBounds k = (its.eraseIdx k).toArray
    rw [List.eraseIdxIfInBounds_toArray]
  · have := len_erase xs k
    omega

def rReverse : V → List V → Hp → VK → Prop := fun x vs H Q => ∃ l xs, x = .ref l ∧ vs = [] ∧ H l = some (.lst xs) ∧ Q .non (upd H l (.lst xs.reverse))
theorem mt_reverse : MtM X "list.reverse" rReverse := by
  intro pins s σ H x vs v us Q I rx rv h
  obtain ⟨l, xs, rfl, rfl, hH, q⟩ := h
  cases rx
  have hus := rv.zero
  subst hus
  obtain ⟨z, its, n, r, hl, e⟩ := I.lstM hH
  refine call_meets F.slot_list_reverse ⟨_, e, rfl⟩ F.entry_list_reverse (F.args_list_reverse_1 _) (AutoSeq1.list_reverse_list_0 l its.toArray n (by rw [List.size_toArray]; omega)) ⟨e, ?_⟩
  refine ⟨.non, _, I.lset (its' := its.reverse) hH e (by simp) r.reverse ?_, rfl, q⟩
  rw [List.length_reverse]
  omega

def rClear : V → List V → Hp → VK → Prop := fun x vs H Q => ∃ l xs, x = .ref l ∧ vs = [] ∧ H l = some (.lst xs) ∧ Q .non (upd H l (.lst []))
theorem mt_clear : MtM X "list.clear" rClear := by
  intro pins s σ H x vs v us Q I rx rv h
  obtain ⟨l, xs, rfl, rfl, hH, q⟩ := h
  cases rx
  have hus := rv.zero
  subst hus
  obtain ⟨z, its, n, r, hl, e⟩ := I.lstM hH
  refine call_meets F.slot_list_clear ⟨_, e, rfl⟩ F.entry_list_clear (F.args_list_clear_1 _) (AutoSeq1.list_clear_list_0 l its.toArray n (by rw [List.size_toArray]; omega)) ⟨e, ?_⟩
  exact ⟨.non, _, I.lset (its' := []) (ys := []) hH e rfl .nil (Nat.zero_le _), rfl, q⟩

/-! ### list + list, list += list, list * int -/
def rCat : R2 := fun x y H Q => ∃ l b xs zs, x = .ref l ∧ y = .ref b ∧ H l = some (.lst xs) ∧ H b = some (.lst zs) ∧ xs.length + zs.length ≤ sizeLine ∧ ∀ p, H p = none → Q (.ref p) (upd H p (.lst (xs ++ zs)))
theorem op_cat : OpR X (binaryOp .Add) rCat := by
  intro pins s σ H x y v u Q I rx ry h
  obtain ⟨l, b, xs, zs, rfl, rfl, hH, hB, hz, q⟩ := h
  cases rx
  cases ry
  obtain ⟨z, its, n, r, hl, e⟩ := I.lstM hH
  obtain ⟨z2, its2, n2, r2, hl2, e2⟩ := I.lstM hB
  refine PySem.P.add_list e e2 ?_ (by rw [List.size_toArray, List.size_toArray]; omega)
  have ea : its.toArray ++ its2.toArray = (its ++ its2).toArray := by simp
  rw [ea]
  exact ⟨.ref _, _, I.lnew (t' := s.toks) (r.append r2) (by rw [List.length_append]; omega), rfl, q _ I.fresh⟩
/-- a list times an int (a negative one is nothing) -/
def rRep : R2 := fun x y H Q => ∃ l k xs, x = .ref l ∧ y = .int k ∧ H l = some (.lst xs) ∧ -(2 ^ 63) ≤ k ∧ k < 2 ^ 63 ∧ xs.length * k.toNat ≤ sizeLine ∧
  ∀ p, H p = none → Q (.ref p) (upd H p (.lst (List.replicate k.toNat xs).flatten))
theorem len_rep {α : Type} (xs : List α) (k : Nat) : (List.replicate k xs).flatten.length = k * xs.length := by
  induction k with
  | zero => simp
  | succ k ih => rw [List.replicate_succ, List.flatten_cons, List.length_append, ih, Nat.succ_mul, Nat.add_comm]
theorem op_rep : OpR X (binaryOp .Mult) rRep := by
  intro pins s σ H x y v u Q I rx ry h
  obtain ⟨l, k, xs, rfl, rfl, hH, h1, h2, hz, q⟩ := h
  cases rx
  obtain ⟨t, rfl⟩ := ry
  obtain ⟨z, its, n, r, hl, e⟩ := I.lstM hH
  have hlen : its.toArray.size * k.toNat ≤ sizeLine := by rw [List.size_toArray, ← hl]; exact hz
  have hcap : ¬ its.toArray.size * k.toNat > (2 ^ 63 - 1) / 8 := by
    have : (sizeLine : Nat) ≤ (2 ^ 63 - 1) / 8 := by decide
    omega
  have hfit : ¬ (!Builtin.List.listFitsIndex k) = true := by
    rw [fitsIndex_both h1 h2]
    exact Bool.false_ne_true
  have hlong : ¬ Builtin.List.listTooLong (its.toArray.size * k.toNat) = true := by
    rw [notLongL hlen]
    exact Bool.false_ne_true
  have hnew : List.foldl (fun x1 x2 => x1 ++ x2) #[] (List.replicate (if its.toArray.isEmpty = true then 0 else k.toNat) its.toArray) = (List.replicate k.toNat its).flatten.toArray := by
    have f0 : ∀ m : Nat, List.foldl (fun x1 x2 => x1 ++ x2) #[] (List.replicate m its.toArray) = (List.replicate m its).flatten.toArray := fun m => by
      have := foldl_rep its m []
      rw [List.nil_append] at this
      exact this
    rw [f0]
    cases its with
    | nil => simp
    | cons a r' => rw [if_neg (by simp)]
  refine wpAny_binaryOp_repeat_ref (T := "list") (U := "int") (by decide) ⟨_, e, rfl⟩ (fun s' => typeIs_int s' k t) noFill_list_mul F.fills_int_mul F.slot_int_rmul repeat_list F.slot_int_index.lookup
    (call_meets F.slot_int_rmul (typeIs_int s k t) F.entry_int_rmul (F.args_int_rmul_2 _ _) (int___rmul___int_list k t l its.toArray n)
      ⟨e, rfl, ⟨_, e, rfl⟩, call_meets F.slot_list_mul ⟨_, e, rfl⟩ F.entry_list_mul (F.args_list_mul_2 _ _) (AutoListH.list___mul___list_int_3 l its.toArray n k t hfit hcap hlong) ⟨e, ?_⟩⟩)
  rw [hnew]
  exact ⟨.ref _, _, I.lnew (t' := s.toks) (r.rep k.toNat) (by rw [len_rep, Nat.mul_comm]; exact hz), rfl, q _ I.fresh⟩

/-! ### del xs[i] -/
theorem del_list {pins : List (Addr × Obj)} {s : Shared} {σ : St} {H : Hp} {l : Addr} {xs : List V} {i : Int} {t : Tok} {k : Nat} {Q : Unit → Shared → Prop} (I : Inv X pins σ H s) (hH : H l = some (.lst xs))
    (h1 : -(2 ^ 63) ≤ i) (h2 : i < 2 ^ 63) (hk : seqIndex? i xs.length = some k) (h : ∀ s', Inv X pins σ (upd H l (.lst (xs.eraseIdx k))) s' → Q () s') :
    wpAny (model X.prog X.w) X.A (delItem (.ref l) (.int i t)) Q X.xe s := by
  obtain ⟨z, its, n, r, hl, e⟩ := I.lstM hH
  refine PySem.P.delItem_list (k := k) e (fitsIndex_both h1 h2) (by rw [List.size_toArray, ← hl]; exact hk) (h _ ?_) (by rw [List.size_toArray]; omega)
  refine I.lset (its' := its.eraseIdx k) (t' := s.toks) hH e ?_ (r.eraseIdx k) ?_
  · show its.toArray.eraseIdxIfInBounds k = (its.eraseIdx k).toArray
    rw [List.eraseIdxIfInBounds_toArray]
  · have := len_erase xs k
    omega
end

/-! ### xs[a:b] = ys -/
section
variable {prog : Program} {w : World} {A : Around} {E : Value → Shared → Prop} {s : Shared}
theorem splice_eq (its its2 : List Value) (a c : Nat) : its.toArray.extract 0 a ++ its2.toArray ++ its.toArray.extract c its.toArray.size = (its.take a ++ its2 ++ its.drop c).toArray := by
  apply Array.toList_inj.mp
  first
    | (simp
       exact List.take_of_length_le (by simp))
    | simp [List.take_of_length_le]
    | simp
theorem bounds_run {a c n : Nat} (hac : a ≤ c) (hc : c ≤ n) : sliceBounds (some (a : Int)) (some (c : Int)) none n = ((a : Int), (c : Int), 1) := by
  simp only [sliceBounds, Option.getD_none]
  have h1 : ¬ ((a : Int) < 0) := by omega
  have h2 : ¬ ((c : Int) < 0) := by omega
  simp only [h1, h2, if_false, show (1 : Int) > 0 by decide, if_true]
  congr 1
  · omega
  · congr 1; omega
set_option maxRecDepth 100000 in
/-- list.__setitem__ with a slice of step one and another list -/
theorem setItem_slice {l b sl : Addr} {items new : Array Value} {n n2 : Nat} {vl vu : Value} {a c : Nat} {Q : Unit → Shared → Prop}
    (e : s.heap.get? l = some { cls := .type "list", data := .seq items n }) (e2 : s.heap.get? b = some { cls := .type "list", data := .seq new n2 }) (hne : l ≠ b)
    (hs : s.heap.IsSliceOf sl vl vu .none) (pl : IsPart vl (some (a : Int))) (pu : IsPart vu (some (c : Int))) (hac : a ≤ c) (hc : c ≤ items.size)
    (hsz : items.size + new.size ≤ sizeLine) (h : Q () { s with heap := s.heap.update l (Obj.mapSeq fun xs => xs.extract 0 a ++ new ++ xs.extract c xs.size) }) :
    wpAny (model prog w) A (setItem (.ref l) (.ref sl) (.ref b)) Q E s := by
  have hl : s.heap.IsList l items := PySem.IsL.isList e
  have hb : s.heap.IsList b new := PySem.IsL.isList e2
  obtain ⟨os, hos, hcs, hds⟩ := id hs
  have hTs : s.TypeIs (.ref sl) "slice" := ⟨os, hos, hcs⟩
  have hstep : ¬ ((rawPart none == rawInt 0) = true) := Bool.false_ne_true
  have hsame : Builtin.List.listSameRef (.ref l) (.ref b) = false := by
    unfold Builtin.List.listSameRef
    exact beq_eq_false_iff_ne.mpr hne
  have hmax : (max (a : Int) (c : Int)).toNat = c := by omega
  have hz' : ((fun xs : Array Value => xs.extract 0 a ++ new ++ xs.extract c xs.size) items).size ≤ sizeLine + 1 := by
    simp only [Array.size_append, Array.size_extract]
    omega
  unfold setItem
  try with_reducible refine wpAny_holding ?_
  first | refine wpAny_bind (wpAny_pure ?_) | skip
  refine wpAny_bind (wpAny_sequenceKey hl.typeIs (by decide) ?_)
  refine wpAny_bind (wpAny_callSpecial?_slot (name := Str.ofString "__setitem__") hl.typeIs slot_list_setitem
    (wpAny_call_entry slot_list_setitem hl.typeIs entry_list_setitem ?_ (args_list_setitem _ _ _)))
  show wpAny _ _ (Builtin.List.listSubscript? (.ref sl) >>= _) _ _ s
  refine wpAny_bind ?_
  unfold Builtin.List.listSubscript?
  refine wpAny_bind (wpAny_specialOf hTs slice_no_index ?_)
  simp only [Option.isNone_none, if_true]
  refine wpAny_pure ?_
  show wpAny _ _ (typeOf (.ref sl) >>= _) _ _ s
  refine wpAny_bind (wpAny_typeOf hTs ?_)
  first
    | rw [if_neg (by decide)]
    | refine PySem.W.KFB.if_not (by decide) ?_
  rw [listSliceParts_eq]
  refine wpAny_bind (wpAny_bind (wpAny_field hos hds (x := .none) rfl (wpAny_bind (wpAny_listPart .none ?_))))
  rw [if_neg hstep]
  refine wpAny_bind (wpAny_field hos hds (x := vl) rfl (wpAny_bind (wpAny_listPart pl ?_)))
  refine wpAny_bind (wpAny_field hos hds (x := vu) rfl (wpAny_bind (wpAny_listPart pu (wpAny_pure ?_))))
  first
    | simp only [hsame, Bool.false_eq_true, if_false]
    | refine PySem.W.KFB.if_not hsame ?_
    | (dsimp only
       rw [if_neg (by rw [hsame]; exact Bool.false_ne_true)])
  refine wpAny_bind (m := Builtin.List.listAllItems (.ref b) "must assign iterable to extended slice") ?_
  unfold Builtin.List.listAllItems
  refine wpAny_bind (wpAny_typeOf hb.typeIs ?_)
  first
    | refine PySem.W.KFB.if_so (by decide) ?_
    | rw [if_pos (by decide)]
    | simp only [beq_self_eq_true, Bool.true_or, if_true]
  unfold Builtin.List.listItems
  refine wpAny_bind (wpAny_seqItems e2 rfl (wpAny_pure ?_))
  refine wpAny_bind (wpAny_bind (wpAny_seqItems e rfl (wpAny_pure ?_)))
  refine wpAny_bind (wpAny_of_eq ((sliceIndices_raw (some (a : Int)) (some (c : Int)) none items.size (by simp)).trans (congrArg (pure : Int × Int × Int → Sem (Int × Int × Int)) (bounds_run hac hc))) ?_)
  show wpAny _ _ (if ((1 : Int) == 1) = true then _ else _) _ _ s
  rw [if_pos (by decide)]
  refine wpAny_bind (wpAny_rule ?_)
  first
    | simp only [notLongL hsz, Bool.false_eq_true, if_false]
    | refine PySem.W.KFB.if_not (notLongL hsz) ?_
  first | refine wpAny_bind (wpAny_pure ?_) | skip
  show wpAny _ _ (updateSeq l (fun xs => xs.extract 0 ((a : Int)).toNat ++ new ++ xs.extract (max (a : Int) (c : Int)).toNat xs.size) >>= _) _ _ s
  rw [hmax, Int.toNat_natCast]
  refine wpAny_bind (wpAny_updateSeq (hz := Nat.le_trans (Nat.le_add_right _ _) hsz) (_hz' := hz') e rfl ?_)
  refine wpAny_bind (wpAny_letGo ?_)
  first
    | exact wpAny_bind (wpAny_pure (wpAny_pure ⟨.none, rfl, wpAny_pure h⟩))
    | exact wpAny_pure ⟨.none, rfl, wpAny_pure h⟩
end

section
variable {X : Cx}
/-- xs[a:c] = ys of another list, at the value level: sl is the slice object that was just made -/
theorem set_slice {pins : List (Addr × Obj)} {s : Shared} {σ : St} {H : Hp} {l b sl : Addr} {xs ys : List V} {a c : Int} {vl vu : Value} {Q : Unit → Shared → Prop} (I : Inv X pins σ H s)
    (hH : H l = some (.lst xs)) (hB : H b = some (.lst ys)) (hne : l ≠ b) (hs : s.heap.IsSliceOf sl vl vu .none) (ra : RelV (.int a) vl) (rc : RelV (.int c) vu) (h0 : 0 ≤ a) (hac : a ≤ c) (hc : c ≤ xs.length)
    (hz : xs.length + ys.length ≤ sizeLine) (h : ∀ s', Inv X pins σ (upd H l (.lst (xs.take a.toNat ++ ys ++ xs.drop c.toNat))) s' → Q () s') :
    wpAny (model X.prog X.w) X.A (setItem (.ref l) (.ref sl) (.ref b)) Q X.xe s := by
  obtain ⟨ta, rfl⟩ := ra
  obtain ⟨tc, rfl⟩ := rc
  obtain ⟨z, its, n, r, hl, e⟩ := I.lstM hH
  obtain ⟨z2, its2, n2, r2, hl2, e2⟩ := I.lstM hB
  obtain ⟨a', rfl⟩ := Int.eq_ofNat_of_zero_le h0
  obtain ⟨c', rfl⟩ := Int.eq_ofNat_of_zero_le (Int.le_trans h0 hac)
  simp only [Int.toNat_natCast] at h
  refine setItem_slice (a := a') (c := c') e e2 hne hs (.int _ _) (.int _ _) (by omega) (by rw [List.size_toArray]; omega) (by rw [List.size_toArray, List.size_toArray]; omega) (h _ ?_)
  refine I.lset (its' := its.take a' ++ its2 ++ its.drop c') (t' := s.toks) hH e ?_ (Vals.append (Vals.append (r.take _) r2) (r.drop _)) ?_
  · exact splice_eq its its2 a' c'
  · rw [List.length_append, List.length_append, List.length_take, List.length_drop]
    omega
end
end L2

namespace Att
open PySem PySem.W PySem.Calls PyProof.Rows

/-! ### the script -/
theorem ints_of_wellAll {P : Params} {h : Heap} : ∀ (ns : List Int) (vs : List Value), WellAll P h vs (ns.map WData.int) → IntsAre vs ns := by
  intro ns
  induction ns with
  | nil =>
    intro vs w
    rw [List.map_nil] at w
    cases w
    exact .nil
  | cons n ns ih =>
    intro vs w
    rw [List.map_cons] at w
    cases w with
    | cons a b =>
      cases a
      exact .cons _ _ (ih _ b)

theorem script_of {l : OpenLaw} {n : Nat} (hn : l.most = some n) {P : Params} {h : Heap} {args : List WData} {vals : List Value}
    (hpre : l.row.toRowW.claim.pre args = true) (hwl : WellAll P h vals args) :
    ∃ a vs ns, vals = [Value.ref a] ∧ args = [WData.list (ns.map WData.int)] ∧ h.get? a = some { cls := .type "list", data := .seq vs.toArray } ∧ IntsAre vs ns ∧ ns.length ≤ n := by
  have hsh : WShape.hasAll [] args [.list .int] = true := (pre_splitW hpre).1
  have hc : l.pre.holds [] { args := args } = true := (pre_splitW hpre).2
  obtain ⟨d, r, rfl, h1, h2⟩ := hasAllW_cons hsh
  obtain rfl := hasAllW_nil h2
  obtain ⟨xs, rfl, h3⟩ := hasW_list h1
  obtain ⟨ns, rfl⟩ := items_int h3
  have hlen : ns.length ≤ n := by
    unfold OpenLaw.pre at hc
    have h4 : (WTm.not (.lt (.lit (.int (n : Int))) (.len (.arg 0)))).holds [] { args := [.list (ns.map .int)] } = true := by
      have h4 := (holds_andW hc).1
      rw [hn] at h4
      exact h4
    have h5 := condW_of h4 (w_not (w_lt w_lit (w_len_list (w_arg rfl))))
    rw [List.length_map] at h5
    refine Nat.le_of_not_lt fun q => ?_
    have q' : (n : Int) < ((ns.length : Nat) : Int) := by omega
    first
      | (rw [decide_eq_true q'] at h5; exact absurd h5 (by decide))
      | (simp at h5; omega)
  cases hwl with
  | cons w1 w2 =>
    cases w2
    cases w1 with
    | list ho hall => exact ⟨_, _, ns, rfl, rfl, ho, ints_of_wellAll ns _ hall, hlen⟩

theorem post_true (l : OpenLaw) (args : List WData) : l.row.toRowW.claim.post args (.bool true) args = true :=
  postW_of (r := l.row.toRowW) (X := (true == true))
    (show WShape.has [] (.bool true) .bool = true by first | rfl | decide | simp [WShape.has, WShape.arms, WShape.armsAll])
    (show (WTm.eq .res (.lit (.bool true))).value [] { args := args, res := some (.bool true), after := args } = some (.bool (true == true)) from w_eq_bool (w_res rfl) w_lit) rfl

/-! ### the attachment: holds_open's last premise (the goal 'hc' behind k_head) from a wpAny of the law's body -/
theorem attach {l : OpenLaw} {n : Nat} {q : Program} {loose : List Str} {XP : (Str → Option Value) → Heap → Prop} {YP : World → Heap → Prop} {d : DefRec} {x : Str}
    (hn : l.most = some n) (hdf : d.params.defaults = [])
    (hbind : ∀ pm cd doc v : Value, bindArgs (docDef d.name d.params d.body d.scope pm cd doc) ⟨[v], []⟩ = pure [(x, v)])
    (hx : d.scope.names.lookup x = some .local ∨ d.scope.names.lookup x = some .cell)
    (hk : d.scope.kind = .function) (hco : d.scope.isCoroutine = false) (hgen : d.scope.isGenerator = false)
    (body : ∀ (w : World) (s₀ s₁ s : Shared) (mg mb : Str → Option Value) (fa : Addr) (o : Obj) (pm cd doc : Value) (a : Addr) (vs : List Value) (ns : List Int),
      Ground q loose [] XP w s₀ mg mb s₁.heap → YP w s₁.heap →
      s₁.heap.get? fa = some o → o.data = .func (docDef d.name d.params d.body d.scope pm cd doc) → s₁.heap.CodeRec cd d.name → mg d.name = some (.ref fa) →
      s₁.heap.get? a = some { cls := .type "list", data := .seq vs.toArray } → IntsAre vs ns → ns.length ≤ n →
      s.gens = #[] → s.os = s₁.os →
      Fr s₁.heap s₁.heap.objs.size s.heap (bindL (envOfC d.name d.scope s₁.heap.objs.size fa cd).kindOf [(x, .ref a)] fun _ => none) →
      Cl s₁.heap.objs.size (cellsFrom (s₁.heap.objs.size + 1) d.scope.names []) s.heap (bindC (envOfC d.name d.scope s₁.heap.objs.size fa cd).kindOf [(x, .ref a)] fun _ => none) →
      wpAny (model l.prog w) (callerA.deeper (envOfC d.name d.scope s₁.heap.objs.size fa cd)) (execs d.body (envOfC d.name d.scope s₁.heap.objs.size fa cd))
        (fun f s' => f = .ret (.bool true) ∧ OldK s₁.heap s'.heap ∧ s'.os = s₁.os ∧ AllBare s'.gens) (fun _ _ => False) s) :
    WalkO q loose XP YP l.row.toRowW d [] (fun f vs => PySem.call f vs) := by
  intro w s₀ s₁ mg mb G Y fa o pm cd doc dV kV ho hd hcd hD hmg hg args vals as hpre hlay hrd hwl hlo
  obtain rfl : dV = .none := Dflts.none hD hdf
  obtain rfl : kV = .none := Dflts.noKw hD
  obtain ⟨a, vs, ns, rfl, rfl, hobj, hints, hlen⟩ := script_of hn hpre hwl
  refine enter_call ?_
  refine call_cells_ret (o := o) (by rw [depth_caller]; decide) ho (fd_plain hd) G.T.nolimit hcd (hbind pm cd doc (.ref a)) (fun y hy => ?_) (fun h₁ tk F X => ?_) hco hgen hk
  · obtain rfl : y = (x, Value.ref a) := List.mem_singleton.mp hy
    rcases hx with e | e
    · exact .inl e
    · exact .inr ⟨e, cellsFrom_some _ _ _ (.inl e)⟩
  · refine wpAny_mono (body w s₀ s₁ { s₁ with heap := h₁, toks := tk } mg mb fa o pm cd doc a vs ns G Y ho (fd_plain hd) hcd hmg hobj hints hlen hg rfl F X) (fun f s' hq => ?_) (fun _ _ hq => hq)
    obtain ⟨rfl, h2, h3, h4⟩ := hq
    exact ⟨.inl ⟨.bool true, .bool true, [], rfl, fun _ => rfl, .bool true, post_true l _, fun _ => ⟨List.Pairwise.nil, fun _ hm => (nomatch hm)⟩⟩, h2, h3, h4⟩

/-- the same from a codeAny of the CALL (for a layer whose function contracts speak of calls) -/
theorem attach_call {l : OpenLaw} {n : Nat} {q : Program} {loose : List Str} {XP : (Str → Option Value) → Heap → Prop} {YP : World → Heap → Prop} {d : DefRec}
    (hn : l.most = some n) (hdf : d.params.defaults = [])
    (call : ∀ (w : World) (s₀ s₁ : Shared) (mg mb : Str → Option Value) (fa : Addr) (o : Obj) (pm cd doc : Value) (a : Addr) (vs : List Value) (ns : List Int),
      Ground q loose [] XP w s₀ mg mb s₁.heap → YP w s₁.heap →
      s₁.heap.get? fa = some o → o.data = .func (docDef d.name d.params d.body d.scope pm cd doc) → s₁.heap.CodeRec cd d.name → mg d.name = some (.ref fa) →
      s₁.heap.get? a = some { cls := .type "list", data := .seq vs.toArray } → IntsAre vs ns → ns.length ≤ n → s₁.gens = #[] →
      codeAny (model l.prog w) callerA (.call (.ref fa) ⟨[.ref a], []⟩) (fun r s' => r = .ok (.ret (.bool true)) ∧ OldK s₁.heap s'.heap ∧ s'.os = s₁.os ∧ AllBare s'.gens) s₁) :
    WalkO q loose XP YP l.row.toRowW d [] (fun f vs => PySem.call f vs) := by
  intro w s₀ s₁ mg mb G Y fa o pm cd doc dV kV ho hd hcd hD hmg hg args vals as hpre hlay hrd hwl hlo
  obtain rfl : dV = .none := Dflts.none hD hdf
  obtain rfl : kV = .none := Dflts.noKw hD
  obtain ⟨a, vs, ns, rfl, rfl, hobj, hints, hlen⟩ := script_of hn hpre hwl
  refine enter_call (codeAny_mono (call w s₀ s₁ mg mb fa o pm cd doc a vs ns G Y ho (fd_plain hd) hcd hmg hobj hints hlen hg) fun r s' hq => ?_)
  obtain ⟨rfl, h2, h3, h4⟩ := hq
  exact ⟨.inl ⟨.bool true, .bool true, [], rfl, fun _ => rfl, .bool true, post_true l _, fun _ => ⟨List.Pairwise.nil, fun _ hm => (nomatch hm)⟩⟩, h2, h3, h4⟩

/-- the same where the top left finished generators (o_head chose holds_openN): nothing may have changed at all and no generator may be left -/
theorem attachN {l : OpenLaw} {n : Nat} {q : Program} {loose : List Str} {XP : (Str → Option Value) → Heap → Prop} {YP : World → Heap → Prop} {d : DefRec} {x : Str}
    (hn : l.most = some n) (hdf : d.params.defaults = [])
    (hbind : ∀ pm cd doc v : Value, bindArgs (docDef d.name d.params d.body d.scope pm cd doc) ⟨[v], []⟩ = pure [(x, v)])
    (hx : d.scope.names.lookup x = some .local ∨ d.scope.names.lookup x = some .cell)
    (hk : d.scope.kind = .function) (hco : d.scope.isCoroutine = false) (hgen : d.scope.isGenerator = false)
    (body : ∀ (w : World) (s₀ s₁ s : Shared) (mg mb : Str → Option Value) (fa : Addr) (o : Obj) (pm cd doc : Value) (a : Addr) (vs : List Value) (ns : List Int),
      Ground q loose [] XP w s₀ mg mb s₁.heap → YP w s₁.heap →
      s₁.heap.get? fa = some o → o.data = .func (docDef d.name d.params d.body d.scope pm cd doc) → s₁.heap.CodeRec cd d.name → mg d.name = some (.ref fa) →
      s₁.heap.get? a = some { cls := .type "list", data := .seq vs.toArray } → IntsAre vs ns → ns.length ≤ n →
      s.gens = #[] → s.os = s₁.os →
      Fr s₁.heap s₁.heap.objs.size s.heap (bindL (envOfC d.name d.scope s₁.heap.objs.size fa cd).kindOf [(x, .ref a)] fun _ => none) →
      Cl s₁.heap.objs.size (cellsFrom (s₁.heap.objs.size + 1) d.scope.names []) s.heap (bindC (envOfC d.name d.scope s₁.heap.objs.size fa cd).kindOf [(x, .ref a)] fun _ => none) →
      wpAny (model l.prog w) (callerA.deeper (envOfC d.name d.scope s₁.heap.objs.size fa cd)) (execs d.body (envOfC d.name d.scope s₁.heap.objs.size fa cd))
        (fun f s' => f = .ret (.bool true) ∧ (∀ b o, s₁.heap.get? b = some o → s'.heap.get? b = some o) ∧ s'.os = s₁.os ∧ s'.gens = #[]) (fun _ _ => False) s) :
    WalkN q loose XP YP l.row.toRowW d [] (fun f vs => PySem.call f vs) := by
  intro w s₀ s₁ mg mb G Y fa o pm cd doc dV kV ho hd hcd hD hmg hg args vals as hpre hlay hrd hwl hlo
  obtain rfl : dV = .none := Dflts.none hD hdf
  obtain rfl : kV = .none := Dflts.noKw hD
  obtain ⟨a, vs, ns, rfl, rfl, hobj, hints, hlen⟩ := script_of hn hpre hwl
  refine enter_callW ?_
  refine call_cells_ret (o := o) (by rw [depth_caller]; decide) ho (fd_plain hd) G.T.nolimit hcd (hbind pm cd doc (.ref a)) (fun y hy => ?_) (fun h₁ tk F X => ?_) hco hgen hk
  · obtain rfl : y = (x, Value.ref a) := List.mem_singleton.mp hy
    rcases hx with e | e
    · exact .inl e
    · exact .inr ⟨e, cellsFrom_some _ _ _ (.inl e)⟩
  · refine wpAny_mono (body w s₀ s₁ { s₁ with heap := h₁, toks := tk } mg mb fa o pm cd doc a vs ns G Y ho (fd_plain hd) hcd hmg hobj hints hlen hg rfl F X) (fun f s' hq => ?_) (fun _ _ hq => hq)
    obtain ⟨rfl, h2, h3, h4⟩ := hq
    exact ⟨.inl ⟨.bool true, .bool true, [], rfl, fun _ => rfl, .bool true, post_true l _, fun _ => ⟨List.Pairwise.nil, fun _ hm => (nomatch hm)⟩⟩, h2, h3, h4⟩

/-! ### rules over ANY heap (no ledger) from facts about the written part K: the library's own take a ledger (News) for what they write -/
section
variable {prog : Program} {w : World} {A : Around} {E : Value → Shared → Prop} {s : Shared} {K : Frag}

/-- a def of the module, or a method (qual 'C.m'), entered: the frame is the next address; cells behind it -/
theorem call_fn {R : Result → Shared → Prop} {name qual : Str} {params : Arguments} {body : List Stmt} {scope : Scope} {dV kV doc pm cdv ct oc : Value} {an od : Option Addr} {osl : Array (Option Value)} {f : Addr} {args : Args} {binds : List (Str × Value)}
    (X : K.In s.heap) (hlim : s.heap.NoLimit) (ho : K.lookup f = some ⟨oc, od, .func (fnOf name qual params body scope dV kV doc pm an cdv ct), osl⟩) (hcd : codeIn K cdv qual = true) (hroom : A.depth < recursionLimit)
    (hbind : BindsTo s (fnOf name qual params body scope dV kV doc pm an cdv ct) args binds)
    (hkind : (binds.all fun y => scope.names.lookup y.1 == some .local || scope.names.lookup y.1 == some .cell) = true)
    (h : ∀ s₁, InCallC s s.heap.objs.size (bindL (envOfC qual scope s.heap.objs.size f cdv).kindOf binds fun _ => none) (cellsFrom (s.heap.objs.size + 1) scope.names [])
        (bindC (envOfC qual scope s.heap.objs.size f cdv).kindOf binds fun _ => none) s₁ →
      wpAny (model prog w) (A.deeper (envOfC qual scope s.heap.objs.size f cdv)) (execs body (envOfC qual scope s.heap.objs.size f cdv))
        (fun fl s' => R (.ok (.ret (match fl with | .ret v => v | _ => .none))) s')
        (fun e s' => wpAny (model prog w) (A.deeper (envOfC qual scope s.heap.objs.size f cdv)) (leaving (envOfC qual scope s.heap.objs.size f cdv) e) (fun _ s'' => R (.error e) s'') (fun e' s'' => R (.error e') s'') s') s₁)
    (hco : scope.isCoroutine = false) (hgen : scope.isGenerator = false) (hk : scope.kind = .function) : codeAny (model prog w) A (.call (.ref f) args) R s := by
  refine codeAny_call_function hroom (X _ _ ho) rfl hco hgen rfl (codeRec_of X hcd) (hbind _ _ _ _ ?_)
  refine wpAny_newFunctionEnv_cells hk (kindsX hkind _) fun env he s₁ x => ?_
  subst he
  exact ⟨hlim.keeps x.toInCall.keep, codeAny_func (h s₁ x)⟩

/-- C(..): dict at size, instance at size + 1, then __init__ -/
theorem make_obj {R : Result → Shared → Prop} {C fI : Addr} {rest : List Value} {kw : List (Str × Value)}
    (X : K.In s.heap) (hm : makesIn K C = true) (hi : findIn K (.ref C) "__init__" = some (some (.ref fI))) (hf : isFn K (.ref fI) = true)
    (h : codeAny (model prog w) (A.under (.builtin "type.__call__" ⟨.ref C :: rest, kw⟩)) (.call (.ref fI) ⟨.ref (s.heap.objs.size + 1) :: rest, kw⟩) (InitBack (s.heap.objs.size + 1) R)
      { s with heap := (s.heap.push emptyDict).push (instObj C s.heap.objs.size) }) : codeAny (model prog w) A (.call (.ref C) ⟨rest, kw⟩) R s := by
  obtain ⟨hh, g, d, t, os⟩ := s
  exact make_core (makes_of X hm) (looks_findIn X hi) (fun self => bind_fn X self (beq_iff_eq.mp hf)) (.inl rfl) h

/-- x.name where the instance's dict holds the name and the class does not -/
theorem get_field {x C : Addr} {ox : Obj} {es : List DictEntry} {n : Nat} {name : Str} {expr : Bool} {v : Value} {Q : Value → Shared → Prop}
    (X : K.In s.heap) (I : PySem.W.InstAt s.heap x ox C (some (dictOf es n))) (hg : plainGet K C name = true) (hh : hasDictIn K C = true) (ha : findIn K (.ref C) name = some none)
    (hl : getL name es = some (some v)) (hv : handedIn v = true) (h : Q v { s with toks := s.toks + 1 }) : wpAny (model prog w) A (getAttr (.ref x) name expr) Q E s :=
  get_value X I (plainGet_of hg).1 (findObj_own hh ha rfl hl) hv h

/-- x.m(..): the method found in the class -/
theorem get_method {x C f : Addr} {ox : Obj} {es : List DictEntry} {n : Nat} {name : Str} {pl : Sem Bool} {Q : Value × List Value → Shared → Prop}
    (X : K.In s.heap) (I : PySem.W.InstAt s.heap x ox C (some (dictOf es n))) (hg : plainGet K C name = true) (hf : findIn K (.ref C) name = some (some (.ref f))) (ht : isFn K (.ref f) = true)
    (hl : getL name es = some none) (h : Q (.ref f, [.ref x]) s) : wpAny (model prog w) A (getMethod (.ref x) name pl) Q E s :=
  method_fn X I (plainGet_of hg).1 (plainGet_of hg).2 hf (beq_iff_eq.mp ht) (by show (lookIn name (dictOf es n)).map _ = _; rw [lookIn_dict, hl]; rfl) h

/-! the whole heap as the ledger: makes every rule that writes through a ledger a rule over any heap -/
def noObjs (h : Heap) : Heap := { h with objs := #[] }
theorem noObjs_get (h : Heap) (b : Addr) : (noObjs h).get? b = none := by
  cases e : (noObjs h).get? b with
  | none => rfl
  | some o => exact absurd (Heap.lt_size e) (Nat.not_lt_zero _)
def ledger (h : Heap) (L d : Addr) : List (Addr × Obj) := (List.range h.objs.size).filterMap fun a => if a = L ∨ a = d then none else (h.get? a).map fun o => (a, o)
theorem mem_ledger {h : Heap} {L d a : Addr} {o : Obj} : (a, o) ∈ ledger h L d ↔ a ≠ L ∧ a ≠ d ∧ h.get? a = some o := by
  unfold ledger
  rw [List.mem_filterMap]
  constructor
  · rintro ⟨b, _, e⟩
    split at e
    · cases e
    · rename_i hb
      obtain ⟨o', ho, e'⟩ := Option.map_eq_some_iff.mp e
      cases e'
      exact ⟨fun q => hb (.inl q), fun q => hb (.inr q), ho⟩
  · rintro ⟨n1, n2, ho⟩
    refine ⟨a, List.mem_range.mpr (Heap.lt_size ho), ?_⟩
    rw [if_neg (show ¬ (a = L ∨ a = d) from fun q => q.elim n1 n2), ho] <;> rfl
theorem news_ledger {h : Heap} {L d : Addr} {od : Obj} (hne : d ≠ L) (ho : h.get? d = some od) : News (noObjs h) L h ([] ++ (d, od) :: ledger h L d) := by
  rintro ⟨a, o⟩ hp
  rcases List.mem_cons.mp hp with e | hp
  · cases e
    exact ⟨ho, hne, noObjs_get _ _⟩
  · obtain ⟨n1, n2, e⟩ := mem_ledger.mp hp
    exact ⟨e, n1, noObjs_get _ _⟩
theorem fr_all {h : Heap} {L : Addr} {m : Str → Option Value} (n : h.Ns L m) : Fr (noObjs h) L h m :=
  ⟨n, fun b o e => (by rw [noObjs_get] at e; cases e), Nat.zero_le _⟩
/-- Upd of the head entry (for append_K, setItem_K ..) -/
theorem upd_ledger {h : Heap} {L d : Addr} {o o' : Obj} : Upd d o o' ((d, o) :: ledger h L d) ((d, o') :: ledger h L d) :=
  .head fun ⟨_, _⟩ hp => (mem_ledger.mp hp).2.1

/-- x.name = v over any heap: L is any namespace of the heap (the frame's, say): its map stays, its object is not told; all else but the dict stays -/
theorem set_field {x C dx L : Addr} {ox : Obj} {m : Str → Option Value} {es es' : List DictEntry} {n n' : Nat} {name : Str} {v : Value} {Q : Unit → Shared → Prop}
    (X : K.In s.heap) (I : PySem.W.InstAt s.heap x ox C (some (dictOf es n))) (hd : ox.dict = some dx) (hL : s.heap.Ns L m) (hne : dx ≠ L)
    (hs : findIn K (.ref C) "__setattr__" = some (some (.builtin "object.__setattr__"))) (hp : plainOver K C = true) (ht : takerIn K C name = some none) (hh : hasDictIn K C = true) (hl : (getL name es).isSome = true)
    (e : (putL name (PyData.keyHash w.params name) (.str name (s.toks + 1)) v es, putN name es n) = (es', n')) (hz : es'.length ≤ 1000)
    (h : ∀ h' : Heap, h'.Ns L m → h'.get? dx = some (dictOf es' n') → (∀ b o, b ≠ dx → b ≠ L → s.heap.get? b = some o → h'.get? b = some o) → Q () { s with heap := h', toks := s.toks + 2 }) :
    wpAny (model prog w) A (setAttr (.ref x) name v) Q E s := by
  obtain ⟨e1, e2⟩ := Prod.mk.inj e
  have hdx : s.heap.get? dx = some (dictOf es n) := by
    have := I.dict
    rw [hd] at this
    exact this
  refine set_plain X I hs (osa_dict (s := { s with toks := s.toks + 1 }) (h₀ := noObjs s.heap) (L := L) (m := m) (od := dictOf es n) (od' := dictOf es' n') (es := es') (n := n') (pre := []) (post := ledger s.heap L dx)
    (fr_all hL) (news_ledger hne hdx) X I hd hp ht hh hl (fun _ q => nomatch q) (fun ⟨_, _⟩ q => (mem_ledger.mp q).2.1) (by rw [putName_dict, e1, e2]) rfl hz fun h' F' N' => ?_)
  exact h h' F'.ns (N'.get (List.Mem.head _)) fun b o n1 n2 ho => N'.get (List.Mem.tail _ (mem_ledger.mpr ⟨n2, n1, ho⟩))
end
end Att

namespace L2
open PySem PySem.Spec PyProof.Rows

theorem vals_ints : ∀ {vs : List Value} {ns : List Int}, IntsAre vs ns → Vals (ns.map V.int) vs
  | _, _, .nil => .nil
  | _, _, .cons n t h => .cons ⟨t, rfl⟩ (vals_ints h)

/-- nothing is tracked but the script, known to the object (or it is an object of the module) -/
def Only (H : Hp) : Prop := ∀ b, H b = none ∨ ∃ o xs, H b = some (.frz o (.lst xs))

/-- THE HEAD: the law's promise, at the heap behind the top. F, the promise of the law's def, may use that base is part of the heap (so K.In base, base.Ns mainGlobals mg stand in Mod) -/
theorem law_call {P : Program} {w : World} {K : PySem.W.Frag} {mg mb : Str → Option Value} {CX : CXT} {k : Nat} {fa a : Addr} {fd : FuncData} {x : Str} {sp : Sp} {s₁ : Shared} {vs : List Value} {ns : List Int}
    (KX : K.In s₁.heap) (hns : s₁.heap.Ns mainGlobals mg) (hb : s₁.heap.Ns builtinsNs mb) (hbb : ∀ x : Str, x ≠ "__name__" → mb x = bootBuiltins x) (hlim : s₁.heap.NoLimit) (hg : s₁.gens = #[])
    (ha : s₁.heap.get? a = some { cls := .type "list", data := .seq vs.toArray }) (hi : IntsAre vs ns) (hl : ns.length ≤ sizeLine) (hr : Room k callerA)
    (F : ∀ base : Heap, K.In base → base.Ns mainGlobals mg → FnOk P w K mg base CX k fa fd [x] sp) (hbind : ∀ (s : Shared) (u : Value), BindsTo s fd ⟨[u], []⟩ [(x, u)])
    (hsp : ∀ H : Hp, Only H → SqL K H a (ns.map V.int) → sp [.ref a] H (fun v _ => v = .bl true) fun _ _ _ => False)
    (hCX : ∀ H e s', CX [] H s₁ (fun _ _ _ => False) e s' → False) :
    codeAny (model P w) callerA (.call (.ref fa) ⟨[.ref a], []⟩) (fun r s' => r = .ok (.ret (.bool true)) ∧ OldK s₁.heap s'.heap ∧ s'.os = s₁.os ∧ AllBare s'.gens) s₁ := by
  have rv := vals_ints hi
  have lenV := hi.length
  -- from an abstract heap in which nothing but the script may be tracked
  have core : ∀ H : Hp, Only H → SqL K H a (ns.map V.int) → HOk P w H s₁.heap → (∀ b, H b ≠ none → b = a) → (H a ≠ none → K.lookup a = none) →
      codeAny (model P w) callerA (.call (.ref fa) ⟨[.ref a], []⟩) (fun r s' => r = .ok (.ret (.bool true)) ∧ OldK s₁.heap s'.heap ∧ s'.os = s₁.os ∧ AllBare s'.gens) s₁ := by
    intro H hO hS hok hA hK
    have base_of : ∀ {b : Addr} {o : Obj}, s₁.heap.get? b = some o → H b = none → (hidT s₁.heap H).get? b = some o := fun e n => hidT_get e n
    have noA : ∀ {b : Addr} {o : Obj} {es : Array DictEntry} {ep : Nat}, s₁.heap.get? b = some o → o.data = .dict es ep → H b = none := fun {b o es ep} e d => by
      cases q : H b with
      | none => rfl
      | some u =>
        have e' : b = a := hA b (by rw [q]; simp)
        subst e'
        rw [ha] at e; cases e
        have d' : Data.seq vs.toArray _ = Data.dict es ep := d
        cases d'
    have nsK : ∀ {b : Addr} {m : Str → Option Value}, s₁.heap.Ns b m → (hidT s₁.heap H).Ns b m := fun {b m} ⟨o, es, ep, e, d, r⟩ => ⟨o, es, ep, base_of e (noA e d), d, r⟩
    have hKb : K.In (hidT s₁.heap H) := fun b o e => base_of (KX b o e) (by
      cases q : H b with
      | none => rfl
      | some u =>
        have e' : b = a := hA b (by rw [q]; simp)
        subst e'
        rw [hK (by rw [q]; simp)] at e; cases e)
    have hM : Mod K mg (hidT s₁.heap H) := ⟨hKb, nsK hns, ⟨mb, nsK hb, hbb⟩, let ⟨mc, h1, h2⟩ := hlim; ⟨mc, nsK h1, h2⟩⟩
    have e0 : Env0 P w K mg (hidT s₁.heap H) callerA [] s₁ H := ⟨rfl, hM, fun b o e => of_hidT e, Nat.le_of_eq (hidT_size _ _), trivial, fun b hb => absurd (show b ∈ ([] : List Addr) from hb) (by simp), hok, .of_eq hg⟩
    refine codeAny_mono ((F _ hKb (nsK hns)).run callerA [] s₁ H ⟨[.ref a], []⟩ [.ref a] [.ref a] _ _ hr e0 (hbind s₁ (.ref a)) (.cons rfl .nil) (hsp H hO hS)) fun r s' h => ?_
    cases r with
    | error e => exact (hCX H e s' h).elim
    | ok fl =>
      cases fl with
      | next => exact False.elim h
      | brk => exact False.elim h
      | cont => exact False.elim h
      | ret u =>
        obtain ⟨v, H', os, bare, un, hok', r', q⟩ := h
        have q' : v = .bl true := q
        subst q'
        obtain rfl : u = Value.bool true := r'
        refine ⟨rfl, OldK.of_keep fun b o e => ?_, os, bare⟩
        cases q : H b with
        | none => exact un.keep b o e q (by intro z; exact absurd (show b ∈ ([] : List Addr) from z) (by simp)) (by simp)
        | some u =>
          rcases hO b with z | ⟨ob, xs, z⟩
          · rw [q] at z; cases z
          · have z2 := un.frzs b ob _ z
            obtain ⟨e1, _⟩ := hok b _ z
            obtain ⟨e2, _⟩ := hok' b _ z2
            rw [e] at e1; cases e1
            exact e2
  cases hk : K.lookup a with
  | some o =>
    -- the script is one of the module's own objects
    have e := KX a o hk
    rw [ha] at e
    cases e
    refine core (fun _ => none) (fun _ => .inl rfl) (.inr ⟨_, vs.toArray, _, hk, rfl, rfl, rfl, by rw [List.size_toArray, lenV]; exact hl, by simpa using rv⟩) (fun b u z => by have z' : (none : Option HO) = some u := z; cases z') (fun b z => absurd rfl z) fun z => absurd rfl z
  | none =>
    refine core (fun b => if b = a then some (.frz { cls := .type "list", data := .seq vs.toArray } (.lst (ns.map V.int))) else none) (fun b => ?_) (.inl (.inr ⟨{ cls := .type "list", data := .seq vs.toArray }, if_pos rfl⟩)) (fun b u z => ?_) (fun b z => ?_) fun _ => hk
    · by_cases hb : b = a
      · exact .inr ⟨_, _, if_pos hb⟩
      · exact .inl (if_neg hb)
    · by_cases hb : b = a
      · have z' := (if_pos hb).symm.trans z
        cases z'
        subst hb
        exact ⟨ha, by rw [List.length_map]; exact hl, vs, _, rv, ha⟩
      · have z' := (if_neg hb).symm.trans z
        cases z'
    · by_cases hb : b = a
      · exact hb
      · exact absurd (if_neg hb) z
end L2

namespace L2
open PySem PySem.Spec PyProof.Rows

abbrev KOf {K : PySem.W.Frag} {h : Heap} (_ : K.In h) : PySem.W.Frag := K

/-- the goal that k_head leaves (case hc), from the law's promise. F gives the function object fd (K's own) once, then the promise over every base -/
theorem walk_of {l : PySem.W.OpenLaw} {n k : Nat} {q : Program} {loose : List Str} {XP : (Str → Option Value) → Heap → Prop} {YP : World → Heap → Prop} {d : DefRec} {K : Params → PySem.W.Frag} {CX : World → CXT} {sp : World → Sp} {x : Str}
    (hn : l.most = some n) (hn2 : n ≤ sizeLine) (hdf : d.params.defaults = []) (hr : Room k callerA)
    (hY : ∀ (w : World) (h : Heap), YP w h → (K w.params).In h)
    (F : ∀ (w : World) (mg : Str → Option Value) (fa : Addr) (h : Heap), (K w.params).In h → h.Ns mainGlobals mg → mg d.name = some (.ref fa) →
      ∃ fd : FuncData, (∀ (s : Shared) (u : Value), BindsTo s fd ⟨[u], []⟩ [(x, u)]) ∧
        ∀ base : Heap, (K w.params).In base → base.Ns mainGlobals mg → FnOk l.prog w (K w.params) mg base (CX w) k fa fd [x] (sp w))
    (hsp : ∀ (w : World) (H : Hp) (a : Addr) (ns : List Int), ns.length ≤ n → Only H → SqL (K w.params) H a (ns.map V.int) → sp w [.ref a] H (fun v _ => v = .bl true) fun _ _ _ => False)
    (hCX : ∀ (w : World) (H : Hp) (s : Shared) (e : Value) (s' : Shared), CX w [] H s (fun _ _ _ => False) e s' → False) :
    PySem.W.WalkO q loose XP YP l.row.toRowW d [] (fun f vs => PySem.call f vs) := by
  refine Att.attach_call hn hdf fun w s₀ s₁ mg mb fa o pm cd doc a vs ns G Y ho hd hcd hmg hobj hints hlen hg => ?_
  have KX := hY w _ Y
  obtain ⟨fd, hb, hF⟩ := F w mg fa _ KX G.T.g hmg
  exact law_call KX G.T.g G.T.b G.T.builtins G.T.nolimit hg hobj hints (Nat.le_trans hlen hn2) hr hF hb (fun H hO hS => hsp w H a ns hlen hO hS) fun H e s' => hCX w H s₁ e s'
/-- the same where the promise hangs on the written part alone: (sp := My.sp_law), no hole under a binder -/
theorem walk_ofK {l : PySem.W.OpenLaw} {n k : Nat} {q : Program} {loose : List Str} {XP : (Str → Option Value) → Heap → Prop} {YP : World → Heap → Prop} {d : DefRec} {K : Params → PySem.W.Frag} {CX : CXT} {sp : PySem.W.Frag → Sp} {x : Str}
    (hn : l.most = some n) (hn2 : n ≤ sizeLine) (hdf : d.params.defaults = []) (hr : Room k callerA)
    (hY : ∀ (w : World) (h : Heap), YP w h → (K w.params).In h)
    (F : ∀ (w : World) (mg : Str → Option Value) (fa : Addr) (h : Heap), (K w.params).In h → h.Ns mainGlobals mg → mg d.name = some (.ref fa) →
      ∃ fd : FuncData, (∀ (s : Shared) (u : Value), BindsTo s fd ⟨[u], []⟩ [(x, u)]) ∧
        ∀ base : Heap, (K w.params).In base → base.Ns mainGlobals mg → FnOk l.prog w (K w.params) mg base CX k fa fd [x] (sp (K w.params)))
    (hsp : ∀ (K : PySem.W.Frag) (H : Hp) (a : Addr) (ns : List Int), ns.length ≤ n → Only H → SqL K H a (ns.map V.int) → sp K [.ref a] H (fun v _ => v = .bl true) fun _ _ _ => False)
    (hCX : ∀ (H : Hp) (s : Shared) (e : Value) (s' : Shared), CX [] H s (fun _ _ _ => False) e s' → False) :
    PySem.W.WalkO q loose XP YP l.row.toRowW d [] (fun f vs => PySem.call f vs) :=
  walk_of (K := K) (CX := fun _ => CX) (sp := fun w => sp (K w.params)) hn hn2 hdf hr hY F (fun w H a ns h1 h2 h3 => hsp (K w.params) H a ns h1 h2 h3) fun _ H s e s' => hCX H s e s'
end L2

/- THE LAST THEOREM (shape; LID, My.* are yours):
   My.Adr: a structure of the addresses that your layer names (classes, functions); My.Txt K t: a structure (Prop) of the equations over K;
   My.txt_mk : {K} {implicit addresses ..} (e1 : nsIn K mainGlobals "law" = some (some (.ref f))) (e2 : K.lookup f = some ⟨oc, od, .func (fnOf "law" "law" params body scope dV kV doc pm an cdv ct), sl⟩) (e3 : codeIn K cdv "law" = true) .. : ∃ t, My.Txt K t

set_option maxRecDepth 100000 in
set_option maxHeartbeats 0 in
theorem PySem.Challenge.cw_LID_holds : PySem.Challenge.rw_LID.Holds := by
  w_on; o_law; k_head; (case hw => w_witness2)
  k_fill
  refine L2.walk_of (l := PySem.Challenge.rw_LID) (n := 63) (k := 40) (x := "script") (CX := fun w => ..) (sp := fun _ => My.sp_law) rfl (by decide) rfl ⟨rfl, by decide, by decide⟩ (fun w h Y => PySem.W.kIn_of Y) ?F ?S ?C
  case F =>
    intro w mg fa h KX G hmg
    have T : ∃ t, My.Txt (L2.KOf KX) t := by
      dsimp only [L2.KOf]                          -- K must stand as «<heap const> w.params» for k_is
      refine' My.txt_mk ?e1 ?e2 ?e3 ..
      (case e1 => PySem.W.k_is)                    -- in the order: a name -> its address -> its object -> its parts
      (case e2 => PySem.W.k_is)
      ..
    obtain ⟨t, T⟩ := T
    have e0 := hmg.symm.trans (PySem.W.mg_of KX G T.law)
    cases e0                                       -- fa is the law's own address
    exact ⟨_, fun s u => .of_eq rfl, fun base kb nb => My.law_fn T kb nb⟩     -- if «.of_eq rfl» comes too early: refine' ⟨_, ?b, fun base kb nb => My.law_fn T kb nb⟩; exact fun s u => .of_eq rfl
  case S => exact fun w H a ns hl hO hS => ..
  case C => exact ..
(the tactic k_is has no namespace: write k_is) -/

/-! SHORT WORDS over the layer: a def of the text, its body, what a loop and a test want. -/
namespace L2
open PySem PySem.Spec PyProof.Rows

/-! ### the text by places -/
/-- the j-th statement of a class's body -/
def inClass (s : Stmt) (j : Nat) : Stmt := match s with
  | .ClassDef _ _ _ body _ _ _ _ _ _ _ => body.getD j (.Pass ⟨0, 0, 0, 0⟩)
  | _ => .Pass ⟨0, 0, 0, 0⟩
def defArgs (s : Stmt) : Arguments := match s with
  | .FunctionDef _ a _ _ _ _ _ _ _ _ => a
  | _ => { posonlyargs := [], args := [], vararg := none, kwonlyargs := [], kw_defaults := [], kwarg := none, defaults := [] }
def defBody (s : Stmt) : List Stmt := match s with
  | .FunctionDef _ _ b _ _ _ _ _ _ _ => b
  | _ => []
def defScope (s : Stmt) : Scope := match s with
  | .FunctionDef _ _ _ _ _ _ sc _ _ _ => sc
  | _ => { kind := .function, names := [], isGenerator := false, isCoroutine := false }

/-! ### no exception leaves a def -/
abbrev CX0 : CXT := fun _ _ _ _ _ _ => False
abbrev E0 : XK := fun _ _ _ => False
theorem pass0 {X : Cx} : Passes CX0 X E0 := fun _ _ _ _ _ _ _ h => h.elim

/-! ### a def (or method) of the text as it stands behind the top -/
structure Fun (K : PySem.W.Frag) (x qual : Str) (st : Stmt) (f : Addr) (fd : FuncData) : Prop where
  ex : ∃ (oc : Value) (od : Option Addr) (kV doc pm : Value) (an : Option Addr) (cdv ct : Value) (osl : Array (Option Value)),
    fd = PySem.W.fnOf x qual (defArgs st) (defBody st) (defScope st) .none kV doc pm an cdv ct ∧ K.lookup f = some ⟨oc, od, .func fd, osl⟩ ∧ PySem.W.codeIn K cdv qual = true
  kp : PySem.W.keepIn K (.ref f) = true
section
variable {P : Program} {w : World} {K : PySem.W.Frag} {mg : Str → Option Value} {base : Heap}
/-- THE RULE for a def: its body as a term of rules, and the reading of that term -/
theorem Fun.ok {x qual : Str} {st : Stmt} {f : Addr} {fd : FuncData} {N ps : List Str} {k : Nat} {sp : Sp} (F : Fun K x qual st f fd) (S : FnScope N ps (defScope st)) (len : ∀ vs H Q E, sp vs H Q E → vs.length = ps.length)
    (hbody : ∀ (cdv : Value) (A : Around) (outer : List Env) (s : Shared) (H : Hp) (vs : List V) (Q : VK) (E : XK), Room k (A.deeper (envOfC qual (defScope st) s.heap.objs.size f cdv)) → sp vs H Q E →
      ∃ t, PSs (cxOf CX0 P w K mg base N qual (defScope st) f cdv A outer s H E).nox (defBody st) t ∧ t { nx := fun _ H' => Q .non H', rt := Q } (start N vs) H) : FnOk P w K mg base CX0 (k + 1) f fd ps sp := by
  obtain ⟨oc, od, kV, doc, pm, an, cdv, ct, osl, rfl, lk, hcd⟩ := F.ex
  refine fn_of lk hcd S len fun A outer s H vs Q E hr hsp => ?_
  obtain ⟨t, h, q⟩ := hbody cdv A outer s H vs Q E hr hsp
  exact ⟨t, h.nox, q⟩
/-- how its arguments bind (no defaults): h is «fun _ _ _ _ _ _ us hl => match us, hl with | [_, _], _ => rfl», one _ a parameter -/
theorem Fun.binds {x qual : Str} {st : Stmt} {f : Addr} {fd : FuncData} {ps : List Str} (F : Fun K x qual st f fd)
    (h : ∀ (kV doc pm : Value) (an : Option Addr) (cdv ct : Value) (us : List Value), us.length = ps.length → bindArgs (PySem.W.fnOf x qual (defArgs st) (defBody st) (defScope st) .none kV doc pm an cdv ct) ⟨us, []⟩ = pure (ps.zip us)) : Binds K fd ps [] := by
  obtain ⟨oc, od, kV, doc, pm, an, cdv, ct, osl, rfl, lk, hcd⟩ := F.ex
  exact .all (h kV doc pm an cdv ct)
theorem fun_mk {x qual : Str} {st : Stmt} {f : Addr} {oc : Value} {od an : Option Addr} {osl : Array (Option Value)} {kV doc pm cdv ct : Value} (l : K.lookup f = some ⟨oc, od, .func (PySem.W.fnOf x qual (defArgs st) (defBody st) (defScope st) .none kV doc pm an cdv ct), osl⟩)
    (c : PySem.W.codeIn K cdv qual = true) (k : PySem.W.keepIn K (.ref f) = true) : Fun K x qual st f (PySem.W.fnOf x qual (defArgs st) (defBody st) (defScope st) .none kV doc pm an cdv ct) := ⟨⟨oc, od, kV, doc, pm, an, cdv, ct, osl, rfl, l, c⟩, k⟩
end
theorem hu_of {A : Around} {k : Nat} (hr : Room k A) : A.units + 1 < cLine := Nat.lt_of_le_of_lt (Nat.add_le_add_left (by decide : 1 ≤ 64) _) hr.units
theorem small1000 {n : Nat} (h : n ≤ 1000) : n < sizeLine := Nat.lt_of_le_of_lt h (by decide)

/-! ### expressions in short: the name that stands in the i-th slot -/
section
variable {X : Cx}
theorem pv (i : Nat) {x : Str} {pos : Pos} (hN : X.N[i]? = some x := by rfl) (hv : Vis X.env.scope x := by first | exact Or.inl rfl | exact Or.inr (Or.inl rfl) | exact Or.inr (Or.inr rfl)) (hd : (x == ("__debug__" : Str)) = false := by decide)
    (hcd : (x == ("__classdict__" : Str)) = false := by decide) : PE X (.Name x pos) (tVar i) := pe_var hN hv hd hcd
end

/-! ### tests -/
theorem iteF {A B : Prop} (h : B) : if false = true then A else B := by
  rw [if_neg Bool.false_ne_true]
  exact h
theorem iteT {A B : Prop} (h : A) : if true = true then A else B := by
  rw [if_pos rfl]
  exact h
theorem ite2 {c A B : Prop} [Decidable c] (h1 : c → A) (h2 : ¬ c → B) : if c then A else B := by
  by_cases h : c
  · rw [if_pos h]
    exact h1 h
  · rw [if_neg h]
    exact h2 h
theorem iteNS {c A B : Prop} [Decidable c] (hc : c) (h : B) : if (!decide c) = true then A else B := by
  rw [decide_eq_true hc]
  exact iteF h

/-! ### heaps -/
/-- all that was tracked is as it was -/
def Same (H H' : Hp) : Prop := ∀ b o, H b = some o → H' b = some o
theorem Same.refl (H : Hp) : Same H H := fun _ _ h => h
theorem Same.trans {H H1 H2 : Hp} (a : Same H H1) (b : Same H1 H2) : Same H H2 := fun c o h => b c o (a c o h)
theorem Same.free {H H' : Hp} (e : Same H H') {l : Addr} (h : H' l = Option.none) : H l = Option.none := by
  cases q : H l with
  | none => rfl
  | some o =>
    rw [e l o q] at h
    cases h
theorem Same.seq {K : PySem.W.Frag} {H H' : Hp} {a : Addr} {xs : List V} (e : Same H H') (h : SqL K H a xs) : SqL K H' a xs := by
  rcases h with (h | ⟨o, h⟩) | h
  · exact .inl (.inl (e _ _ h))
  · exact .inl (.inr ⟨o, e _ _ h⟩)
  · exact .inr h

end L2

namespace TF
abbrev P2 := Int × Int
def mul (k : Int) (x y : P2) : P2 := (x.1 * y.1 + k * x.2 * y.2, x.1 * y.2 + x.2 * y.1)
def add (x y : P2) : P2 := (x.1 + y.1, x.2 + y.2)
def sub (x y : P2) : P2 := (x.1 - y.1, x.2 - y.2)
def nm (k : Int) (x : P2) : Int := x.1 * x.1 - k * x.2 * x.2
def conj (x : P2) : P2 := (x.1, -x.2)
def Kind (k : Int) : Prop := k = -2 ∨ k = -1 ∨ k = 2 ∨ k = 3
/-- x goes into y -/
def Goes (k : Int) (x y : P2) : Prop := ∃ z, y = mul k x z

theorem ext {x y : P2} (h1 : x.1 = y.1) (h2 : x.2 = y.2) : x = y := Prod.ext h1 h2
theorem mul_comm (k : Int) (x y : P2) : mul k x y = mul k y x := by
  apply ext <;> simp only [mul] <;> grind
theorem mul_assoc (k : Int) (x y z : P2) : mul k (mul k x y) z = mul k x (mul k y z) := by
  apply ext <;> simp only [mul] <;> grind
theorem mul_add (k : Int) (x y z : P2) : mul k x (add y z) = add (mul k x y) (mul k x z) := by
  apply ext <;> simp only [mul, add] <;> grind
theorem mul_sub (k : Int) (x y z : P2) : mul k x (sub y z) = sub (mul k x y) (mul k x z) := by
  apply ext <;> simp only [mul, sub] <;> grind
theorem mul_one (k : Int) (x : P2) : mul k x (1, 0) = x := by
  apply ext <;> simp only [mul] <;> grind
theorem one_mul (k : Int) (x : P2) : mul k (1, 0) x = x := by rw [mul_comm, mul_one]
theorem mul_zero (k : Int) (x : P2) : mul k x (0, 0) = (0, 0) := by
  apply ext <;> simp only [mul] <;> grind
theorem zero_mul (k : Int) (x : P2) : mul k (0, 0) x = (0, 0) := by rw [mul_comm, mul_zero]
theorem nm_mul (k : Int) (x y : P2) : nm k (mul k x y) = nm k x * nm k y := by
  simp only [nm, mul]; grind
theorem nm_conj (k : Int) (x : P2) : nm k (conj x) = nm k x := by
  simp only [nm, conj]; grind
theorem mul_conj (k : Int) (x : P2) : mul k x (conj x) = (nm k x, 0) := by
  apply ext <;> simp only [mul, conj, nm] <;> grind

theorem sq2 (n : Nat) : ∀ (a b : Int), b.natAbs ≤ n → a * a = 2 * (b * b) → b = 0 := by
  induction n with
  | zero => intro a b h _; omega
  | succ n ih =>
    intro a b hb h
    have ha : a % 2 = 0 := by
      rcases Int.emod_two_eq a with e | e
      · exact e
      · exfalso
        obtain ⟨c, rfl⟩ : ∃ c, a = 2 * c + 1 := ⟨a / 2, by omega⟩
        have : (2 * c + 1) * (2 * c + 1) = 2 * (2 * (c * c) + 2 * c) + 1 := by grind
        omega
    obtain ⟨c, rfl⟩ : ∃ c, a = 2 * c := ⟨a / 2, by omega⟩
    have h' : b * b = 2 * (c * c) := by grind
    have hbb : b % 2 = 0 := by
      rcases Int.emod_two_eq b with e | e
      · exact e
      · exfalso
        obtain ⟨d, rfl⟩ : ∃ d, b = 2 * d + 1 := ⟨b / 2, by omega⟩
        have : (2 * d + 1) * (2 * d + 1) = 2 * (2 * (d * d) + 2 * d) + 1 := by grind
        omega
    obtain ⟨d, rfl⟩ : ∃ d, b = 2 * d := ⟨b / 2, by omega⟩
    have h'' : c * c = 2 * (d * d) := by grind
    have := ih c d (by omega) h''
    omega
theorem mod3 (a : Int) (c : Int) (h : a * a = 3 * c) : a % 3 = 0 := by
  have h3 : a % 3 = 0 ∨ a % 3 = 1 ∨ a % 3 = 2 := by omega
  rcases h3 with e | e | e
  · exact e
  · exfalso
    obtain ⟨d, rfl⟩ : ∃ d, a = 3 * d + 1 := ⟨a / 3, by omega⟩
    have : (3 * d + 1) * (3 * d + 1) = 3 * (3 * (d * d) + 2 * d) + 1 := by grind
    omega
  · exfalso
    obtain ⟨d, rfl⟩ : ∃ d, a = 3 * d + 2 := ⟨a / 3, by omega⟩
    have : (3 * d + 2) * (3 * d + 2) = 3 * (3 * (d * d) + 4 * d + 1) + 1 := by grind
    omega
theorem sq3 (n : Nat) : ∀ (a b : Int), b.natAbs ≤ n → a * a = 3 * (b * b) → b = 0 := by
  induction n with
  | zero => intro a b h _; omega
  | succ n ih =>
    intro a b hb h
    have ha := mod3 a _ h
    obtain ⟨c, rfl⟩ : ∃ c, a = 3 * c := ⟨a / 3, by omega⟩
    have h' : b * b = 3 * (c * c) := by grind
    have hbb := mod3 b _ h'
    obtain ⟨d, rfl⟩ : ∃ d, b = 3 * d := ⟨b / 3, by omega⟩
    have h'' : c * c = 3 * (d * d) := by grind
    have := ih c d (by omega) h''
    omega
theorem sq_nonneg (a : Int) : 0 ≤ a * a := by
  rcases Int.le_total 0 a with h | h
  · exact Int.mul_nonneg h h
  · have := Int.mul_nonneg (show 0 ≤ -a by omega) (show 0 ≤ -a by omega)
    grind
theorem sq_zero {a : Int} (h : a * a = 0) : a = 0 := by
  rcases Int.mul_eq_zero.mp h with h | h <;> exact h
theorem nm_zero {k : Int} (hk : Kind k) {x : P2} : nm k x = 0 ↔ x = (0, 0) := by
  obtain ⟨a, b⟩ := x
  simp only [nm]
  constructor
  · intro h
    have h1 := sq_nonneg a
    have h2 := sq_nonneg b
    rcases hk with rfl | rfl | rfl | rfl
    · have e : -2 * b * b = -2 * (b * b) := by grind
      have ha : a * a = 0 := by omega
      have hb : b * b = 0 := by omega
      rw [sq_zero ha, sq_zero hb]
    · have e : -1 * b * b = -1 * (b * b) := by grind
      have ha : a * a = 0 := by omega
      have hb : b * b = 0 := by omega
      rw [sq_zero ha, sq_zero hb]
    · have hb := sq2 _ a b (Nat.le_refl _) (by grind)
      subst hb
      have ha : a * a = 0 := by grind
      rw [sq_zero ha]
    · have hb := sq3 _ a b (Nat.le_refl _) (by grind)
      subst hb
      have ha : a * a = 0 := by grind
      rw [sq_zero ha]
  · intro h
    cases h
    grind
theorem mul_eq_zero {k : Int} (hk : Kind k) {x y : P2} (h : mul k x y = (0, 0)) : x = (0, 0) ∨ y = (0, 0) := by
  have e := nm_mul k x y
  rw [h, (nm_zero hk).mpr rfl] at e
  rcases Int.mul_eq_zero.mp e.symm with e | e
  · exact .inl ((nm_zero hk).mp e)
  · exact .inr ((nm_zero hk).mp e)
theorem sub_eq_zero {x y : P2} (h : sub x y = (0, 0)) : x = y := by
  have h1 := congrArg Prod.fst h
  have h2 := congrArg Prod.snd h
  simp only [sub] at h1 h2
  exact ext (by omega) (by omega)
theorem mul_cancel {k : Int} (hk : Kind k) {x y z : P2} (hx : x ≠ (0, 0)) (h : mul k x y = mul k x z) : y = z := by
  have e : mul k x (sub y z) = (0, 0) := by
    rw [mul_sub, h]
    apply ext <;> simp only [sub] <;> omega
  rcases mul_eq_zero hk e with e | e
  · exact absurd e hx
  · exact sub_eq_zero e

/-- rounding to the nearest, a half to the greater -/
def rnd (p w : Int) : Int := (2 * p + w).fdiv (2 * w)
theorem rnd_pos {p w : Int} (hw : 0 < w) : -w ≤ 2 * (p - rnd p w * w) ∧ 2 * (p - rnd p w * w) < w := by
  have h1 := Int.mul_fdiv_add_fmod (2 * p + w) (2 * w)
  have h2 : 0 ≤ (2 * p + w).fmod (2 * w) := Int.fmod_nonneg_of_pos _ (by omega)
  have h3 : (2 * p + w).fmod (2 * w) < 2 * w := Int.fmod_lt_of_pos _ (by omega)
  have e : 2 * w * rnd p w = 2 * (rnd p w * w) := by grind
  unfold rnd at *
  omega
theorem rnd_neg {p w : Int} : rnd p w = rnd (-p) (-w) := by
  unfold rnd
  rw [← Int.neg_fdiv_neg]
  congr 1 <;> omega
theorem rnd_neg_lt {p w : Int} (hw : w < 0) : w < 2 * (p - rnd p w * w) ∧ 2 * (p - rnd p w * w) ≤ -w := by
  have h := rnd_pos (p := -p) (w := -w) (by omega)
  rw [← rnd_neg] at h
  have e : rnd p w * -w = -(rnd p w * w) := by grind
  rw [e] at h
  omega
theorem rnd_abs {p w : Int} (hw : w ≠ 0) : 4 * ((p - rnd p w * w) * (p - rnd p w * w)) ≤ w * w := by
  have key : ∀ e v : Int, -v ≤ 2 * e → 2 * e ≤ v → 4 * (e * e) ≤ v * v := by
    intro e v h1 h2
    have h := Int.mul_nonneg (show 0 ≤ v - 2 * e by omega) (show 0 ≤ v + 2 * e by omega)
    grind
  rcases Int.lt_or_gt_of_ne hw with h | h
  · obtain ⟨h1, h2⟩ := rnd_neg_lt (p := p) h
    have := key (p - rnd p w * w) (-w) (by omega) (by omega)
    grind
  · obtain ⟨h1, h2⟩ := rnd_pos (p := p) h
    exact key (p - rnd p w * w) w (by omega) (by omega)

/-- the quotient, the rest -/
def quo (k : Int) (x y : P2) : P2 := (rnd (mul k x (conj y)).1 (nm k y), rnd (mul k x (conj y)).2 (nm k y))
def rest (k : Int) (x y : P2) : P2 := sub x (mul k (quo k x y) y)
theorem quo_rest (k : Int) (x y : P2) : add (mul k (quo k x y) y) (rest k x y) = x := by
  apply ext <;> simp only [add, rest, sub] <;> omega
/-- the rest times the mirror -/
theorem rest_conj (k : Int) (x y : P2) : mul k (rest k x y) (conj y) =
    ((mul k x (conj y)).1 - (quo k x y).1 * nm k y, (mul k x (conj y)).2 - (quo k x y).2 * nm k y) := by
  have e : mul k (mul k (quo k x y) y) (conj y) = ((quo k x y).1 * nm k y, (quo k x y).2 * nm k y) := by
    rw [mul_assoc, mul_conj]
    generalize nm k y = n
    generalize quo k x y = q
    apply ext <;> simp only [mul] <;> grind
  rw [rest, mul_comm, mul_sub, mul_comm k (conj y) (mul k (quo k x y) y), e, mul_comm k (conj y) x]
  rfl
theorem rest_small {k : Int} (hk : Kind k) (x : P2) {y : P2} (hy : y ≠ (0, 0)) : 4 * (nm k (rest k x y)).natAbs ≤ 3 * (nm k y).natAbs := by
  have hn : nm k y ≠ 0 := fun h => hy ((nm_zero hk).mp h)
  have e := nm_mul k (rest k x y) (conj y)
  rw [rest_conj, nm_conj] at e
  have h1 := rnd_abs (p := (mul k x (conj y)).1) hn
  have h2 := rnd_abs (p := (mul k x (conj y)).2) hn
  have e1 : (quo k x y).1 = rnd (mul k x (conj y)).1 (nm k y) := rfl
  have e2 : (quo k x y).2 = rnd (mul k x (conj y)).2 (nm k y) := rfl
  rw [e1, e2] at e
  generalize (mul k x (conj y)).1 - rnd (mul k x (conj y)).1 (nm k y) * nm k y = u at *
  generalize (mul k x (conj y)).2 - rnd (mul k x (conj y)).2 (nm k y) * nm k y = v at *
  generalize nm k (rest k x y) = r at *
  generalize nm k y = n at *
  have e' : u * u - k * v * v = r * n := e
  have h3 := sq_nonneg u
  have h4 := sq_nonneg v
  have b1 : 4 * (r * n) ≤ 3 * (n * n) := by
    rcases hk with rfl | rfl | rfl | rfl <;> grind
  have b2 : -(3 * (n * n)) ≤ 4 * (r * n) := by
    rcases hk with rfl | rfl | rfl | rfl <;> grind
  have hn2 : 0 < n.natAbs := by omega
  have c1 : (4 * r.natAbs) * n.natAbs ≤ (3 * n.natAbs) * n.natAbs := by
    have i1 : (4 * r.natAbs) * n.natAbs = 4 * (r * n).natAbs := by rw [Int.natAbs_mul, Nat.mul_assoc]
    have i2 : (3 * n.natAbs) * n.natAbs = 3 * (n * n).natAbs := by rw [Int.natAbs_mul, Nat.mul_assoc]
    rw [i1, i2]
    have := sq_nonneg n
    omega
  exact Nat.le_of_mul_le_mul_right c1 hn2
theorem rest_lt {k : Int} (hk : Kind k) (x : P2) {y : P2} (hy : y ≠ (0, 0)) : (nm k (rest k x y)).natAbs < (nm k y).natAbs := by
  have hn : nm k y ≠ 0 := fun h => hy ((nm_zero hk).mp h)
  have := rest_small hk x hy
  omega
/-- the rest is nought just where the second goes into the first -/
theorem rest_zero_of_goes {k : Int} (hk : Kind k) {x y : P2} (hy : y ≠ (0, 0)) (h : Goes k y x) : rest k x y = (0, 0) := by
  have hn : nm k y ≠ 0 := fun h => hy ((nm_zero hk).mp h)
  obtain ⟨z, rfl⟩ := h
  have e : rest k (mul k y z) y = mul k y (sub z (quo k (mul k y z) y)) := by
    rw [rest, mul_sub, mul_comm k (quo k (mul k y z) y) y]
  have hs := rest_lt hk (mul k y z) hy
  rw [e] at hs ⊢
  rw [nm_mul, Int.natAbs_mul] at hs
  by_cases h0 : nm k (sub z (quo k (mul k y z) y)) = 0
  · rw [(nm_zero hk).mp h0, mul_zero]
  · exfalso
    have : 1 ≤ (nm k (sub z (quo k (mul k y z) y))).natAbs := by omega
    have := Nat.mul_le_mul_left (nm k y).natAbs this
    omega
theorem goes_of_rest {k : Int} {x y : P2} (h : rest k x y = (0, 0)) : Goes k y x := by
  refine ⟨quo k x y, ?_⟩
  rw [mul_comm]
  exact sub_eq_zero h
theorem rest_zero_iff {k : Int} (hk : Kind k) {x y : P2} (hy : y ≠ (0, 0)) : rest k x y = (0, 0) ↔ Goes k y x :=
  ⟨goes_of_rest, rest_zero_of_goes hk hy⟩
theorem goes_zero {k : Int} {y : P2} : Goes k (0, 0) y ↔ y = (0, 0) :=
  ⟨fun ⟨z, e⟩ => by rw [e, zero_mul], fun e => ⟨(0, 0), by rw [e, zero_mul]⟩⟩
/-- by the mirror -/
theorem goes_mirror {k : Int} (hk : Kind k) {x y : P2} (hx : x ≠ (0, 0)) :
    Goes k x y ↔ (mul k y (conj x)).1 % nm k x = 0 ∧ (mul k y (conj x)).2 % nm k x = 0 := by
  have hn : nm k x ≠ 0 := fun h => hx ((nm_zero hk).mp h)
  constructor
  · rintro ⟨z, rfl⟩
    have e : mul k (mul k x z) (conj x) = (z.1 * nm k x, z.2 * nm k x) := by
      rw [mul_comm k x z, mul_assoc, mul_conj]
      apply ext <;> simp only [mul] <;> grind
    rw [e]
    exact ⟨Int.mul_emod_left _ _, Int.mul_emod_left _ _⟩
  · rintro ⟨h1, h2⟩
    obtain ⟨a, ha⟩ := Int.dvd_of_emod_eq_zero h1
    obtain ⟨b, hb⟩ := Int.dvd_of_emod_eq_zero h2
    refine ⟨(a, b), ?_⟩
    have hc : conj x ≠ (0, 0) := fun h => hn (by rw [← nm_conj, h]; simp [nm])
    refine mul_cancel hk hc ?_
    rw [← mul_assoc, mul_comm k (conj x) x, mul_conj, mul_comm]
    apply ext <;> simp only [mul] at * <;> grind
theorem goes_refl (k : Int) (x : P2) : Goes k x x := ⟨(1, 0), (mul_one k x).symm⟩
theorem goes_nought (k : Int) (x : P2) : Goes k x (0, 0) := ⟨(0, 0), (mul_zero k x).symm⟩
theorem goes_trans {k : Int} {x y z : P2} (h1 : Goes k x y) (h2 : Goes k y z) : Goes k x z := by
  obtain ⟨a, rfl⟩ := h1
  obtain ⟨b, rfl⟩ := h2
  exact ⟨mul k a b, mul_assoc k x a b⟩
theorem goes_mul {k : Int} {x y : P2} (z : P2) (h : Goes k x y) : Goes k x (mul k z y) := by
  obtain ⟨a, rfl⟩ := h
  exact ⟨mul k z a, by rw [← mul_assoc, mul_comm k z x, mul_assoc]⟩
theorem goes_add {k : Int} {x y z : P2} (h1 : Goes k x y) (h2 : Goes k x z) : Goes k x (add y z) := by
  obtain ⟨a, rfl⟩ := h1
  obtain ⟨b, rfl⟩ := h2
  exact ⟨add a b, (mul_add k x a b).symm⟩
end TF
namespace TF
theorem rnd_bd {p w : Int} (hw : w ≠ 0) : (rnd p w).natAbs ≤ p.natAbs + 1 := by
  have key : ∀ q v : Int, 0 < v → -v ≤ 2 * (p - q * v) → 2 * (p - q * v) ≤ v → q.natAbs ≤ p.natAbs + 1 := by
    intro q v hv h1 h2
    have h3 : q.natAbs * v.natAbs = (q * v).natAbs := (Int.natAbs_mul q v).symm
    have h4 : 2 * (q * v).natAbs ≤ 2 * p.natAbs + v.natAbs := by omega
    by_cases hq : q.natAbs ≤ p.natAbs + 1
    · exact hq
    · exfalso
      have h5 := Nat.mul_le_mul_right v.natAbs (show p.natAbs + 2 ≤ q.natAbs by omega)
      have h6 := Nat.mul_le_mul_left p.natAbs (show 1 ≤ v.natAbs by omega)
      rw [Nat.add_mul] at h5
      omega
  have key2 : ∀ q v : Int, v < 0 → v ≤ 2 * (p - q * v) → 2 * (p - q * v) ≤ -v → q.natAbs ≤ p.natAbs + 1 := by
    intro q v hv h1 h2
    have h3 : q.natAbs * v.natAbs = (q * v).natAbs := (Int.natAbs_mul q v).symm
    have h4 : 2 * (q * v).natAbs ≤ 2 * p.natAbs + v.natAbs := by omega
    by_cases hq : q.natAbs ≤ p.natAbs + 1
    · exact hq
    · exfalso
      have h5 := Nat.mul_le_mul_right v.natAbs (show p.natAbs + 2 ≤ q.natAbs by omega)
      have h6 := Nat.mul_le_mul_left p.natAbs (show 1 ≤ v.natAbs by omega)
      rw [Nat.add_mul] at h5
      omega
  rcases Int.lt_or_gt_of_ne hw with h | h
  · obtain ⟨h1, h2⟩ := rnd_neg_lt (p := p) h
    exact key2 _ w h (by omega) (by omega)
  · obtain ⟨h1, h2⟩ := rnd_pos (p := p) h
    exact key _ w h (by omega) (by omega)
theorem fmod_zero_iff (a b : Int) : a.fmod b = 0 ↔ a % b = 0 := by
  constructor
  · intro h
    exact Int.emod_eq_zero_of_dvd (Int.dvd_of_fmod_eq_zero h)
  · intro h
    exact Int.fmod_eq_zero_of_dvd (Int.dvd_of_emod_eq_zero h)
end TF

namespace TF
/-! ### prime whole numbers -/
def PrimeN (n : Nat) : Prop := 1 < n ∧ ∀ d, d ∣ n → d = 1 ∨ d = n
theorem primeN_of_small {n : Nat} (h1 : 1 < n) (h : ∀ d, 2 ≤ d → d * d ≤ n → ¬ d ∣ n) : PrimeN n := by
  refine ⟨h1, fun d hd => ?_⟩
  obtain ⟨e, rfl⟩ := hd
  by_cases hd1 : d = 1
  · exact .inl hd1
  · right
    have hd0 : d ≠ 0 := by rintro rfl; simp at h1
    have he0 : e ≠ 0 := by rintro rfl; simp at h1
    by_cases he1 : e = 1
    · rw [he1, Nat.mul_one]
    · exfalso
      by_cases hle : d ≤ e
      · exact h d (by omega) (Nat.mul_le_mul_left d hle) ⟨e, rfl⟩
      · exact h e (by omega) (Nat.mul_le_mul_right e (by omega)) ⟨d, Nat.mul_comm d e⟩
theorem PrimeN.small {n : Nat} (h : PrimeN n) {d : Nat} (h2 : 2 ≤ d) (hd : d * d ≤ n) : ¬ d ∣ n := fun hv => by
  rcases h.2 d hv with e | e
  · omega
  · subst e
    have := Nat.mul_le_mul_left d h2
    have h1 := h.1
    omega
theorem PrimeN.coprime {p n : Nat} (h : PrimeN p) (hn : ¬ p ∣ n) : Nat.Coprime p n := by
  rcases h.2 (Nat.gcd p n) (Nat.gcd_dvd_left p n) with e | e
  · exact e
  · exact absurd (e ▸ Nat.gcd_dvd_right p n) hn
theorem PrimeN.dvd_mul {p a b : Nat} (h : PrimeN p) (hv : p ∣ a * b) : p ∣ a ∨ p ∣ b := by
  by_cases ha : p ∣ a
  · exact .inl ha
  · exact .inr ((h.coprime ha).dvd_of_dvd_mul_left hv)
theorem dvdI {p : Nat} {a : Int} : (p : Int) ∣ a ↔ p ∣ a.natAbs := by
  rw [← Int.natAbs_dvd_natAbs]
  simp
theorem PrimeN.dvd_mulI {p : Nat} {a b : Int} (h : PrimeN p) (hv : (p : Int) ∣ a * b) : (p : Int) ∣ a ∨ (p : Int) ∣ b := by
  rw [dvdI, Int.natAbs_mul] at hv
  rcases h.dvd_mul hv with z | z
  · exact .inl (dvdI.mpr z)
  · exact .inr (dvdI.mpr z)
theorem PrimeN.pos {p : Nat} (h : PrimeN p) : 0 < p := Nat.lt_trans Nat.zero_lt_one h.1
/-- a product that is a prime's square -/
theorem PrimeN.sq_factor {p a b : Nat} (h : PrimeN p) (e : a * b = p * p) (ha : a ≠ 1) (hb : b ≠ 1) : a = p ∧ b = p := by
  have hp := h.pos
  have h1 : p ∣ a * b := ⟨p, e⟩
  have key : ∀ a b : Nat, a * b = p * p → b ≠ 1 → p ∣ a → a = p ∧ b = p := by
    intro a b e hb hv
    obtain ⟨c, rfl⟩ := hv
    have e2 : c * b = p := by
      rw [Nat.mul_assoc] at e
      exact Nat.eq_of_mul_eq_mul_left hp e
    rcases h.2 b ⟨c, by rw [Nat.mul_comm]; exact e2.symm⟩ with z | z
    · exact absurd z hb
    · subst z
      have hc : c = 1 := Nat.eq_of_mul_eq_mul_right hp (by rw [e2, Nat.one_mul])
      rw [hc, Nat.mul_one]
      exact ⟨rfl, rfl⟩
  rcases h.dvd_mul h1 with z | z
  · exact key a b e hb z
  · obtain ⟨x, y⟩ := key b a (by rw [Nat.mul_comm]; exact e) ha z
    exact ⟨y, x⟩
theorem bezN : ∀ (n b a : Nat), b ≤ n → ∃ u v : Int, u * a + v * b = (Nat.gcd a b : Int) := by
  intro n
  induction n with
  | zero =>
    intro b a h
    have e : b = 0 := by omega
    subst e
    exact ⟨1, 0, by simp⟩
  | succ n ih =>
    intro b a h
    by_cases hb : b = 0
    · exact ih b a (by omega)
    · have hlt : a % b < b := Nat.mod_lt _ (by omega)
      obtain ⟨u, v, e⟩ := ih (a % b) b (by omega)
      refine ⟨v, u - v * ((a / b : Nat) : Int), ?_⟩
      have e1 : Nat.gcd a b = Nat.gcd b (a % b) := by rw [Nat.gcd_comm, Nat.gcd_rec, Nat.gcd_comm]
      have e2 : ((a % b : Nat) : Int) = (a : Int) - (b : Int) * ((a / b : Nat) : Int) := by
        have := Nat.div_add_mod a b
        have h3 : ((b * (a / b) + a % b : Nat) : Int) = (a : Int) := congrArg Nat.cast this
        rw [Int.natCast_add, Int.natCast_mul] at h3
        omega
      rw [e1, ← e, e2]
      grind
/-! ### units -/
def Unit (k : Int) (x : P2) : Prop := (nm k x).natAbs = 1
theorem nm_one (k : Int) : nm k (1, 0) = 1 := by simp [nm]
theorem unit_one (k : Int) : Unit k (1, 0) := by unfold Unit; rw [nm_one]; rfl
theorem Unit.mul {k : Int} {x y : P2} (hx : Unit k x) (hy : Unit k y) : Unit k (TF.mul k x y) := by
  unfold Unit at *
  rw [nm_mul, Int.natAbs_mul, hx, hy]
theorem unit_of_mul {k : Int} {x y : P2} (h : Unit k (TF.mul k x y)) : Unit k x := by
  unfold Unit at *
  rw [nm_mul, Int.natAbs_mul] at h
  exact Nat.eq_one_of_mul_eq_one_right h
theorem unit_iff_goes {k : Int} {x : P2} : Unit k x ↔ Goes k x (1, 0) := by
  constructor
  · intro h
    have h' : nm k x = 1 ∨ nm k x = -1 := by unfold Unit at h; omega
    rcases h' with e | e
    · exact ⟨conj x, by rw [mul_conj, e]⟩
    · refine ⟨(-x.1, x.2), ?_⟩
      have := mul_conj k x
      rw [e] at this
      have e1 := congrArg Prod.fst this
      have e2 := congrArg Prod.snd this
      simp only [TF.mul, conj] at e1 e2
      apply ext <;> simp only [TF.mul] <;> grind
  · rintro ⟨z, e⟩
    exact unit_of_mul (y := z) (by rw [← e]; exact unit_one k)
/-- the turned one -/
theorem Unit.inv {k : Int} {x : P2} (h : Unit k x) : ∃ y, TF.mul k x y = (1, 0) ∧ Unit k y := by
  obtain ⟨y, e⟩ := unit_iff_goes.mp h
  exact ⟨y, e.symm, unit_of_mul (y := x) (by rw [mul_comm, ← e]; exact unit_one k)⟩
theorem unit_ne_zero {k : Int} {x : P2} (h : Unit k x) : x ≠ (0, 0) := by
  rintro rfl
  simp [Unit, nm] at h
def Alike (k : Int) (x y : P2) : Prop := Goes k x y ∧ Goes k y x
theorem goes_nm {k : Int} {x y : P2} (h : Goes k x y) : (nm k x).natAbs ∣ (nm k y).natAbs := by
  obtain ⟨z, rfl⟩ := h
  rw [nm_mul, Int.natAbs_mul]
  exact ⟨_, rfl⟩
theorem nm_pos {k : Int} (hk : Kind k) {x : P2} (hx : x ≠ (0, 0)) : 0 < (nm k x).natAbs := by
  have : nm k x ≠ 0 := fun h => hx ((nm_zero hk).mp h)
  omega
/-- one goes into the other and the sizes are alike: alike -/
theorem alike_of_nm {k : Int} (hk : Kind k) {x y : P2} (hy : y ≠ (0, 0)) (h : Goes k x y) (e : (nm k x).natAbs = (nm k y).natAbs) : ∃ u, Unit k u ∧ y = TF.mul k x u := by
  obtain ⟨z, rfl⟩ := h
  refine ⟨z, ?_, rfl⟩
  have h0 : x ≠ (0, 0) := by rintro rfl; exact hy (zero_mul k z)
  have hp := nm_pos hk h0
  rw [nm_mul, Int.natAbs_mul] at e
  unfold Unit
  exact Nat.eq_of_mul_eq_mul_left hp (by rw [Nat.mul_one]; exact e.symm)
theorem Alike.unit {k : Int} (hk : Kind k) {x y : P2} (h : Alike k x y) (hy : y ≠ (0, 0)) : ∃ u, Unit k u ∧ y = TF.mul k x u := by
  refine alike_of_nm hk hy h.1 ?_
  exact Nat.dvd_antisymm (goes_nm h.1) (goes_nm h.2)
theorem alike_of_unit {k : Int} {x u : P2} (h : Unit k u) : Alike k x (TF.mul k x u) := by
  refine ⟨⟨u, rfl⟩, ?_⟩
  obtain ⟨v, e, _⟩ := h.inv
  exact ⟨v, by rw [mul_assoc, e, mul_one]⟩
theorem Alike.symm {k : Int} {x y : P2} (h : Alike k x y) : Alike k y x := ⟨h.2, h.1⟩
theorem Alike.trans {k : Int} {x y z : P2} (h : Alike k x y) (g : Alike k y z) : Alike k x z := ⟨goes_trans h.1 g.1, goes_trans g.2 h.2⟩
/-! ### greatest common divisors: any two numbers -/
theorem bezout {k : Int} (hk : Kind k) : ∀ (n : Nat) (x y : P2), (nm k y).natAbs ≤ n → ∃ g a b, g = add (TF.mul k a x) (TF.mul k b y) ∧ Goes k g x ∧ Goes k g y := by
  intro n
  induction n with
  | zero =>
    intro x y h
    have e : y = (0, 0) := (nm_zero hk).mp (by omega)
    subst e
    refine ⟨x, (1, 0), (0, 0), ?_, goes_refl k x, goes_nought k x⟩
    rw [one_mul, zero_mul]
    apply ext <;> simp [add]
  | succ n ih =>
    intro x y h
    by_cases hy : y = (0, 0)
    · exact ih x y (by rw [hy]; simp [nm])
    · obtain ⟨g, a, b, e, h1, h2⟩ := ih y (rest k x y) (by have := rest_lt hk x hy; omega)
      refine ⟨g, b, sub a (TF.mul k b (quo k x y)), ?_, ?_, h1⟩
      · rw [e]
        unfold rest
        generalize quo k x y = q
        apply ext <;> simp only [TF.mul, add, sub] <;> grind
      · rw [← quo_rest k x y]
        exact goes_add (goes_mul _ h1) h2
/-! ### numbers that part no further -/
def Irr (k : Int) (x : P2) : Prop := x ≠ (0, 0) ∧ ¬ Unit k x ∧ ∀ a b, x = TF.mul k a b → Unit k a ∨ Unit k b
def Prm (k : Int) (x : P2) : Prop := x ≠ (0, 0) ∧ ¬ Unit k x ∧ ∀ a b, Goes k x (TF.mul k a b) → Goes k x a ∨ Goes k x b
theorem Irr.prm {k : Int} (hk : Kind k) {x : P2} (h : Irr k x) : Prm k x := by
  refine ⟨h.1, h.2.1, fun a b hv => ?_⟩
  obtain ⟨g, c, d, e, h1, h2⟩ := bezout hk _ x a (Nat.le_refl _)
  obtain ⟨z, ez⟩ := h1
  rcases h.2.2 g z ez with hu | hu
  · -- g is a unit: x goes into b
    right
    obtain ⟨v, ev, _⟩ := hu.inv
    have e2 : b = add (TF.mul k (TF.mul k (TF.mul k b v) c) x) (TF.mul k (TF.mul k v d) (TF.mul k a b)) := by
      have e3 : b = TF.mul k b (TF.mul k g v) := by rw [ev, mul_one]
      rw [e] at e3
      refine e3.trans ?_
      rw [mul_comm k _ v, mul_add, mul_add]
      congr 1
      · rw [← mul_assoc, ← mul_assoc]
      · rw [← mul_assoc, mul_comm k b, mul_assoc, mul_comm k b, mul_assoc, mul_assoc]
    rw [e2]
    exact goes_add (goes_mul _ (goes_refl k x)) (goes_mul _ hv)
  · -- g is alike with x
    left
    refine goes_trans ?_ h2
    rw [ez]
    exact (alike_of_unit hu).2

/-- a size that is a prime -/
theorem irr_of_prime {k : Int} (hk : Kind k) {x : P2} (h : PrimeN (nm k x).natAbs) : Irr k x := by
  refine ⟨?_, fun hu => ?_, fun a b e => ?_⟩
  · rintro rfl
    have := h.1
    simp [nm] at this
  · have := h.1
    unfold Unit at hu
    omega
  · have e2 : (nm k x).natAbs = (nm k a).natAbs * (nm k b).natAbs := by rw [e, nm_mul, Int.natAbs_mul]
    rcases h.2 (nm k a).natAbs ⟨_, e2⟩ with z | z
    · exact .inl z
    · right
      unfold Unit
      rw [← z] at e2
      have hp : 0 < (nm k a).natAbs := by rw [z]; exact h.pos
      exact Nat.eq_of_mul_eq_mul_left hp (by rw [Nat.mul_one]; exact e2.symm)
/-- a prime that leaves the kind behind no square goes into both parts of what it goes into the size of -/
theorem inert {k : Int} {p : Nat} (hp : PrimeN p) (hns : ∀ n : Int, ¬ (p : Int) ∣ n * n - k) {x : P2} (h : (p : Int) ∣ nm k x) : (p : Int) ∣ x.1 ∧ (p : Int) ∣ x.2 := by
  have h2 : (p : Int) ∣ x.2 := by
    refine Classical.byContradiction fun hn => ?_
    have hc : Nat.Coprime p x.2.natAbs := hp.coprime fun z => hn (dvdI.mpr z)
    -- a turned one of x.2 by p
    obtain ⟨a, b, e⟩ : ∃ a b : Int, a * p + b * x.2 = 1 := by
      obtain ⟨u, v, e⟩ : ∃ u v : Int, u * (p : Int) + v * (x.2.natAbs : Int) = 1 := by
        obtain ⟨u, v, e⟩ := bezN _ x.2.natAbs p (Nat.le_refl _)
        exact ⟨u, v, by rw [e]; exact congrArg Nat.cast hc⟩
      rcases Int.natAbs_eq x.2 with z | z
      · exact ⟨u, v, by rw [← z] at e; exact e⟩
      · refine ⟨u, -v, ?_⟩
        have : (x.2.natAbs : Int) = -x.2 := by omega
        rw [this] at e
        grind
    obtain ⟨c, hc⟩ := h
    refine hns (x.1 * b) ⟨b * b * c + k * (a * a * p) - 2 * (k * a), ?_⟩
    simp only [nm] at hc
    grind
  refine ⟨?_, h2⟩
  obtain ⟨c, hc⟩ := h
  obtain ⟨d, hd⟩ := h2
  simp only [nm] at hc
  have : (p : Int) ∣ x.1 * x.1 := ⟨c + k * d * x.2, by rw [hd] at hc ⊢; grind⟩
  rcases hp.dvd_mulI this with z | z <;> exact z
theorem goes_int {k : Int} {n : Int} {x : P2} (h1 : n ∣ x.1) (h2 : n ∣ x.2) : Goes k (n, 0) x := by
  obtain ⟨a, ha⟩ := h1
  obtain ⟨b, hb⟩ := h2
  refine ⟨(a, b), ?_⟩
  apply ext
  · rw [ha]; simp only [TF.mul]; grind
  · rw [hb]; simp only [TF.mul]; grind
theorem goes_int_iff {k : Int} {n : Int} {x : P2} : Goes k (n, 0) x ↔ n ∣ x.1 ∧ n ∣ x.2 := by
  refine ⟨?_, fun h => goes_int h.1 h.2⟩
  rintro ⟨z, rfl⟩
  refine ⟨⟨z.1, ?_⟩, ⟨z.2, ?_⟩⟩ <;> simp only [TF.mul] <;> grind
theorem prm_inert {k : Int} (hk : Kind k) {p : Nat} (hp : PrimeN p) (hns : ∀ n : Int, ¬ (p : Int) ∣ n * n - k) : Prm k ((p : Int), 0) := by
  have hp1 := hp.1
  refine ⟨fun e => ?_, fun hu => ?_, fun a b hv => ?_⟩
  · have := congrArg Prod.fst e
    simp only at this
    omega
  · have e : nm k ((p : Int), 0) = ((p * p : Nat) : Int) := by simp [nm]
    unfold Unit at hu
    rw [e] at hu
    have : p * p = 1 := by omega
    have h3 := Nat.mul_le_mul_left p (show 2 ≤ p by omega)
    omega
  · have h1 := goes_nm hv
    have e : nm k ((p : Int), 0) = ((p * p : Nat) : Int) := by simp [nm]
    rw [e, nm_mul] at h1
    have h2 : (p : Int) ∣ nm k a * nm k b := dvdI.mpr (Nat.dvd_trans ⟨p, by omega⟩ h1)
    rcases hp.dvd_mulI h2 with z | z
    · exact .inl (goes_int_iff.mpr (inert hp hns z))
    · exact .inr (goes_int_iff.mpr (inert hp hns z))
end TF

namespace TF
def size (k : Int) (x : P2) : Nat := (nm k x).natAbs
/-- the size is a prime, or the square of a prime that goes into it and that leaves the kind behind no square -/
def Crit (k : Int) (x : P2) : Prop := PrimeN (size k x) ∨ ∃ p : Nat, PrimeN p ∧ size k x = p * p ∧ (∀ n : Nat, n < p → ¬ (p : Int) ∣ (n : Int) * n - k) ∧ Goes k ((p : Int), 0) x
theorem noSquare {k : Int} {p : Nat} (hp : 0 < p) (h : ∀ n : Nat, n < p → ¬ (p : Int) ∣ (n : Int) * n - k) (n : Int) : ¬ (p : Int) ∣ n * n - k := by
  intro hv
  have h0 : 0 ≤ n % (p : Int) := Int.emod_nonneg _ (by omega)
  have h1 : n % (p : Int) < p := Int.emod_lt_of_pos _ (by omega)
  obtain ⟨m, hm⟩ : ∃ m : Nat, n % (p : Int) = m := ⟨(n % (p : Int)).toNat, by omega⟩
  refine h m (by omega) ?_
  have e : n = (p : Int) * (n / p) + m := by rw [← hm]; exact (Int.mul_ediv_add_emod n p).symm
  obtain ⟨c, hc⟩ := hv
  generalize n / (p : Int) = q at e
  refine ⟨c - (p : Int) * q * q - 2 * q * m, ?_⟩
  rw [e] at hc
  grind
theorem nm_int (k n : Int) : nm k (n, 0) = n * n := by simp [nm]
theorem Prm.alike {k : Int} {x y : P2} (h : Prm k x) (a : Alike k x y) (hy : y ≠ (0, 0)) : Prm k y := by
  refine ⟨hy, fun hu => h.2.1 ?_, fun c d hv => ?_⟩
  · exact unit_iff_goes.mpr (goes_trans a.1 (unit_iff_goes.mp hu))
  · rcases h.2.2 c d (goes_trans a.1 hv) with z | z
    · exact .inl (goes_trans a.2 z)
    · exact .inr (goes_trans a.2 z)
theorem Crit.prm {k : Int} (hk : Kind k) {x : P2} (h : Crit k x) : Prm k x := by
  rcases h with h | ⟨p, hp, e, hns, hg⟩
  · exact (irr_of_prime hk h).prm hk
  · have hP := prm_inert (k := k) hk hp (noSquare hp.pos hns)
    have hx : x ≠ (0, 0) := by
      rintro rfl
      have : p * p = 0 := by rw [← e]; simp [size, nm]
      have := hp.pos
      rcases Nat.mul_eq_zero.mp ‹p * p = 0› with z | z <;> omega
    obtain ⟨u, hu, ex⟩ := alike_of_nm hk hx hg (by
      rw [nm_int]
      show _ = size k x
      rw [e]
      simp [Int.natAbs_mul])
    refine hP.alike ?_ hx
    rw [ex]
    exact alike_of_unit hu
theorem alike_size {k : Int} {x y : P2} (a : Alike k x y) : size k x = size k y := Nat.dvd_antisymm (goes_nm a.1) (goes_nm a.2)
theorem Crit.alike {k : Int} {x y : P2} (h : Crit k x) (a : Alike k x y) : Crit k y := by
  rcases h with h | ⟨p, hp, e, hns, hg⟩
  · exact .inl (by rw [← alike_size a]; exact h)
  · exact .inr ⟨p, hp, by rw [← alike_size a]; exact e, hns, goes_trans hg a.1⟩
/-! ### products of lists -/
def prodL (k : Int) : List P2 → P2
  | [] => (1, 0)
  | x :: xs => TF.mul k x (prodL k xs)
/-- as a loop makes it -/
def prodFrom (k : Int) (u : P2) : List P2 → P2
  | [] => u
  | x :: xs => prodFrom k (TF.mul k u x) xs
theorem prodFrom_eq (k : Int) : ∀ (xs : List P2) (u : P2), prodFrom k u xs = TF.mul k u (prodL k xs)
  | [], u => (mul_one k u).symm
  | x :: xs, u => by
    show prodFrom k (TF.mul k u x) xs = TF.mul k u (TF.mul k x (prodL k xs))
    rw [prodFrom_eq k xs, mul_assoc]
theorem prodL_append (k : Int) : ∀ (xs ys : List P2), prodL k (xs ++ ys) = TF.mul k (prodL k xs) (prodL k ys)
  | [], ys => (one_mul k _).symm
  | x :: xs, ys => by
    show TF.mul k x (prodL k (xs ++ ys)) = _
    rw [prodL_append k xs ys, ← mul_assoc]
    rfl
theorem prodL_erase {k : Int} : ∀ {xs : List P2} {i : Nat} {x : P2}, xs[i]? = some x → prodL k xs = TF.mul k x (prodL k (xs.eraseIdx i))
  | [], i, x, h => by simp at h
  | y :: ys, 0, x, h => by
    simp at h
    subst h
    rfl
  | y :: ys, i + 1, x, h => by
    have h' : ys[i]? = some x := by simpa using h
    show TF.mul k y (prodL k ys) = TF.mul k x (TF.mul k y (prodL k (ys.eraseIdx i)))
    rw [prodL_erase h', ← mul_assoc, mul_comm k y x, mul_assoc]
theorem Prm.dvd_prod {k : Int} {x : P2} (h : Prm k x) : ∀ {xs : List P2}, Goes k x (prodL k xs) → ∃ (i : Nat) (y : P2), xs[i]? = some y ∧ Goes k x y
  | [], hv => absurd (unit_iff_goes.mpr hv) h.2.1
  | y :: ys, hv => by
    rcases h.2.2 y _ hv with z | z
    · exact ⟨0, y, rfl, z⟩
    · obtain ⟨i, w, e, g⟩ := h.dvd_prod z
      exact ⟨i + 1, w, by simpa using e, g⟩
theorem Prm.goes_alike {k : Int} (hk : Kind k) {x y : P2} (hx : Prm k x) (hy : Prm k y) (h : Goes k x y) : Alike k x y := by
  refine ⟨h, ?_⟩
  obtain ⟨z, e⟩ := h
  rcases hy.2.2 x z (by rw [← e]; exact goes_refl k y) with g | g
  · exact g
  · exfalso
    obtain ⟨w, ew⟩ := g
    refine hx.2.1 (unit_iff_goes.mpr ⟨w, ?_⟩)
    refine (mul_cancel hk hy.1 (y := (1, 0)) ?_)
    rw [mul_one, ← mul_assoc, mul_comm k y x, mul_assoc, ← ew]
    exact e
theorem prodL_ne {k : Int} (hk : Kind k) : ∀ {xs : List P2}, (∀ x ∈ xs, x ≠ (0, 0)) → prodL k xs ≠ (0, 0)
  | [], _ => fun e => absurd (congrArg Prod.fst e) (show (1 : Int) ≠ 0 by decide)
  | x :: xs, h => fun e => by
    rcases mul_eq_zero hk e with z | z
    · exact h x List.mem_cons_self z
    · exact prodL_ne hk (fun y hy => h y (List.mem_cons_of_mem _ hy)) z
/-- one step of the matching: the first of the ones has its own among the others, and without both the rest are alike again -/
theorem match_step {k : Int} (hk : Kind k) {x : P2} {xs ys : List P2} (hx : Prm k x) (hxs : ∀ z ∈ xs, Prm k z) (hys : ∀ z ∈ ys, Prm k z) (a : Alike k (prodL k (x :: xs)) (prodL k ys)) : ∃ (i : Nat) (y : P2), ys[i]? = some y ∧ Alike k x y := by
  obtain ⟨i, y, e, g⟩ := hx.dvd_prod (xs := ys) (goes_trans ⟨_, rfl⟩ a.1)
  exact ⟨i, y, e, hx.goes_alike hk (hys y (List.mem_of_getElem? e)) g⟩
theorem match_rest {k : Int} (hk : Kind k) {x y : P2} {xs ys : List P2} {i : Nat} (hx : Prm k x) (hys : ∀ z ∈ ys, Prm k z) (a : Alike k (prodL k (x :: xs)) (prodL k ys)) (e : ys[i]? = some y) (g : Alike k x y) : Alike k (prodL k xs) (prodL k (ys.eraseIdx i)) := by
  rw [prodL_erase e] at a
  have hy := hys y (List.mem_of_getElem? e)
  obtain ⟨u, hu, eu⟩ := g.unit hk hy.1
  subst eu
  obtain ⟨⟨c, hc⟩, ⟨d, hd⟩⟩ := a
  have hc' : TF.mul k x (TF.mul k u (prodL k (ys.eraseIdx i))) = TF.mul k x (TF.mul k (prodL k xs) c) := by
    rw [← mul_assoc, hc]
    show TF.mul k (TF.mul k x (prodL k xs)) c = _
    rw [mul_assoc]
  have hd' : TF.mul k x (prodL k xs) = TF.mul k x (TF.mul k u (TF.mul k (prodL k (ys.eraseIdx i)) d)) := by
    have : TF.mul k x (prodL k xs) = TF.mul k (TF.mul k (TF.mul k x u) (prodL k (ys.eraseIdx i))) d := hd
    rw [this, mul_assoc, mul_assoc]
  have hc2 := mul_cancel hk hx.1 hc'
  have hd2 := mul_cancel hk hx.1 hd'
  obtain ⟨v, ev, _⟩ := hu.inv
  refine ⟨⟨TF.mul k c v, ?_⟩, ⟨TF.mul k u d, ?_⟩⟩
  · rw [← mul_assoc, ← hc2, mul_comm k u, mul_assoc, ev, mul_one]
  · rw [hd2, ← mul_assoc, mul_comm k u, mul_assoc]
theorem match_end {k : Int} {ys : List P2} (hys : ∀ z ∈ ys, Prm k z) (a : Alike k (prodL k []) (prodL k ys)) : ys = [] := by
  cases ys with
  | nil => rfl
  | cons y ys =>
    exfalso
    refine (hys y List.mem_cons_self).2.1 (unit_iff_goes.mpr ?_)
    exact goes_trans ⟨_, rfl⟩ a.2
/-- a number parted is of the make itself just where it has one part -/
theorem crit_parted {k : Int} (hk : Kind k) {u : P2} {xs : List P2} (hu : Unit k u) (hxs : ∀ z ∈ xs, Crit k z) : Crit k (TF.mul k u (prodL k xs)) ↔ xs.length = 1 := by
  have al : Alike k (prodL k xs) (TF.mul k u (prodL k xs)) := by rw [mul_comm]; exact alike_of_unit hu
  constructor
  · intro h
    have hp := (h.alike al.symm).prm hk
    match xs, hxs, hp with
    | [], _, hp => exact absurd (unit_one k) hp.2.1
    | [x], _, _ => rfl
    | x :: y :: zs, hxs, hp =>
      exfalso
      have px := (hxs x List.mem_cons_self).prm hk
      have py := (hxs y (List.mem_cons_of_mem _ List.mem_cons_self)).prm hk
      obtain ⟨i, w, e, g⟩ := hp.dvd_prod (goes_refl k (prodL k (x :: y :: zs)))
      have hw := (hxs w (List.mem_of_getElem? e)).prm hk
      have aw := hp.goes_alike hk hw g
      have e2 := prodL_erase (k := k) e
      obtain ⟨v, hv, ev⟩ := aw.symm.unit hk (prodL_ne hk (fun z hz => ((hxs z hz).prm hk).1))
      have e3 : prodL k ((x :: y :: zs).eraseIdx i) = v := mul_cancel hk hw.1 (by rw [← e2]; exact ev)
      have hu' : Unit k (prodL k ((x :: y :: zs).eraseIdx i)) := by rw [e3]; exact hv
      match i, hu' with
      | 0, hu' => exact py.2.1 (unit_of_mul hu')
      | i + 1, hu' => exact px.2.1 (unit_of_mul hu')
  · intro h
    match xs, h, hxs with
    | [x], _, hxs =>
      refine (hxs x List.mem_cons_self).alike ?_
      show Alike k x (TF.mul k u (TF.mul k x (1, 0)))
      rw [mul_one, mul_comm]
      exact alike_of_unit hu
/-- a prime that leaves the kind behind a square: what it has in common with n + w is of its size -/
theorem split_prime {k : Int} (hk : Kind k) {p : Nat} (hp : PrimeN p) {n : Int} (h : (p : Int) ∣ n * n - k) {g a b : P2} (e : g = add (TF.mul k a ((p : Int), 0)) (TF.mul k b (n, 1))) (h1 : Goes k g ((p : Int), 0)) (h2 : Goes k g (n, 1)) : size k g = p := by
  have hp1 := hp.1
  have no1 : ¬ (p : Int) ∣ 1 := fun z => by
    have := Int.le_of_dvd (by decide) z
    omega
  have nv := goes_nm h1
  rw [nm_int, Int.natAbs_mul] at nv
  simp only [Int.natAbs_natCast] at nv
  obtain ⟨c, hc⟩ := nv
  show (nm k g).natAbs = p
  by_cases hg : (nm k g).natAbs = 1
  · exfalso
    obtain ⟨v, ev⟩ := unit_iff_goes.mp (show Unit k g from hg)
    -- (n, -1) = (n, -1) * g * v
    have e2 : ((n, -1) : P2) = TF.mul k ((p : Int), 0) (add (TF.mul k (n, -1) (TF.mul k a v)) (TF.mul k ((n * n - k) / p, 0) (TF.mul k b v))) := by
      have e3 : ((n * n - k) / (p : Int)) * p = n * n - k := Int.ediv_mul_cancel h
      have e4 : ((n, -1) : P2) = TF.mul k (n, -1) (TF.mul k g v) := by rw [← ev, mul_one]
      refine e4.trans ?_
      rw [e]
      generalize (n * n - k) / (p : Int) = q at e3 ⊢
      apply ext <;> simp only [TF.mul, add] <;> grind
    have := (goes_int_iff.mp ⟨_, e2⟩).2
    simp only at this
    exact no1 (by rw [← Int.dvd_neg]; exact this)
  · by_cases hcc : c = 1
    · exfalso
      subst hcc
      rw [Nat.mul_one] at hc
      have hp0 : ((p : Int), (0 : Int)) ≠ (0, 0) := fun z => by
        have := congrArg Prod.fst z
        simp only at this
        omega
      obtain ⟨u, hu, eu⟩ := alike_of_nm hk hp0 h1 (by rw [nm_int, Int.natAbs_mul]; simp only [Int.natAbs_natCast]; exact hc.symm)
      have g2 : Goes k ((p : Int), 0) (n, 1) := by
        refine goes_trans ?_ h2
        rw [eu]
        exact (alike_of_unit hu).2
      exact no1 (goes_int_iff.mp g2).2
    · exact (hp.sq_factor hc.symm hg hcc).1
end TF

namespace TF
/-- the basic unit, its turned one -/
def bu (k : Int) : P2 := if k = -2 then (-1, 0) else if k = -1 then (0, 1) else if k = 2 then (1, 1) else (2, 1)
def bi (k : Int) : P2 := if k = -2 then (-1, 0) else if k = -1 then (0, -1) else if k = 2 then (-1, 1) else (2, -1)
theorem bu_bi {k : Int} (hk : Kind k) : TF.mul k (bu k) (bi k) = (1, 0) := by rcases hk with rfl | rfl | rfl | rfl <;> decide
theorem bu_unit {k : Int} (hk : Kind k) : Unit k (bu k) := by rcases hk with rfl | rfl | rfl | rfl <;> (unfold Unit; decide)
theorem bi_unit {k : Int} (hk : Kind k) : Unit k (bi k) := by rcases hk with rfl | rfl | rfl | rfl <;> (unfold Unit; decide)
/-- m times the factor b behind u -/
def pwF (k : Int) (b u : P2) : Nat → P2
  | 0 => u
  | n + 1 => TF.mul k (pwF k b u n) b
def pw (k : Int) (b : P2) (n : Nat) : P2 := pwF k b (1, 0) n
theorem pwF_eq (k : Int) (b u : P2) : ∀ n, pwF k b u n = TF.mul k u (pw k b n)
  | 0 => (mul_one k u).symm
  | n + 1 => by
    show TF.mul k (pwF k b u n) b = TF.mul k u (TF.mul k (pw k b n) b)
    rw [pwF_eq k b u n, mul_assoc]
theorem pw_succ (k : Int) (b : P2) (n : Nat) : pw k b (n + 1) = TF.mul k (pw k b n) b := rfl
theorem pw_unit {k : Int} {b : P2} (h : Unit k b) : ∀ n, Unit k (pw k b n)
  | 0 => unit_one k
  | n + 1 => (pw_unit h n).mul h
theorem pw_inv {k : Int} {b c : P2} (h : TF.mul k b c = (1, 0)) : ∀ n, TF.mul k (pw k b n) (pw k c n) = (1, 0)
  | 0 => mul_one k _
  | n + 1 => by
    rw [pw_succ, pw_succ]
    have e : TF.mul k (TF.mul k (pw k b n) b) (TF.mul k (pw k c n) c) = TF.mul k (TF.mul k (pw k b n) (pw k c n)) (TF.mul k b c) := by
      apply ext <;> simp only [TF.mul] <;> grind
    rw [e, pw_inv h n, h, mul_one]
/-- the unit of a sign and times -/
def unitOf (k s t : Int) : P2 := TF.mul k (s, 0) (pw k (if t < 0 then bi k else bu k) t.natAbs)
theorem unitOf_loop (k s t : Int) : pwF k (if t < 0 then bi k else bu k) (s, 0) t.natAbs = unitOf k s t := pwF_eq k _ _ _
theorem sign_unit {k s : Int} (hs : s = 1 ∨ s = -1) : Unit k (s, 0) := by rcases hs with rfl | rfl <;> simp [Unit, nm]
theorem unitOf_unit {k s t : Int} (hk : Kind k) (hs : s = 1 ∨ s = -1) : Unit k (unitOf k s t) := by
  refine (sign_unit hs).mul (pw_unit ?_ _)
  split
  · exact bi_unit hk
  · exact bu_unit hk
/-! ### kinds 2 and 3: what the parts look like -/
/-- both parts of the powers of the basic unit -/
theorem pw_bu_pos {k : Int} (hk : k = 2 ∨ k = 3) : ∀ n, 0 < (pw k (bu k) n).1 ∧ (n : Int) ≤ (pw k (bu k) n).2
  | 0 => by constructor <;> simp [pw, pwF]
  | n + 1 => by
    obtain ⟨h1, h2⟩ := pw_bu_pos hk n
    rw [pw_succ]
    generalize pw k (bu k) n = x at *
    rcases hk with rfl | rfl
    · simp only [TF.mul, bu]
      have e1 : x.1 * (1 : Int) + 2 * x.2 * 1 = x.1 + 2 * x.2 := by grind
      have e2 : x.1 * (1 : Int) + x.2 * 1 = x.1 + x.2 := by grind
      simp
      omega
    · simp only [TF.mul, bu]
      simp
      omega
theorem pw_bu_mono {k : Int} (hk : k = 2 ∨ k = 3) (n : Nat) : (pw k (bu k) n).2 < (pw k (bu k) (n + 1)).2 := by
  obtain ⟨h1, h2⟩ := pw_bu_pos hk n
  rw [pw_succ]
  generalize pw k (bu k) n = x at *
  rcases hk with rfl | rfl
  · simp only [TF.mul, bu]
    simp
    omega
  · simp only [TF.mul, bu]
    simp
    omega
theorem pw_bu_lt {k : Int} (hk : k = 2 ∨ k = 3) {m n : Nat} (h : m < n) : (pw k (bu k) m).2 < (pw k (bu k) n).2 := by
  induction n with
  | zero => omega
  | succ n ih =>
    have := pw_bu_mono hk n
    by_cases e : m = n
    · subst e; exact this
    · have := ih (by omega); omega
theorem pw_bu_inj {k : Int} (hk : k = 2 ∨ k = 3) {m n : Nat} (h : (pw k (bu k) m).2 = (pw k (bu k) n).2) : m = n := by
  rcases Nat.lt_trichotomy m n with z | z | z
  · have := pw_bu_lt hk z; omega
  · exact z
  · have := pw_bu_lt hk z; omega
/-- the powers of the turned one: the mirror, up to a sign -/
theorem pw_bi_eq {k : Int} (hk : k = 2 ∨ k = 3) (n : Nat) : ∃ s : Int, (s = 1 ∨ s = -1) ∧ pw k (bi k) n = (s * (pw k (bu k) n).1, -(s * (pw k (bu k) n).2)) ∧ (s = if k = 2 ∧ n % 2 = 1 then -1 else 1) := by
  induction n with
  | zero => exact ⟨1, .inl rfl, by simp [pw, pwF], by simp⟩
  | succ n ih =>
    obtain ⟨s, hs, e, es⟩ := ih
    rw [pw_succ, pw_succ, e]
    generalize pw k (bu k) n = x
    rcases hk with rfl | rfl
    · refine ⟨-s, by omega, ?_, ?_⟩
      · apply ext <;> simp only [TF.mul, bu, bi] <;> simp <;> grind
      · rw [es]
        have : n % 2 = 0 ∨ n % 2 = 1 := by omega
        rcases this with z | z
        · have z2 : (n + 1) % 2 = 1 := by omega
          simp [z, z2]
        · have z2 : (n + 1) % 2 = 0 := by omega
          simp [z, z2]
    · refine ⟨s, hs, ?_, by rw [es]; simp⟩
      apply ext <;> simp only [TF.mul, bu, bi] <;> simp <;> grind
/-- one pair alone -/
theorem unitOf_inj {k s t s' t' : Int} (hk : k = 2 ∨ k = 3) (hs : s = 1 ∨ s = -1) (hs' : s' = 1 ∨ s' = -1) (h : unitOf k s t = unitOf k s' t') : s = s' ∧ t = t' := by
  have form : ∀ (s t : Int), (s = 1 ∨ s = -1) → ∃ r : Int, (r = 1 ∨ r = -1) ∧ (0 ≤ t → unitOf k s t = (s * (pw k (bu k) t.natAbs).1, s * (pw k (bu k) t.natAbs).2)) ∧ (t < 0 → unitOf k s t = (s * r * (pw k (bu k) t.natAbs).1, -(s * r * (pw k (bu k) t.natAbs).2))) ∧ (r = if k = 2 ∧ t.natAbs % 2 = 1 then -1 else 1) := by
    intro s t hs
    obtain ⟨r, hr, e, er⟩ := pw_bi_eq hk t.natAbs
    refine ⟨r, hr, fun h0 => ?_, fun h0 => ?_, er⟩
    · unfold unitOf
      rw [if_neg (by omega)]
      apply ext <;> simp only [TF.mul] <;> grind
    · unfold unitOf
      rw [if_pos h0, e]
      apply ext <;> simp only [TF.mul] <;> grind
  obtain ⟨r, hr, p1, p2, pr⟩ := form s t hs
  obtain ⟨r', hr', q1, q2, qr⟩ := form s' t' hs'
  obtain ⟨a1, a2⟩ := pw_bu_pos hk t.natAbs
  obtain ⟨c1, c2⟩ := pw_bu_pos hk t'.natAbs
  have inj : (pw k (bu k) t.natAbs).2 = (pw k (bu k) t'.natAbs).2 → t.natAbs = t'.natAbs := pw_bu_inj hk
  have same : t.natAbs = t'.natAbs → pw k (bu k) t.natAbs = pw k (bu k) t'.natAbs := fun e => by rw [e]
  have rr : t.natAbs = t'.natAbs → r = r' := fun e => by rw [pr, qr, e]
  generalize pw k (bu k) t.natAbs = A at *
  generalize pw k (bu k) t'.natAbs = C at *
  by_cases h0 : 0 ≤ t
  · rw [p1 h0] at h
    by_cases h0' : 0 ≤ t'
    · rw [q1 h0'] at h
      have e1 := congrArg Prod.fst h
      have e2 := congrArg Prod.snd h
      simp only at e1 e2
      rcases hs with rfl | rfl <;> rcases hs' with rfl | rfl <;> (have := inj (by omega); omega)
    · rw [q2 (by omega)] at h
      have e1 := congrArg Prod.fst h
      have e2 := congrArg Prod.snd h
      simp only at e1 e2
      exfalso
      have ht' : 0 < t'.natAbs := by omega
      rcases hs with rfl | rfl <;> rcases hs' with rfl | rfl <;> rcases hr' with rfl | rfl <;> simp at e1 e2 <;> omega
  · rw [p2 (by omega)] at h
    have ht : 0 < t.natAbs := by omega
    by_cases h0' : 0 ≤ t'
    · rw [q1 h0'] at h
      have e1 := congrArg Prod.fst h
      have e2 := congrArg Prod.snd h
      simp only at e1 e2
      exfalso
      rcases hs with rfl | rfl <;> rcases hs' with rfl | rfl <;> rcases hr with rfl | rfl <;> simp at e1 e2 <;> omega
    · rw [q2 (by omega)] at h
      have e1 := congrArg Prod.fst h
      have e2 := congrArg Prod.snd h
      simp only at e1 e2
      have et : t.natAbs = t'.natAbs := by
        refine inj ?_
        rcases hs with rfl | rfl <;> rcases hs' with rfl | rfl <;> rcases hr with rfl | rfl <;> rcases hr' with rfl | rfl <;> simp at e1 e2 <;> omega
      have er := rr et
      subst er
      refine ⟨?_, by omega⟩
      rcases hs with rfl | rfl <;> rcases hs' with rfl | rfl <;> rcases hr with rfl | rfl <;> simp at e1 e2 <;> omega
/-! ### going down -/
theorem down3 {a b : Int} (h : (nm 3 (a, b)).natAbs = 1) (ha : 0 < a) (hb : 0 < b) : 0 < 2 * a - 3 * b ∧ 0 ≤ 2 * b - a ∧ 2 * b - a < b := by
  have e : a * a - 3 * b * b = 1 := by
    have : a * a - 3 * b * b = 1 ∨ a * a - 3 * b * b = -1 := by simp only [nm] at h; omega
    rcases this with z | z
    · exact z
    · exfalso
      have m3 := mod3 a (b * b) 
      have h3 : a % 3 = 0 ∨ a % 3 = 1 ∨ a % 3 = 2 := by omega
      have e' : a * a = 3 * (b * b) - 1 := by grind
      rcases h3 with q | q | q
      · obtain ⟨c, rfl⟩ : ∃ c, a = 3 * c := ⟨a / 3, by omega⟩
        have : 3 * c * (3 * c) = 3 * (3 * (c * c)) := by grind
        omega
      · obtain ⟨c, rfl⟩ : ∃ c, a = 3 * c + 1 := ⟨a / 3, by omega⟩
        have : (3 * c + 1) * (3 * c + 1) = 3 * (3 * (c * c) + 2 * c) + 1 := by grind
        omega
      · obtain ⟨c, rfl⟩ : ∃ c, a = 3 * c + 2 := ⟨a / 3, by omega⟩
        have : (3 * c + 2) * (3 * c + 2) = 3 * (3 * (c * c) + 4 * c + 1) + 1 := by grind
        omega
  have e' : a * a = 3 * (b * b) + 1 := by grind
  have hbb : 0 < b * b := Int.mul_pos hb hb
  have lt_of_sq : ∀ x y : Int, 0 ≤ y → x * x < y * y → x < y := fun x y hy hxy => by
    refine Int.lt_of_not_ge fun z => ?_
    have := Int.mul_le_mul z z hy (by omega)
    omega
  refine ⟨?_, ?_, ?_⟩
  · have : 3 * b < 2 * a := lt_of_sq _ _ (by omega) (by grind)
    omega
  · have : a < 2 * b + 1 := lt_of_sq _ _ (by omega) (by grind)
    omega
  · have : b < a := lt_of_sq _ _ (by omega) (by grind)
    omega
theorem down2 {a b : Int} (h : (nm 2 (a, b)).natAbs = 1) (ha : 0 < a) (hb : 0 < b) : 0 < 2 * b - a ∧ 0 ≤ a - b ∧ a - b < b := by
  have e : a * a = 2 * (b * b) + 1 ∨ a * a = 2 * (b * b) - 1 := by
    have : a * a - 2 * b * b = 1 ∨ a * a - 2 * b * b = -1 := by simp only [nm] at h; omega
    rcases this with z | z
    · left; grind
    · right; grind
  have hbb : 0 < b * b := Int.mul_pos hb hb
  have lt_of_sq : ∀ x y : Int, 0 ≤ y → x * x < y * y → x < y := fun x y hy hxy => by
    refine Int.lt_of_not_ge fun z => ?_
    have := Int.mul_le_mul z z hy (by omega)
    omega
  have h1 : a < 2 * b := by
    by_cases hb1 : b = 1
    · subst hb1
      refine Int.lt_of_not_ge fun z => ?_
      have := Int.mul_le_mul z z (by omega) (by omega)
      omega
    · have : 2 * b ≤ b * b := by
        have := Int.mul_le_mul_of_nonneg_right (show 2 ≤ b by omega) (show 0 ≤ b by omega)
        omega
      exact lt_of_sq _ _ (by omega) (by grind)
  have h2 : b < a + 1 := lt_of_sq _ _ (by omega) (by grind)
  omega
end TF

namespace TF
def rot (t : Int) : P2 := if t = 0 then (1, 0) else if t = 1 then (0, 1) else if t = 2 then (-1, 0) else (0, -1)
theorem rot_step (i : Int) : TF.mul (-1) (rot (i % 4)) (0, 1) = rot ((i + 1) % 4) := by
  have h : i % 4 = 0 ∨ i % 4 = 1 ∨ i % 4 = 2 ∨ i % 4 = 3 := by omega
  rcases h with z | z | z | z
  · have e : (i + 1) % 4 = 1 := by omega
    rw [z, e]; decide
  · have e : (i + 1) % 4 = 2 := by omega
    rw [z, e]; decide
  · have e : (i + 1) % 4 = 3 := by omega
    rw [z, e]; decide
  · have e : (i + 1) % 4 = 0 := by omega
    rw [z, e]; decide
theorem rot_back (i : Int) : TF.mul (-1) (rot (i % 4)) (0, -1) = rot ((i - 1) % 4) := by
  have h : i % 4 = 0 ∨ i % 4 = 1 ∨ i % 4 = 2 ∨ i % 4 = 3 := by omega
  rcases h with z | z | z | z
  · have e : (i - 1) % 4 = 3 := by omega
    rw [z, e]; decide
  · have e : (i - 1) % 4 = 0 := by omega
    rw [z, e]; decide
  · have e : (i - 1) % 4 = 1 := by omega
    rw [z, e]; decide
  · have e : (i - 1) % 4 = 2 := by omega
    rw [z, e]; decide
theorem rot_pw (i : Int) : ∀ n : Nat, pwF (-1) (0, 1) (rot (i % 4)) n = rot ((i + n) % 4)
  | 0 => by show rot (i % 4) = _; simp
  | n + 1 => by
    show TF.mul (-1) (pwF (-1) (0, 1) (rot (i % 4)) n) (0, 1) = _
    rw [rot_pw i n, rot_step]
    congr 2
    omega
theorem rot_pwb (i : Int) : ∀ n : Nat, pwF (-1) (0, -1) (rot (i % 4)) n = rot ((i - n) % 4)
  | 0 => by show rot (i % 4) = _; simp
  | n + 1 => by
    show TF.mul (-1) (pwF (-1) (0, -1) (rot (i % 4)) n) (0, -1) = _
    rw [rot_pwb i n, rot_back]
    congr 2
    omega
theorem unitOf_m1 {s t : Int} (hs : s = 1 ∨ s = -1) : unitOf (-1) s t = rot ((t + 1 - s) % 4) := by
  rw [← unitOf_loop]
  have e0 : ((s, 0) : P2) = rot ((1 - s) % 4) := by rcases hs with rfl | rfl <;> decide
  rw [e0]
  by_cases h : t < 0
  · rw [if_pos h]
    show pwF (-1) (0, -1) _ _ = _
    rw [rot_pwb]
    congr 2
    omega
  · rw [if_neg h]
    show pwF (-1) (0, 1) _ _ = _
    rw [rot_pw]
    congr 2
    omega
theorem rot_inj {i j : Int} (hi : 0 ≤ i) (hi3 : i ≤ 3) (hj : 0 ≤ j) (hj3 : j ≤ 3) (h : rot i = rot j) : i = j := by
  have a : i = 0 ∨ i = 1 ∨ i = 2 ∨ i = 3 := by omega
  have b : j = 0 ∨ j = 1 ∨ j = 2 ∨ j = 3 := by omega
  rcases a with rfl | rfl | rfl | rfl <;> rcases b with rfl | rfl | rfl | rfl <;> first | rfl | exact absurd h (by decide)
/-- kind -1: the pair that is told -/
theorem told_m1 {s t i : Int} (hs : s = 1 ∨ s = -1) (h0 : 0 ≤ i) (h3 : i ≤ 3) (h : unitOf (-1) 1 i = unitOf (-1) s t) : i = (t + 1 - s) % 4 := by
  rw [unitOf_m1 (.inl rfl), unitOf_m1 hs] at h
  have e : (i + 1 - 1) % 4 = i := by omega
  rw [e] at h
  exact rot_inj h0 h3 (by omega) (by omega) h
def flp (t : Int) : P2 := if t = 0 then (1, 0) else (-1, 0)
theorem flp_step (i : Int) : TF.mul (-2) (flp (i % 2)) (-1, 0) = flp ((i + 1) % 2) := by
  have h : i % 2 = 0 ∨ i % 2 = 1 := by omega
  rcases h with z | z
  · have e : (i + 1) % 2 = 1 := by omega
    rw [z, e]; decide
  · have e : (i + 1) % 2 = 0 := by omega
    rw [z, e]; decide
theorem flp_pw (i : Int) : ∀ n : Nat, pwF (-2) (-1, 0) (flp (i % 2)) n = flp ((i + n) % 2)
  | 0 => by show flp (i % 2) = _; simp
  | n + 1 => by
    show TF.mul (-2) (pwF (-2) (-1, 0) (flp (i % 2)) n) (-1, 0) = _
    rw [flp_pw i n, flp_step]
    congr 2
    omega
theorem unitOf_m2 {s t : Int} (hs : s = 1 ∨ s = -1) : unitOf (-2) s t = flp ((t + (1 - s) / 2) % 2) := by
  rw [← unitOf_loop]
  have e0 : ((s, 0) : P2) = flp ((1 - s) / 2 % 2) := by rcases hs with rfl | rfl <;> decide
  have eb : (if t < 0 then bi (-2) else bu (-2)) = (-1, 0) := by split <;> rfl
  rw [e0, eb, flp_pw]
  congr 1
  omega
theorem told_m2 {s t i : Int} (hs : s = 1 ∨ s = -1) (h0 : 0 ≤ i) (h1 : i ≤ 1) (h : unitOf (-2) 1 i = unitOf (-2) s t) : i = (t + (1 - s) / 2) % 2 := by
  rw [unitOf_m2 (.inl rfl), unitOf_m2 hs] at h
  have e : (i + (1 - 1) / 2) % 2 = i := by omega
  rw [e] at h
  have a : i = 0 ∨ i = 1 := by omega
  have b : (t + (1 - s) / 2) % 2 = 0 ∨ (t + (1 - s) / 2) % 2 = 1 := by omega
  rcases a with rfl | rfl <;> rcases b with z | z <;> rw [z] at h ⊢ <;> first | rfl | exact absurd h (by decide)
end TF

namespace TF
theorem pw_add (k : Int) (b : P2) (m : Nat) : ∀ n, pw k b (m + n) = TF.mul k (pw k b m) (pw k b n)
  | 0 => (mul_one k _).symm
  | n + 1 => by
    rw [← Nat.add_assoc, pw_succ, pw_succ, pw_add k b m n, mul_assoc]
/-- going down to one: kinds 2 and 3 -/
theorem pw_of_unit {k : Int} (hk : k = 2 ∨ k = 3) : ∀ (n : Nat) (a b : Int), b.natAbs ≤ n → 0 ≤ a → 0 ≤ b → Unit k (a, b) → ∃ m, pw k (bu k) m = (a, b) := by
  intro n
  induction n with
  | zero =>
    intro a b hn ha hb hu
    have e : b = 0 := by omega
    subst e
    have h : (a * a).natAbs = 1 := by simpa [Unit, nm] using hu
    rw [Int.natAbs_mul] at h
    have h1 : a.natAbs = 1 := Nat.eq_one_of_mul_eq_one_left h
    have e : a = 1 := by omega
    subst e
    exact ⟨0, rfl⟩
  | succ n ih =>
    intro a b hn ha hb hu
    by_cases h0 : b = 0
    · exact ih a b (by omega) ha hb hu
    · have ha0 : 0 < a := by
        rcases Int.lt_or_eq_of_le ha with z | z
        · exact z
        exfalso
        subst z
        have h : (k * b * b).natAbs = 1 := by simpa [Unit, nm] using hu
        rw [Int.natAbs_mul, Int.natAbs_mul] at h
        have h2 : k.natAbs * b.natAbs = 1 := Nat.eq_one_of_mul_eq_one_right h
        have := Nat.eq_one_of_mul_eq_one_right h2
        omega
      rcases hk with rfl | rfl
      · obtain ⟨h1, h2, h3⟩ := down2 hu ha0 (by omega)
        have hu' : Unit 2 (2 * b - a, a - b) := by
          have e : nm 2 (2 * b - a, a - b) = -(nm 2 (a, b)) := by simp only [nm]; grind
          unfold Unit
          rw [e, Int.natAbs_neg]
          exact hu
        obtain ⟨m, hm⟩ := ih (2 * b - a) (a - b) (by omega) (by omega) h2 hu'
        refine ⟨m + 1, ?_⟩
        rw [pw_succ, hm]
        apply ext <;> simp only [TF.mul, bu] <;> simp <;> omega
      · obtain ⟨h1, h2, h3⟩ := down3 hu ha0 (by omega)
        have hu' : Unit 3 (2 * a - 3 * b, 2 * b - a) := by
          have e : nm 3 (2 * a - 3 * b, 2 * b - a) = nm 3 (a, b) := by simp only [nm]; grind
          unfold Unit
          rw [e]
          exact hu
        obtain ⟨m, hm⟩ := ih (2 * a - 3 * b) (2 * b - a) (by omega) (by omega) h2 hu'
        refine ⟨m + 1, ?_⟩
        rw [pw_succ, hm]
        apply ext <;> simp only [TF.mul, bu] <;> simp <;> omega
theorem nm_abs (k : Int) (x : P2) : nm k ((x.1.natAbs : Int), (x.2.natAbs : Int)) = nm k x := by
  simp only [nm]
  have e1 : (x.1.natAbs : Int) * x.1.natAbs = x.1 * x.1 := Int.natAbs_mul_self
  have e2 : (x.2.natAbs : Int) * x.2.natAbs = x.2 * x.2 := Int.natAbs_mul_self
  rw [e1, Int.mul_assoc, e2, Int.mul_assoc]
/-- the size of the powers, with its sign -/
theorem nm_pw_bu {k : Int} (hk : k = 2 ∨ k = 3) : ∀ n, nm k (pw k (bu k) n) = if k = 2 ∧ n % 2 = 1 then -1 else 1
  | 0 => by simp [pw, pwF, nm]
  | n + 1 => by
    rw [pw_succ, nm_mul, nm_pw_bu hk n]
    rcases hk with rfl | rfl
    · have : n % 2 = 0 ∨ n % 2 = 1 := by omega
      rcases this with z | z
      · have z2 : (n + 1) % 2 = 1 := by omega
        simp [z, z2, bu, nm]
      · have z2 : (n + 1) % 2 = 0 := by omega
        simp [z, z2, bu, nm]
    · simp [bu, nm]
/-- the sign and the times of a unit of the kinds 2 and 3 -/
theorem told_big {k : Int} (hk : k = 2 ∨ k = 3) {x : P2} (hu : Unit k x) {n : Nat} (hn : pw k (bu k) n = ((x.1.natAbs : Int), (x.2.natAbs : Int))) {s t : Int} (hs : s = if 0 < (if nm k x = 1 then x.1 else x.2) then 1 else -1)
    (ht : t = if x.1 * x.2 < 0 then -(n : Int) else n) : (s = 1 ∨ s = -1) ∧ unitOf k s t = x := by
  refine ⟨by rw [hs]; by_cases z : 0 < (if nm k x = 1 then x.1 else x.2) <;> simp [z], ?_⟩
  have e1 := nm_pw_bu hk n
  rw [hn, nm_abs] at e1
  have hx1 : x.1 ≠ 0 := fun z => by
    have h := hu
    unfold Unit nm at h
    rw [z, Int.zero_mul, Int.zero_sub, Int.natAbs_neg, Int.natAbs_mul, Int.natAbs_mul] at h
    have h2 := Nat.eq_one_of_mul_eq_one_right (Nat.eq_one_of_mul_eq_one_right h)
    omega
  by_cases hneg : x.1 * x.2 < 0
  · rw [if_pos hneg] at ht
    have hn0 : n ≠ 0 := fun z => by
      subst z
      have := congrArg Prod.snd hn
      simp [pw, pwF] at this
      rw [show x.2 = 0 by omega, Int.mul_zero] at hneg
      exact absurd hneg (by decide)
    obtain ⟨r, hr, er, es⟩ := pw_bi_eq hk n
    unfold unitOf
    have tn : t < 0 := by omega
    have ta : t.natAbs = n := by omega
    rw [if_pos tn, ta, er, hn]
    have hx2 : x.2 ≠ 0 := fun z => by rw [z, Int.mul_zero] at hneg; omega
    have opp : (0 < x.1 ∧ x.2 < 0) ∨ (x.1 < 0 ∧ 0 < x.2) := by
      by_cases h1 : 0 < x.1
      · left
        refine ⟨h1, ?_⟩
        refine Int.lt_of_not_ge fun z => ?_
        have := Int.mul_nonneg (show 0 ≤ x.1 by omega) z
        omega
      · right
        refine ⟨by omega, ?_⟩
        refine Int.lt_of_not_ge fun z => ?_
        have := Int.mul_nonneg (show 0 ≤ -x.1 by omega) (show 0 ≤ -x.2 by omega)
        rw [Int.neg_mul_neg] at this
        omega
    rw [es]
    rw [e1] at hs
    by_cases hc : k = 2 ∧ n % 2 = 1
    · rw [if_pos hc] at hs ⊢
      simp only [show ((-1 : Int) = 1) = False by simp, if_false] at hs
      rcases opp with ⟨o1, o2⟩ | ⟨o1, o2⟩
      · rw [if_neg (by omega)] at hs
        subst hs
        apply ext <;> simp only [TF.mul] <;> simp <;> omega
      · rw [if_pos (by omega)] at hs
        subst hs
        apply ext <;> simp only [TF.mul] <;> simp <;> omega
    · rw [if_neg hc] at hs ⊢
      simp only [if_true] at hs
      rcases opp with ⟨o1, o2⟩ | ⟨o1, o2⟩
      · rw [if_pos (by omega)] at hs
        subst hs
        apply ext <;> simp only [TF.mul] <;> simp <;> omega
      · rw [if_neg (by omega)] at hs
        subst hs
        apply ext <;> simp only [TF.mul] <;> simp <;> omega
  · rw [if_neg hneg] at ht
    unfold unitOf
    have tn : ¬ t < 0 := by omega
    have ta : t.natAbs = n := by omega
    rw [if_neg tn, ta, hn]
    have same : (0 < x.1 ∧ 0 ≤ x.2) ∨ (x.1 < 0 ∧ x.2 ≤ 0) := by
      by_cases h1 : 0 < x.1
      · left
        refine ⟨h1, ?_⟩
        refine Int.not_lt.mp fun z => hneg ?_
        have := Int.mul_pos h1 (show 0 < -x.2 by omega)
        rw [Int.mul_neg] at this
        omega
      · right
        refine ⟨by omega, ?_⟩
        refine Int.not_lt.mp fun z => hneg ?_
        have := Int.mul_pos (show 0 < -x.1 by omega) z
        rw [Int.neg_mul] at this
        omega
    rw [e1] at hs
    by_cases hc : k = 2 ∧ n % 2 = 1
    · rw [if_pos hc] at hs e1
      simp only [show ((-1 : Int) = 1) = False by simp, if_false] at hs
      have hx2 : x.2 ≠ 0 := fun z => by
        unfold nm at e1
        rw [z] at e1
        have := sq_nonneg x.1
        omega
      rcases same with ⟨o1, o2⟩ | ⟨o1, o2⟩
      · rw [if_pos (by omega)] at hs
        subst hs
        apply ext <;> simp only [TF.mul] <;> simp <;> omega
      · rw [if_neg (by omega)] at hs
        subst hs
        apply ext <;> simp only [TF.mul] <;> simp <;> omega
    · rw [if_neg hc] at hs
      simp only [if_true] at hs
      rcases same with ⟨o1, o2⟩ | ⟨o1, o2⟩
      · rw [if_pos (by omega)] at hs
        subst hs
        apply ext <;> simp only [TF.mul] <;> simp <;> omega
      · rw [if_neg (by omega)] at hs
        subst hs
        apply ext <;> simp only [TF.mul] <;> simp <;> omega
/-- kinds -1 and -2 -/
theorem pw_m1 (n : Nat) : pw (-1) (bu (-1)) n = rot ((n : Int) % 4) := by
  have h := rot_pw 0 n
  rw [Int.zero_add] at h
  exact h
theorem pw_m2 (n : Nat) : pw (-2) (bu (-2)) n = flp ((n : Int) % 2) := by
  have h := flp_pw 0 n
  rw [Int.zero_add] at h
  exact h
theorem sq_le_one {a : Int} (h : a * a ≤ 1) : a = 0 ∨ a = 1 ∨ a = -1 := by
  by_cases h1 : 2 ≤ a
  · have := Int.mul_le_mul h1 h1 (by decide) (by omega)
    omega
  · by_cases h2 : a ≤ -2
    · have := Int.mul_le_mul (show 2 ≤ -a by omega) (show 2 ≤ -a by omega) (by decide) (by omega)
      rw [Int.neg_mul_neg] at this
      omega
    · omega
theorem unit_m1 {x : P2} (hu : Unit (-1) x) : ∃ n : Nat, n ≤ 3 ∧ x = rot n := by
  obtain ⟨a, b⟩ := x
  have e : a * a + b * b = 1 := by
    have h := hu
    unfold Unit nm at h
    have h1 := sq_nonneg a
    have h2 := sq_nonneg b
    simp only [Int.neg_mul, Int.one_mul] at h
    omega
  have h1 := sq_nonneg a
  have h2 := sq_nonneg b
  rcases sq_le_one (a := a) (by omega) with rfl | rfl | rfl <;> rcases sq_le_one (a := b) (by omega) with rfl | rfl | rfl <;> first | (exfalso; omega) | exact ⟨0, by decide, rfl⟩ | exact ⟨1, by decide, rfl⟩ | exact ⟨2, by decide, rfl⟩ | exact ⟨3, by decide, rfl⟩
theorem unit_m2 {x : P2} (hu : Unit (-2) x) : ∃ n : Nat, n ≤ 1 ∧ x = flp n := by
  obtain ⟨a, b⟩ := x
  have e : a * a + 2 * (b * b) = 1 := by
    have h := hu
    unfold Unit nm at h
    have h1 := sq_nonneg a
    have h2 := sq_nonneg b
    simp only [Int.neg_mul, Int.mul_assoc] at h
    omega
  have h1 := sq_nonneg a
  have h2 := sq_nonneg b
  rcases sq_le_one (a := a) (by omega) with rfl | rfl | rfl <;> rcases sq_le_one (a := b) (by omega) with rfl | rfl | rfl <;> first | (exfalso; omega) | exact ⟨0, by decide, rfl⟩ | exact ⟨1, by decide, rfl⟩
/-- a unit is reached by the basic one, and when first -/
structure Reach (k : Int) (x : P2) (n : Nat) : Prop where
  at_ : pw k (bu k) n = x
  first : ∀ m, m < n → pw k (bu k) m ≠ x
  few : ∀ m, m ≤ n → (pw k (bu k) m).1.natAbs ≤ x.1.natAbs + x.1.natAbs + 3 * x.2.natAbs + 1 ∧ (pw k (bu k) m).2.natAbs ≤ x.2.natAbs + 1
theorem reach_big {k : Int} (hk : k = 2 ∨ k = 3) {x : P2} (hu : Unit k x) : ∃ n, Reach k ((x.1.natAbs : Int), (x.2.natAbs : Int)) n := by
  obtain ⟨n, hn⟩ := pw_of_unit hk x.2.natAbs (x.1.natAbs : Int) (x.2.natAbs : Int) (by omega) (by omega) (by omega) (by unfold Unit; rw [nm_abs]; exact hu)
  refine ⟨n, hn, fun m hm z => ?_, fun m hm => ?_⟩
  · have := pw_bu_lt hk hm
    rw [hn, z] at this
    exact absurd this (Int.lt_irrefl _)
  · have h2 : (pw k (bu k) m).2 ≤ (pw k (bu k) n).2 := by
      rcases Nat.lt_or_eq_of_le hm with z | z
      · exact Int.le_of_lt (pw_bu_lt hk z)
      · rw [z]; exact Int.le_refl _
    rw [hn] at h2
    have hp := pw_bu_pos hk m
    have e := nm_pw_bu hk m
    generalize pw k (bu k) m = y at *
    simp only at h2 ⊢
    refine ⟨?_, by omega⟩
    have h4 : y.1 * y.1 ≤ 3 * (y.2 * y.2) + 1 := by
      have h5 := sq_nonneg y.2
      unfold nm at e
      rcases hk with rfl | rfl <;> simp only [Int.mul_assoc] at e <;> split at e <;> omega
    have h6 : y.1 ≤ 2 * y.2 + 1 := by
      refine Int.not_lt.mp fun z => ?_
      have h7 := Int.mul_le_mul (show 2 * y.2 + 2 ≤ y.1 by omega) (show 2 * y.2 + 2 ≤ y.1 by omega) (by omega) (by omega)
      have h8 := sq_nonneg y.2
      have : (2 * y.2 + 2) * (2 * y.2 + 2) = 4 * (y.2 * y.2) + 8 * y.2 + 4 := by grind
      omega
    simp only [Int.natAbs_natCast]
    omega
theorem reach_m1 {x : P2} (hu : Unit (-1) x) : ∃ n, n ≤ 3 ∧ Reach (-1) x n := by
  obtain ⟨n, hn, e⟩ := unit_m1 hu
  have em : ∀ m : Nat, m ≤ 3 → pw (-1) (bu (-1)) m = rot m := fun m hm => by
    rw [pw_m1]
    congr 1
    omega
  refine ⟨n, hn, (em n hn).trans e.symm, fun m hm z => ?_, fun m hm => ?_⟩
  · rw [em m (by omega), e] at z
    have := rot_inj (by omega) (by omega) (by omega) (by omega) z
    omega
  · rw [em m (by omega)]
    have : m = 0 ∨ m = 1 ∨ m = 2 ∨ m = 3 := by omega
    subst e
    have : ∀ i : Nat, i < 4 → ∀ j : Nat, j < 4 → (rot (i : Nat)).1.natAbs ≤ (rot (j : Nat)).1.natAbs + (rot (j : Nat)).1.natAbs + 3 * (rot (j : Nat)).2.natAbs + 1 ∧ (rot (i : Nat)).2.natAbs ≤ (rot (j : Nat)).2.natAbs + 1 := by decide
    exact this m (by omega) n (by omega)
theorem reach_m2 {x : P2} (hu : Unit (-2) x) : ∃ n, n ≤ 1 ∧ Reach (-2) x n := by
  obtain ⟨n, hn, e⟩ := unit_m2 hu
  have em : ∀ m : Nat, m ≤ 1 → pw (-2) (bu (-2)) m = flp m := fun m hm => by
    rw [pw_m2]
    congr 1
    omega
  refine ⟨n, hn, (em n hn).trans e.symm, fun m hm z => ?_, fun m hm => ?_⟩
  · rw [em m (by omega), e] at z
    have h1 : m = 0 := by omega
    have h2 : n = 1 := by omega
    subst h1 h2
    exact absurd z (by decide)
  · rw [em m (by omega)]
    subst e
    have : ∀ i : Nat, i < 2 → ∀ j : Nat, j < 2 → (flp (i : Nat)).1.natAbs ≤ (flp (j : Nat)).1.natAbs + (flp (j : Nat)).1.natAbs + 3 * (flp (j : Nat)).2.natAbs + 1 ∧ (flp (i : Nat)).2.natAbs ≤ (flp (j : Nat)).2.natAbs + 1 := by decide
    exact this m (by omega) n (by omega)
end TF

namespace TF
theorem prime_div : ∀ (m n : Nat), n ≤ m → 1 < n → ∃ p, PrimeN p ∧ p ∣ n
  | 0, n, h, h1 => by omega
  | m + 1, n, h, h1 => by
    by_cases hp : ∀ d, 2 ≤ d → d < n → ¬ d ∣ n
    · refine ⟨n, ⟨h1, fun d hd => ?_⟩, Nat.dvd_refl n⟩
      have hle := Nat.le_of_dvd (by omega) hd
      have h0 : d ≠ 0 := fun z => by subst z; rw [Nat.zero_dvd] at hd; omega
      by_cases e : d = n
      · exact .inr e
      · by_cases e1 : d = 1
        · exact .inl e1
        · exact absurd hd (hp d (by omega) (by omega))
    · have ⟨d, h2⟩ := Classical.not_forall.mp hp
      have ⟨h3, h4⟩ := Classical.not_imp.mp h2
      have ⟨h5, h6⟩ := Classical.not_imp.mp h4
      have h7 := Classical.not_not.mp h6
      obtain ⟨p, hp, hd⟩ := prime_div m d (by omega) (by omega)
      exact ⟨p, hp, Nat.dvd_trans hd h7⟩
/-- the primes of a number, found from below -/
structure PrOf (whole left factor : Nat) (ps : List Nat) : Prop where
  pos : 0 < left
  dv : left ∣ whole
  f2 : 2 ≤ factor
  low : ∀ d, 2 ≤ d → d ∣ left → factor ≤ d
  prs : ∀ q ∈ ps, PrimeN q ∧ q ∣ whole
  all : ∀ q, PrimeN q → q ∣ whole → q ∈ ps ∨ q ∣ left
  len : ps.length + 2 ≤ factor
  fw : (factor - 1) * (factor - 1) ≤ whole
theorem PrOf.start {n : Nat} (h : 0 < n) : PrOf n n 2 [] := ⟨h, Nat.dvd_refl n, by decide, fun d h2 _ => h2, fun q hq => (nomatch hq), fun q _ hq => .inr hq, by decide, h⟩
theorem PrOf.prime {w l f : Nat} {ps : List Nat} (P : PrOf w l f ps) (h : f ∣ l) : PrimeN f := by
  have := P.f2
  refine ⟨by omega, fun d hd => ?_⟩
  have hle := Nat.le_of_dvd (by omega) hd
  have h0 : d ≠ 0 := fun z => by subst z; rw [Nat.zero_dvd] at hd; omega
  by_cases e1 : d = 1
  · exact .inl e1
  · have := P.low d (by omega) (Nat.dvd_trans hd h)
    exact .inr (by omega)
/-- the inner loop: f goes into left no more -/
structure PrIn (whole left factor : Nat) (ps : List Nat) : Prop where
  pos : 0 < left
  dv : left ∣ whole
  f2 : 2 ≤ factor
  low : ∀ d, 2 ≤ d → d ∣ left → factor ≤ d
  prs : ∀ q ∈ ps, PrimeN q ∧ q ∣ whole
  all : ∀ q, PrimeN q → q ∣ whole → q ∈ ps ∨ q ∣ left
  len : ps.length + 1 ≤ factor
  fw : factor * factor ≤ whole
  there : factor ∣ left → factor ∈ ps
theorem le_of_dvd_sq {f l w : Nat} (h : f * f ≤ l) (hd : l ∣ w) (hw : 0 < w) : f * f ≤ w := Nat.le_trans h (Nat.le_of_dvd hw hd)
theorem PrOf.inY {w l f : Nat} {ps : List Nat} (hw : 0 < w) (P : PrOf w l f ps) (hf : f * f ≤ l) (h : f ∣ l) : PrIn w l f (ps ++ [f]) :=
  ⟨P.pos, P.dv, P.f2, P.low, fun q hq => by
    rcases List.mem_append.mp hq with z | z
    · exact P.prs q z
    · rw [List.mem_singleton.mp z]
      exact ⟨P.prime h, Nat.dvd_trans h P.dv⟩, fun q h1 h2 => (P.all q h1 h2).imp (fun z => List.mem_append_left _ z) id, by rw [List.length_append, List.length_singleton]; have := P.len; omega, le_of_dvd_sq hf P.dv hw, fun _ => by simp⟩
theorem PrOf.inN {w l f : Nat} {ps : List Nat} (hw : 0 < w) (P : PrOf w l f ps) (hf : f * f ≤ l) (h : ¬ f ∣ l) : PrIn w l f ps :=
  ⟨P.pos, P.dv, P.f2, P.low, P.prs, P.all, by have := P.len; omega, le_of_dvd_sq hf P.dv hw, fun z => absurd z h⟩
theorem PrIn.step {w l f : Nat} {ps : List Nat} (P : PrIn w l f ps) (h : f ∣ l) : PrIn w (l / f) f ps ∧ l / f < l := by
  have hf := P.f2
  have hl := P.pos
  have e : l / f * f = l := Nat.div_mul_cancel h
  have hd : l / f ∣ l := ⟨f, e.symm⟩
  have h0 : 0 < l / f := Nat.pos_of_ne_zero fun z => by rw [z, Nat.zero_mul] at e; omega
  refine ⟨⟨h0, Nat.dvd_trans hd P.dv, hf, fun d h1 h2 => P.low d h1 (Nat.dvd_trans h2 hd), P.prs, fun q h1 h2 => ?_, P.len, P.fw, fun z => P.there (Nat.dvd_trans z hd)⟩, Nat.div_lt_self hl hf⟩
  rcases P.all q h1 h2 with z | z
  · exact .inl z
  · rw [← e] at z
    rcases h1.dvd_mul z with z | z
    · exact .inr z
    · left
      have pf : PrimeN f := by
        refine ⟨hf, fun d hd2 => ?_⟩
        have hle := Nat.le_of_dvd (by omega) hd2
        have h0 : d ≠ 0 := fun z => by subst z; rw [Nat.zero_dvd] at hd2; omega
        by_cases e1 : d = 1
        · exact .inl e1
        · have := P.low d (by omega) (Nat.dvd_trans hd2 h)
          exact .inr (by omega)
      rcases pf.2 q z with e1 | e1
      · have := h1.1; omega
      · rw [e1]; exact P.there h
theorem PrIn.out {w l f : Nat} {ps : List Nat} (P : PrIn w l f ps) (h : ¬ f ∣ l) : PrOf w l (f + 1) ps :=
  ⟨P.pos, P.dv, by have := P.f2; omega, fun d h1 h2 => by
    have := P.low d h1 h2
    have : d ≠ f := fun z => h (z ▸ h2)
    omega, P.prs, P.all, by have := P.len; omega, by simpa using P.fw⟩
theorem PrOf.lastY {w l f : Nat} {ps : List Nat} (P : PrOf w l f ps) (hf : ¬ f * f ≤ l) (h : 1 < l) : (∀ q ∈ ps ++ [l], PrimeN q ∧ q ∣ w) ∧ ∀ q, PrimeN q → q ∣ w → q ∈ ps ++ [l] := by
  have pl : PrimeN l := primeN_of_small h fun d h1 h2 h3 => hf (by
    have := P.low d h1 h3
    exact Nat.le_trans (Nat.mul_le_mul this this) h2)
  refine ⟨fun q hq => ?_, fun q h1 h2 => ?_⟩
  · rcases List.mem_append.mp hq with z | z
    · exact P.prs q z
    · rw [List.mem_singleton.mp z]
      exact ⟨pl, P.dv⟩
  · rcases P.all q h1 h2 with z | z
    · exact List.mem_append_left _ z
    · rcases pl.2 q z with e | e
      · have := h1.1; omega
      · rw [e]; simp
theorem PrOf.lastN {w l f : Nat} {ps : List Nat} (P : PrOf w l f ps) (h : ¬ 1 < l) : (∀ q ∈ ps, PrimeN q ∧ q ∣ w) ∧ ∀ q, PrimeN q → q ∣ w → q ∈ ps := by
  refine ⟨P.prs, fun q h1 h2 => ?_⟩
  rcases P.all q h1 h2 with z | z
  · exact z
  · have := Nat.le_of_dvd P.pos z
    have := h1.1
    omega
/-- what a number has in common with a prime that goes into its size -/
theorem conj_mul (k : Int) (x y : P2) : conj (TF.mul k x y) = TF.mul k (conj x) (conj y) := by
  apply ext <;> simp only [TF.mul, conj] <;> grind
theorem conj_conj (x : P2) : conj (conj x) = x := by apply ext <;> simp [conj]
theorem gcd_prime {k : Int} (hk : Kind k) {p : Nat} (hp : PrimeN p) {y g a b : P2} (hy : p ∣ size k y) (e : g = add (TF.mul k a y) (TF.mul k b ((p : Int), 0))) (h1 : Goes k g y) (h2 : Goes k g ((p : Int), 0)) :
    size k g = p ∨ (size k g = p * p ∧ Goes k ((p : Int), 0) y) := by
  have hp1 := hp.1
  have nv := goes_nm h2
  rw [nm_int, Int.natAbs_mul] at nv
  simp only [Int.natAbs_natCast] at nv
  obtain ⟨c, hc⟩ := nv
  by_cases hg : (nm k g).natAbs = 1
  · exfalso
    obtain ⟨v, ev⟩ := unit_iff_goes.mp (show Unit k g from hg)
    obtain ⟨q, hq⟩ := dvdI.mpr hy
    -- conj y = conj y * g * v goes by p
    have e2 : conj y = TF.mul k ((p : Int), 0) (TF.mul k v (add (TF.mul k a (q, 0)) (TF.mul k b (conj y)))) := by
      have e3 : conj y = TF.mul k (conj y) (TF.mul k g v) := by rw [← ev, mul_one]
      have e4 : TF.mul k y (conj y) = ((p : Int) * q, 0) := by rw [mul_conj, hq]
      refine e3.trans ?_
      rw [e]
      have e5 : TF.mul k (conj y) (TF.mul k (add (TF.mul k a y) (TF.mul k b ((p : Int), 0))) v) = TF.mul k v (add (TF.mul k a (TF.mul k y (conj y))) (TF.mul k b (TF.mul k ((p : Int), 0) (conj y)))) := by
        apply ext <;> simp only [TF.mul, add] <;> grind
      rw [e5, e4]
      apply ext <;> simp only [TF.mul, add] <;> grind
    have d := goes_int_iff.mp ⟨_, e2⟩
    have gy : Goes k ((p : Int), 0) y := goes_int d.1 (by have := d.2; simp only [conj] at this; rw [Int.dvd_neg] at this; exact this)
    have gg : Goes k ((p : Int), 0) g := by
      rw [e]
      exact goes_add (goes_mul _ gy) (goes_mul _ (goes_refl k _))
    have := goes_nm gg
    rw [hg, nm_int, Int.natAbs_mul] at this
    simp only [Int.natAbs_natCast] at this
    have := Nat.le_of_dvd (by decide) this
    have := Nat.mul_le_mul (show 2 ≤ p by omega) (show 2 ≤ p by omega)
    omega
  · by_cases hcc : c = 1
    · right
      subst hcc
      rw [Nat.mul_one] at hc
      refine ⟨hc.symm, ?_⟩
      have hp0 : ((p : Int), (0 : Int)) ≠ (0, 0) := fun z => by
        have := congrArg Prod.fst z
        simp only at this
        omega
      obtain ⟨u, hu, eu⟩ := alike_of_nm hk hp0 h2 (by rw [nm_int, Int.natAbs_mul]; simp only [Int.natAbs_natCast]; exact hc.symm)
      refine goes_trans ?_ h1
      rw [eu]
      exact (alike_of_unit hu).2
    · exact .inl (hp.sq_factor hc.symm hg hcc).1
/-- bounds of a power by its fifth -/
theorem pow_few {s N : Nat} (h : 4 ^ s ≤ 3 ^ s * N) : 4 ^ s ≤ N ^ 5 := by
  have h1 := Nat.pow_le_pow_left h 5
  rw [Nat.mul_pow, ← Nat.pow_mul, ← Nat.pow_mul] at h1
  have h2 : (4 * 3 ^ 5) ^ s ≤ (4 ^ 5) ^ s := Nat.pow_le_pow_left (by decide) s
  rw [Nat.mul_pow, ← Nat.pow_mul, ← Nat.pow_mul, Nat.mul_comm 5 s] at h2
  have h3 := Nat.le_trans h2 h1
  rw [Nat.mul_comm (4 ^ s)] at h3
  exact Nat.le_of_mul_le_mul_left h3 (Nat.pow_pos (by decide))
theorem sq_le_sq {a b : Nat} (h : a * a ≤ b * b) : a ≤ b := by
  refine Nat.le_of_not_lt fun z => ?_
  have := Nat.mul_lt_mul'' z z
  omega
theorem pow_few2 {s p N : Nat} (h : 4 ^ s ≤ 3 ^ s * N) (hN : N ≤ 4 * (p * p)) : 2 ^ s ≤ 32 * p ^ 5 := by
  have h1 := Nat.le_trans (pow_few h) (Nat.pow_le_pow_left hN 5)
  refine sq_le_sq ?_
  rw [← Nat.mul_pow]
  refine Nat.le_trans h1 (Nat.le_of_eq ?_)
  rw [Nat.mul_pow, Nat.mul_pow, show (4 : Nat) ^ 5 = 32 * 32 by decide]
  generalize p ^ 5 = q
  rw [Nat.mul_assoc, Nat.mul_assoc, Nat.mul_left_comm q 32 q]
end TF

set_option Elab.async false
set_option linter.all false
set_option maxRecDepth 100000
namespace L2
open PySem PySem.Spec PyProof.Rows

/-! ### lists of pairs as tables -/
section
variable {κ : Type} [DecidableEq κ]
def valV (kvs : List (κ × V)) (k : κ) : Option V := (kvs.find? fun kv => decide (kv.1 = k)).map (·.2)
/-- in its place, or at the end -/
def putK (kvs : List (κ × V)) (k : κ) (v : V) : List (κ × V) :=
  if (kvs.any fun kv => decide (kv.1 = k)) = true then kvs.map (fun kv => if kv.1 = k then (kv.1, v) else kv) else kvs ++ [(k, v)]
def dropK (kvs : List (κ × V)) (k : κ) : List (κ × V) := kvs.filter fun kv => decide (kv.1 ≠ k)

theorem valV_nil {k : κ} : valV ([] : List (κ × V)) k = none := rfl
theorem valV_pos {p : κ × V} {r : List (κ × V)} {k : κ} (e : p.1 = k) : valV (p :: r) k = some p.2 := by simp [valV, List.find?_cons, e]
theorem valV_neg {p : κ × V} {r : List (κ × V)} {k : κ} (e : ¬ p.1 = k) : valV (p :: r) k = valV r k := by simp [valV, List.find?_cons, e]
theorem valV_any (k : κ) : ∀ kvs : List (κ × V), (kvs.any fun kv => decide (kv.1 = k)) = (valV kvs k).isSome
  | [] => rfl
  | p :: r => by
    rw [List.any_cons]
    by_cases e : p.1 = k
    · simp only [valV_pos e, decide_eq_true e, Bool.true_or, Option.isSome_some]
    · rw [valV_neg e, decide_eq_false e, Bool.false_or]; exact valV_any k r
theorem valV_map (k j : κ) (y : V) : ∀ kvs : List (κ × V), valV (kvs.map fun kv => if kv.1 = k then (kv.1, y) else kv) j = (valV kvs j).map fun x => if j = k then y else x
  | [] => rfl
  | p :: r => by
    have ih := valV_map k j y r
    rw [List.map_cons]
    by_cases h : p.1 = k
    · rw [if_pos h]
      by_cases e : p.1 = j
      · rw [valV_pos (p := (p.1, y)) e, valV_pos e, Option.map_some, if_pos (e.symm.trans h)]
      · rw [valV_neg (p := (p.1, y)) e, valV_neg e, ih]
    · rw [if_neg h]
      by_cases e : p.1 = j
      · rw [valV_pos (p := p) e, valV_pos e, Option.map_some, if_neg (fun z => h (e.trans z))]
      · rw [valV_neg (p := p) e, valV_neg e, ih]
theorem valV_snoc (k j : κ) (y : V) : ∀ kvs : List (κ × V), valV kvs k = none → valV (kvs ++ [(k, y)]) j = if j = k then some y else valV kvs j
  | [], _ => by
    by_cases e : k = j
    · rw [if_pos e.symm]; exact valV_pos (p := (k, y)) e
    · rw [if_neg (fun z => e z.symm)]; exact valV_neg (p := (k, y)) e
  | p :: r, hn => by
    rw [List.cons_append]
    have hk : ¬ p.1 = k := fun z => by rw [valV_pos z] at hn; cases hn
    rw [valV_neg hk] at hn
    have ih := valV_snoc k j y r hn
    by_cases e : p.1 = j
    · rw [valV_pos e, valV_pos e, if_neg (fun z => hk (e.trans z))]
    · rw [valV_neg e, valV_neg e, ih]
theorem valV_put (kvs : List (κ × V)) (k j : κ) (y : V) : valV (putK kvs k y) j = if j = k then some y else valV kvs j := by
  unfold putK
  by_cases a : (kvs.any fun kv => decide (kv.1 = k)) = true
  · rw [if_pos a, valV_map]
    rw [valV_any] at a
    by_cases e : j = k
    · obtain ⟨x, hx⟩ := Option.isSome_iff_exists.mp a
      rw [if_pos e, e, hx, Option.map_some, if_pos rfl]
    · rw [if_neg e]
      cases valV kvs j with
      | none => rfl
      | some x => rw [Option.map_some, if_neg e]
  · rw [if_neg a]
    refine valV_snoc k j y kvs ?_
    rw [valV_any] at a
    cases q : valV kvs k with
    | none => rfl
    | some x => rw [q] at a; exact (a rfl).elim
theorem length_putK (kvs : List (κ × V)) (k : κ) (v : V) : (putK kvs k v).length ≤ kvs.length + 1 := by
  unfold putK
  split
  · rw [List.length_map]; omega
  · rw [List.length_append, List.length_cons, List.length_nil]; omega
theorem putK_new {kvs : List (κ × V)} {k : κ} (v : V) (h : valV kvs k = none) : putK kvs k v = kvs ++ [(k, v)] := by
  unfold putK
  rw [valV_any, h]
  exact if_neg (by decide)

theorem RelO.isSome_eq {o : Option V} {u : Option Value} (r : RelO o u) : o.isSome = u.isSome := by
  cases o with
  | none => cases u with
    | none => rfl
    | some _ => exact (show False from r).elim
  | some _ => cases u with
    | none => exact (show False from r).elim
    | some _ => rfl
theorem RelO.getD {o : Option V} {u : Option Value} {d : V} {d' : Value} (r : RelO o u) (rd : RelV d d') : RelV (o.getD d) (u.getD d') := by
  cases o with
  | none => cases u with
    | none => exact rd
    | some _ => exact (show False from r).elim
  | some _ => cases u with
    | none => exact (show False from r).elim
    | some _ => exact r

/-- raw tables of the same keys -/
theorem KV.val {kvs : List (κ × V)} {vs : List (κ × Value)} (r : KV kvs vs) (k : κ) : RelO (valV kvs k) (valueAt vs k) := by
  unfold KV at r
  induction r with
  | nil => exact True.intro
  | @cons p q ps qs h t ih =>
    obtain ⟨h1, h2⟩ := h
    by_cases e : p.1 = k
    · have e' : q.1 = k := h1.symm.trans e
      have b : valueAt (q :: qs) k = some q.2 := by simp [valueAt, List.find?_cons, e']
      rw [valV_pos e, b]; exact h2
    · have e' : ¬ q.1 = k := fun z => e (h1.trans z)
      have b : valueAt (q :: qs) k = valueAt qs k := by simp [valueAt, List.find?_cons, e']
      rw [valV_neg e, b]; exact ih
theorem KV.any {kvs : List (κ × V)} {vs : List (κ × Value)} (r : KV kvs vs) (k : κ) : (kvs.any fun kv => decide (kv.1 = k)) = vs.any fun kv => decide (kv.1 = k) := by
  unfold KV at r
  induction r with
  | nil => rfl
  | cons h t ih => rw [List.any_cons, List.any_cons, ih, h.1]
theorem KV.repl {kvs : List (κ × V)} {vs : List (κ × Value)} (r : KV kvs vs) (k : κ) {y : V} {u : Value} (ry : RelV y u) :
    KV (kvs.map fun kv => if kv.1 = k then (kv.1, y) else kv) (vs.map fun kv => if kv.1 = k then (kv.1, u) else kv) := by
  unfold KV at r ⊢
  induction r with
  | nil => exact .nil
  | @cons p q ps qs h t ih =>
    rw [List.map_cons, List.map_cons]
    refine .cons ?_ ih
    obtain ⟨h1, h2⟩ := h
    by_cases e : p.1 = k
    · rw [if_pos e, if_pos (h1.symm.trans e)]; exact ⟨h1, ry⟩
    · rw [if_neg e, if_neg (fun z => e (h1.trans z))]; exact ⟨h1, h2⟩
theorem KV.put {kvs : List (κ × V)} {vs : List (κ × Value)} (r : KV kvs vs) (k : κ) {y : V} {u : Value} (ry : RelV y u) : KV (putK kvs k y) (stored vs k u) := by
  unfold putK stored
  rw [r.any k]
  by_cases e : (vs.any fun kv => decide (kv.1 = k)) = true
  · rw [if_pos e, if_pos e]; exact r.repl k ry
  · rw [if_neg e, if_neg e]; exact Paired.snoc r ⟨rfl, ry⟩
theorem KV.drop {kvs : List (κ × V)} {vs : List (κ × Value)} (r : KV kvs vs) (k : κ) : KV (dropK kvs k) (without vs k) := by
  unfold KV at r ⊢
  unfold dropK without
  induction r with
  | nil => exact .nil
  | @cons p q ps qs h t ih =>
    obtain ⟨h1, h2⟩ := h
    rw [List.filter_cons, List.filter_cons]
    by_cases e : p.1 = k
    · have a : ¬ decide (p.1 ≠ k) = true := by simp [e]
      have b : ¬ decide (q.1 ≠ k) = true := by simp [h1.symm.trans e]
      rw [if_neg a, if_neg b]; exact ih
    · have e' : ¬ q.1 = k := fun z => e (h1.trans z)
      have a : decide (p.1 ≠ k) = true := by simp [e]
      have b : decide (q.1 ≠ k) = true := by simp [e']
      rw [if_pos a, if_pos b]; exact .cons ⟨h1, h2⟩ ih
theorem KV.keys {kvs : List (κ × V)} {vs : List (κ × Value)} (r : KV kvs vs) : kvs.map (·.1) = vs.map (·.1) := by
  unfold KV at r
  induction r with
  | nil => rfl
  | cons h t ih => rw [List.map_cons, List.map_cons, ih, h.1]
theorem KV.length {kvs : List (κ × V)} {vs : List (κ × Value)} (r : KV kvs vs) : kvs.length = vs.length := Paired.length r
theorem dropK_le (kvs : List (κ × V)) (k : κ) : (dropK kvs k).length ≤ kvs.length := List.length_filter_le _ _
end


/-! ### a tracked dict, its keys ints and texts or tuples of these -/
theorem kV_is {P : Program} {w : World} {k : Key} {u : Value} (r : RelV (kV k) u) : (mixKind P w).is k u = true := by
  cases k with
  | inl i => obtain ⟨t, e⟩ := (show ∃ t, u = Value.int i t from r); subst e; exact mixKind_int P w i t
  | inr x => obtain ⟨t, e⟩ := (show ∃ t, u = Value.str x t from r); subst e; exact mixKind_str P w x t
theorem kV_inj {a b : Key} (e : kV a = kV b) : a = b := by
  cases a with
  | inl i => cases b with
    | inl j => have e' : V.int i = V.int j := e; injection e' with e'; rw [e']
    | inr y => exact nomatch (show V.int i = V.str y from e)
  | inr x => cases b with
    | inl j => exact nomatch (show V.str x = V.int j from e)
    | inr y => have e' : V.str x = V.str y := e; injection e' with e'; rw [e']
theorem kVs_inj : ∀ {a b : List Key}, a.map kV = b.map kV → a = b
  | [], [], _ => rfl
  | [], _ :: _, e => by simp at e
  | _ :: _, [], e => by simp at e
  | x :: xs, y :: ys, e => by
    rw [List.map_cons, List.map_cons] at e
    injection e with e1 e2
    rw [kV_inj e1, kVs_inj e2]
theorem items_are {P : Program} {w : World} : ∀ {ks : List Key} {us : List Value}, Vals (ks.map kV) us → ItemsAre (mixKind P w) ks us
  | [], _, r => by rw [List.map_nil] at r; cases r; exact .nil
  | k :: ks, _, r => by
    rw [List.map_cons] at r
    cases r with
    | cons h t => exact .cons (kV_is h) (items_are t)

/-- raw entries of a dict with tuple keys -/
abbrev KT (H : Hp) : List (List Key × V) → List (List Key × Addr × Value) → Prop := Paired fun p q => p.1 = q.1 ∧ H q.2.1 = some (.tup (p.1.map kV)) ∧ RelV p.2 q.2.2
theorem KT.val {H : Hp} {kvs : List (List Key × V)} {xs : List (List Key × Addr × Value)} (r : KT H kvs xs) (k : List Key) : RelO (valV kvs k) ((atKey xs k).map (·.2)) := by
  induction r with
  | nil => exact True.intro
  | @cons p q ps qs h t ih =>
    obtain ⟨h1, _, h2⟩ := h
    by_cases e : p.1 = k
    · have e' : q.1 = k := h1.symm.trans e
      have b : atKey (q :: qs) k = some q.2 := by simp [atKey, List.find?_cons, e']
      rw [valV_pos e, b]; exact h2
    · have e' : ¬ q.1 = k := fun z => e (h1.trans z)
      have b : atKey (q :: qs) k = atKey qs k := by simp [atKey, List.find?_cons, e']
      rw [valV_neg e, b]; exact ih
theorem KT.repl {H : Hp} {kvs : List (List Key × V)} {xs : List (List Key × Addr × Value)} (r : KT H kvs xs) (k : List Key) {y : V} {u : Value} (ry : RelV y u) :
    KT H (kvs.map fun kv => if kv.1 = k then (kv.1, y) else kv) (xs.map (putAt k u)) := by
  induction r with
  | nil => exact .nil
  | @cons p q ps qs h t ih =>
    rw [List.map_cons, List.map_cons]
    refine .cons ?_ ih
    obtain ⟨h1, h2, h3⟩ := h
    unfold putAt
    by_cases e : p.1 = k
    · rw [if_pos e, if_pos (h1.symm.trans e)]; exact ⟨h1, h2, ry⟩
    · rw [if_neg e, if_neg (fun z => e (h1.trans z))]; exact ⟨h1, h2, h3⟩
theorem KT.put {H : Hp} {kvs : List (List Key × V)} {xs : List (List Key × Addr × Value)} (r : KT H kvs xs) (k : List Key) {b : Addr} {y : V} {u : Value} (hb : H b = some (.tup (k.map kV))) (ry : RelV y u) :
    KT H (putK kvs k y) (storedH xs k b u) := by
  have e : (kvs.any fun kv => decide (kv.1 = k)) = (atKey xs k).isSome := by
    rw [valV_any, (r.val k).isSome_eq, Option.isSome_map]
  unfold putK storedH
  rw [e]
  by_cases q : (atKey xs k).isSome = true
  · rw [if_pos q, if_pos q]; exact r.repl k ry
  · rw [if_neg q, if_neg q]; exact Paired.snoc r ⟨rfl, hb, ry⟩
theorem KT.keeps {H H' : Hp} {kvs : List (List Key × V)} {xs : List (List Key × Addr × Value)} (r : KT H kvs xs) (ht : ∀ b ys, H b = some (.tup ys) → H' b = some (.tup ys)) : KT H' kvs xs :=
  Paired.mapP r fun _ _ z => ⟨z.1, ht _ _ z.2.1, z.2.2⟩

section
variable {P : Program} {w : World} {H : Hp} {h : Heap} {a : Addr}
theorem rd_of {u : HO} (ok : HOk P w H h) (e : Rd H a u) : ObjOk P w H h a u := e.ok ok
theorem dk_rd {kvs : List (Key × V)} (ok : HOk P w H h) (e : Rd H a (.dK kvs)) : kvs.length ≤ sizeLine ∧ (a == sysModules) = false ∧ ∃ vs, KV kvs vs ∧ h.DictOf (mixKind P w) a vs :=
  show ObjOk P w H h a (.dK kvs) from rd_of ok e
theorem dk_of {kvs : List (Key × V)} (ok : HOk P w H h) (e : H a = some (.dK kvs)) : kvs.length ≤ sizeLine ∧ (a == sysModules) = false ∧ ∃ vs, KV kvs vs ∧ h.DictOf (mixKind P w) a vs := dk_rd ok (.inl e)
/-- a tracked tuple of ints and texts is a key -/
theorem key_of {ks : List Key} (ok : HOk P w H h) (e : H a = some (.tup (ks.map kV))) : (tupleKind (mixKind P w)).is h ks a := by
  obtain ⟨_, its, r, o, h1, h2, n, h3⟩ := (show ObjOk P w H h a (.tup (ks.map kV)) from ok a _ e)
  exact ⟨o, its.toArray, n, h1, h2, h3, by simpa using items_are r⟩
theorem dt_rd {kvs : List (List Key × V)} (ok : HOk P w H h) (e : Rd H a (.dT kvs)) : kvs.length ≤ sizeLine ∧ (a == sysModules) = false ∧
    ∃ xs, KT H kvs xs ∧ h.DictOfH (tupleKind (mixKind P w)) a xs := by
  obtain ⟨z, y, xs, r, o, es, ep, h1, h2, h3, h4, h5⟩ := (show ObjOk P w H h a (.dT kvs) from rd_of ok e)
  refine ⟨z, y, xs, r, o, es, ep, h1, h2, h3, h4, fun x hx => ?_, h5⟩
  have all : ∀ {l : List (List Key × V)} {m : List (List Key × Addr × Value)}, KT H l m → ∀ x ∈ m, (tupleKind (mixKind P w)).is h x.1 x.2.1 := by
    intro l m q
    induction q with
    | nil => intro x hx; exact nomatch hx
    | @cons p q ps qs hq t ih =>
      intro x hx
      rcases List.mem_cons.mp hx with e | hx
      · subst e
        exact key_of ok (by rw [← hq.1]; exact hq.2.1)
      · exact ih x hx
  exact all r x hx
theorem dt_of {kvs : List (List Key × V)} (ok : HOk P w H h) (e : H a = some (.dT kvs)) : kvs.length ≤ sizeLine ∧ (a == sysModules) = false ∧
    ∃ xs, KT H kvs xs ∧ h.DictOfH (tupleKind (mixKind P w)) a xs := dt_rd ok (.inl e)
end

/-- what the dict at a holds at the key y -/
def DGet (H : Hp) (a : Addr) (y : V) (r : Option V) : Prop :=
  (∃ kvs k, Rd H a (.dK kvs) ∧ y = kV k ∧ r = valV kvs k) ∨ ∃ kvs k b, Rd H a (.dT kvs) ∧ y = .ref b ∧ H b = some (.tup (k.map kV)) ∧ r = valV kvs k
/-- the heap behind a[y] = v -/
def DPut (H : Hp) (a : Addr) (y v : V) (H' : Hp) : Prop :=
  (∃ kvs k, H a = some (.dK kvs) ∧ y = kV k ∧ kvs.length < sizeLine ∧ H' = upd H a (.dK (putK kvs k v))) ∨
  ∃ kvs k b, H a = some (.dT kvs) ∧ y = .ref b ∧ H b = some (.tup (k.map kV)) ∧ kvs.length < sizeLine ∧ H' = upd H a (.dT (putK kvs k v))
theorem DGet.k {H : Hp} {a : Addr} {kvs : List (Key × V)} {k : Key} (e : H a = some (.dK kvs)) : DGet H a (kV k) (valV kvs k) := .inl ⟨kvs, k, .inl e, rfl, rfl⟩
theorem DGet.t {H : Hp} {a b : Addr} {kvs : List (List Key × V)} {k : List Key} (e : H a = some (.dT kvs)) (eb : H b = some (.tup (k.map kV))) : DGet H a (.ref b) (valV kvs k) := .inr ⟨kvs, k, b, .inl e, rfl, eb, rfl⟩
theorem DPut.k {H : Hp} {a : Addr} {kvs : List (Key × V)} {k : Key} {v : V} (e : H a = some (.dK kvs)) (hl : kvs.length < sizeLine) : DPut H a (kV k) v (upd H a (.dK (putK kvs k v))) := .inl ⟨kvs, k, e, rfl, hl, rfl⟩
theorem DPut.t {H : Hp} {a b : Addr} {kvs : List (List Key × V)} {k : List Key} {v : V} (e : H a = some (.dT kvs)) (eb : H b = some (.tup (k.map kV))) (hl : kvs.length < sizeLine) :
    DPut H a (.ref b) v (upd H a (.dT (putK kvs k v))) := .inr ⟨kvs, k, b, e, rfl, eb, hl, rfl⟩


section
variable {X : Cx} {pins : List (Addr × Obj)} {σ : St} {H : Hp} {s : Shared} {a : Addr} {y v : V} {u r : Value} {o : Option V} {A : Around} {E : Value → Shared → Prop}

theorem Inv.big (I : Inv X pins σ H s) : sysModules < s.heap.objs.size := by
  have h : mainGlobals < s.heap.objs.size := (I.mod.glob.keeps I.bk).lt
  exact Nat.lt_trans (by decide) h

/-- d[y], there -/
theorem d_getItem {Q : Value → Shared → Prop} (hu : A.units + 1 < cLine) (I : Inv X pins σ H s) (g : DGet H a y (some v)) (ry : RelV y u) (h : ∀ w' s', Inv X pins σ H s' → RelV v w' → Q w' s') :
    wpAny (model X.prog X.w) A (getItem (.ref a) u) Q E s := by
  rcases g with ⟨kvs, k, e, ey, l⟩ | ⟨kvs, k, b, e, ey, eb, l⟩
  · subst ey
    obtain ⟨z, hd, vs, rel, dd⟩ := dk_rd I.hok e
    obtain ⟨w', hw, rw'⟩ := RelO.some_of (v := v) (o := valueAt vs k) (by rw [l]; exact rel.val k)
    exact wpAny_getItem_of (kV_is ry) dd.mapOf hw (h w' _ (I.tok _) rw')
  · subst ey
    cases (show u = Value.ref b from ry)
    obtain ⟨z, hd, xs, rel, dd⟩ := dt_rd I.hok e
    obtain ⟨w', hw, rw'⟩ := RelO.some_of (v := v) (o := (atKey xs k).map (·.2)) (by rw [l]; exact rel.val k)
    obtain ⟨p, hp, hp2⟩ := Option.map_eq_some_iff.mp hw
    refine wpAny_getItem_heap (tupleKind_room_in1 hu) (key_of I.hok eb) dd hp ?_
    rw [hp2]
    exact h w' _ (I.tok _) rw'
/-- y in d -/
theorem d_in {Q : Value → Shared → Prop} (hu : A.units + 1 < cLine) (I : Inv X pins σ H s) (g : DGet H a y o) (ry : RelV y u) (h : ∀ s', Inv X pins σ H s' → Q (.bool o.isSome) s') :
    wpAny (model X.prog X.w) A (compareOp .In u (.ref a)) Q E s := by
  rcases g with ⟨kvs, k, e, ey, l⟩ | ⟨kvs, k, b, e, ey, eb, l⟩
  · subst ey
    obtain ⟨z, hd, vs, rel, dd⟩ := dk_rd I.hok e
    refine wpAny_in_of (kV_is ry) hd dd.mapOf ?_
    rw [← (rel.val k).isSome_eq, ← l]
    exact h _ (I.tok _)
  · subst ey
    cases (show u = Value.ref b from ry)
    obtain ⟨z, hd, xs, rel, dd⟩ := dt_rd I.hok e
    refine wpAny_in_heap (tupleKind_room_in1 hu) (key_of I.hok eb) hd dd ?_
    have q := (rel.val k).isSome_eq
    rw [Option.isSome_map] at q
    rw [← q, ← l]
    exact h _ (I.tok _)
theorem d_notIn {Q : Value → Shared → Prop} (hu : A.units + 1 < cLine) (I : Inv X pins σ H s) (g : DGet H a y o) (ry : RelV y u) (h : ∀ s', Inv X pins σ H s' → Q (.bool (!o.isSome)) s') :
    wpAny (model X.prog X.w) A (compareOp .NotIn u (.ref a)) Q E s := by
  rcases g with ⟨kvs, k, e, ey, l⟩ | ⟨kvs, k, b, e, ey, eb, l⟩
  · subst ey
    obtain ⟨z, hd, vs, rel, dd⟩ := dk_rd I.hok e
    refine wpAny_notIn_of (kV_is ry) hd dd.mapOf ?_
    rw [← (rel.val k).isSome_eq, ← l]
    exact h _ (I.tok _)
  · subst ey
    cases (show u = Value.ref b from ry)
    obtain ⟨z, hd, xs, rel, dd⟩ := dt_rd I.hok e
    refine wpAny_notIn_heap (tupleKind_room_in1 hu) (key_of I.hok eb) hd dd ?_
    have q := (rel.val k).isSome_eq
    rw [Option.isSome_map] at q
    rw [← q, ← l]
    exact h _ (I.tok _)
/-- a dict's object is replaced -/
theorem d_write {h' : Heap} {t' : Nat} {ob : HO} (I : Inv X pins σ H s) (mu : Mut (H a)) (hs : Heap.SameBut a s.heap h') (he : ∃ q, h'.get? a = some q) (new : ObjOk X.prog X.w (upd H a ob) h' a ob) :
    Inv X pins σ (upd H a ob) { s with heap := h', toks := t' } :=
  I.write (x := a) (e := a) mu (.inl rfl) (fun b q hb z => (hs.2 b hb).trans z) he new
theorem dk_new {P : Program} {w : World} {H' : Hp} {h' : Heap} {kvs : List (Key × V)} {vs : List (Key × Value)} (z : kvs.length ≤ sizeLine) (hd : (a == sysModules) = false) (rel : KV kvs vs) (dd : h'.DictOf (mixKind P w) a vs) :
    ObjOk P w H' h' a (.dK kvs) := ⟨z, hd, vs, rel, dd⟩
/-- d[y] = v -/
theorem d_setItem {H' : Hp} {Q : Unit → Shared → Prop} (hu : A.units + 1 < cLine) (I : Inv X pins σ H s) (g : DPut H a y v H') (ry : RelV y u) (rv : RelV v r) (h : ∀ s', Inv X pins σ H' s' → Q () s') :
    wpAny (model X.prog X.w) A (setItem (.ref a) u r) Q E s := by
  rcases g with ⟨kvs, k, e, ey, l, eH⟩ | ⟨kvs, k, b, e, ey, eb, l, eH⟩
  · subst ey eH
    obtain ⟨z, hd, vs, rel, dd⟩ := dk_of I.hok e
    have hz : vs.length ≤ sizeLine := by rw [← rel.length]; exact z
    have hl : (putK kvs k v).length ≤ sizeLine := by have := length_putK kvs k v; omega
    refine wpAny_setItem_pairs (hsz := hz) (kV_is ry) dd fun h' dd' hs => h _ ?_
    have he : ∃ q, h'.get? a = some q := let ⟨q, _, _, hq, _⟩ := dd'; ⟨q, hq⟩
    exact d_write I (by rw [e]; exact True.intro) hs he (dk_new hl hd (rel.put k rv) dd')
  · subst ey eH
    cases (show u = Value.ref b from ry)
    obtain ⟨z, hd, xs, rel, dd⟩ := dt_of I.hok e
    have hz : xs.length ≤ sizeLine := by rw [← Paired.length rel]; exact z
    have hl : (putK kvs k v).length ≤ sizeLine := by have := length_putK kvs k v; omega
    refine wpAny_setItem_heap (hsz := hz) (tupleKind_room_in1 hu) (key_of I.hok eb) dd fun h' dd' hs => h _ ?_
    obtain ⟨q, es, ep, hq, h2, h3, h4, _, h5⟩ := dd'
    refine d_write I (by rw [e]; exact True.intro) hs ⟨q, hq⟩ ⟨hl, hd, _, (rel.put k eb rv).keeps fun c ys ec => ?_, q, es, ep, hq, h2, h3, h4, h5⟩
    rw [upd_ne (ne_of ec e (fun z => nomatch z))]
    exact ec
end

section
variable {X : Cx} {pins : List (Addr × Obj)} {σ : St} {H : Hp} {s : Shared} {a : Addr} {kvs : List (Key × V)} {k : Key} {u : Value} {A : Around} {E : Value → Shared → Prop}
/-- del d[k] -/
theorem d_delItem {Q : Unit → Shared → Prop} (I : Inv X pins σ H s) (e : H a = some (.dK kvs)) (ry : RelV (kV k) u) (l : (valV kvs k).isSome = true) (h : ∀ s', Inv X pins σ (upd H a (.dK (dropK kvs k))) s' → Q () s') :
    wpAny (model X.prog X.w) A (delItem (.ref a) u) Q E s := by
  obtain ⟨z, hd, vs, rel, dd⟩ := dk_of I.hok e
  refine wpAny_delItem_slot dd.typeIs (by decide) PySem.F.slot_dict_delitem
    (call_meetsIn PySem.F.slot_dict_delitem dd.typeIs PySem.F.entry_dict_delitem (PySem.F.args_dict_delitem_2 _ _) (meets_dict_delitem_pairs (mixKind X.prog X.w) a (kV_is ry)) ⟨vs, dd, by rw [← rel.length]; exact z, by rw [← (rel.val k).isSome_eq]; exact l, fun h' dd' hs => h _ ?_⟩)
  have he : ∃ q, h'.get? a = some q := let ⟨q, _, _, hq, _⟩ := dd'; ⟨q, hq⟩
  exact d_write I (by rw [e]; exact True.intro) hs he (dk_new (Nat.le_trans (dropK_le kvs k) z) hd (rel.drop k) dd')
/-- d.pop(k[, x]), there -/
theorem d_pop {v : V} {more : List Value} {Q : Value → Shared → Prop} (I : Inv X pins σ H s) (e : H a = some (.dK kvs)) (ry : RelV (kV k) u) (l : valV kvs k = some v) (hm : more = [] ∨ ∃ x, more = [x])
    (h : ∀ w' s', Inv X pins σ (upd H a (.dK (dropK kvs k))) s' → RelV v w' → Q w' s') : wpAny (model X.prog X.w) A (call (.builtin "dict.pop") (.ref a :: u :: more)) Q E s := by
  obtain ⟨z, hd, vs, rel, dd⟩ := dk_of I.hok e
  obtain ⟨w', hw, rw'⟩ := RelO.some_of (v := v) (o := valueAt vs k) (by rw [← l]; exact rel.val k)
  have hp : (keyPart u).isSome = true := by
    cases k with
    | inl i => obtain ⟨t, q⟩ := (show ∃ t, u = Value.int i t from ry); subst q; rfl
    | inr x => obtain ⟨t, q⟩ := (show ∃ t, u = Value.str x t from ry); subst q; rfl
  have ha : argsOk "dict.pop" ⟨.ref a :: u :: more, []⟩ := by
    rcases hm with q | ⟨x, q⟩
    · subst q; exact PySem.F.args_dict_pop_2 _ _
    · subst q; exact PySem.F.args_dict_pop_3 _ _ _
  refine call_meetsIn PySem.F.slot_dict_pop dd.typeIs PySem.F.entry_dict_pop ha (meets_dict_pop_there (mixKind X.prog X.w) a (kV_is ry) more hm hp)
    ⟨vs, w', dd, by rw [← rel.length]; exact z, hw, fun h' dd' hs => h w' _ ?_ rw'⟩
  have he : ∃ q, h'.get? a = some q := let ⟨q, _, _, hq, _⟩ := dd'; ⟨q, hq⟩
  exact d_write I (by rw [e]; exact True.intro) hs he (dk_new (Nat.le_trans (dropK_le kvs k) z) hd (rel.drop k) dd')
/-- d.pop(k, x), not there -/
theorem d_popD {r : Value} {Q : Value → Shared → Prop} (I : Inv X pins σ H s) (e : H a = some (.dK kvs)) (ry : RelV (kV k) u) (l : valV kvs k = none) (h : ∀ s', Inv X pins σ H s' → Q r s') :
    wpAny (model X.prog X.w) A (call (.builtin "dict.pop") [.ref a, u, r]) Q E s := by
  obtain ⟨z, hd, vs, rel, dd⟩ := dk_of I.hok e
  have hn : valueAt vs k = none := RelO.none_of (by rw [← l]; exact rel.val k)
  have hp : (keyPart u).isSome = true := by
    cases k with
    | inl i => obtain ⟨t, q⟩ := (show ∃ t, u = Value.int i t from ry); subst q; rfl
    | inr x => obtain ⟨t, q⟩ := (show ∃ t, u = Value.str x t from ry); subst q; rfl
  exact call_meetsIn PySem.F.slot_dict_pop dd.typeIs PySem.F.entry_dict_pop (PySem.F.args_dict_pop_3 _ _ _) (meets_dict_pop_default (mixKind X.prog X.w) a (kV_is ry) hd hp r) ⟨vs, dd, hn, h _ (I.tok _)⟩
/-- d.clear() -/
theorem d_clear {Q : Value → Shared → Prop} (I : Inv X pins σ H s) (e : H a = some (.dK kvs)) (h : ∀ s', Inv X pins σ (upd H a (.dK [])) s' → Q .none s') : wpAny (model X.prog X.w) A (call (.builtin "dict.clear") [.ref a]) Q E s := by
  obtain ⟨z, hd, vs, rel, dd⟩ := dk_of I.hok e
  refine call_meetsIn PySem.F.slot_dict_clear dd.typeIs PySem.F.entry_dict_clear (PySem.F.args_dict_clear_1 _) (meets_dict_clear (mixKind X.prog X.w) a) ⟨vs, dd, by rw [← rel.length]; exact z, fun h' dd' hs => h _ ?_⟩
  have he : ∃ q, h'.get? a = some q := let ⟨q, _, _, hq, _⟩ := dd'; ⟨q, hq⟩
  exact d_write (t' := s.toks) I (by rw [e]; exact True.intro) hs he (dk_new (Nat.zero_le _) hd .nil dd')
/-- len(d) -/
theorem d_len {Q : Value → Shared → Prop} (I : Inv X pins σ H s) (e : Rd H a (.dK kvs)) (h : ∀ t s', Inv X pins σ H s' → Q (.int kvs.length t) s') : wpAny (model X.prog X.w) A (call (.builtin "len") [.ref a]) Q E s := by
  obtain ⟨z, hd, vs, rel, dd⟩ := dk_rd I.hok e
  refine call_len_dict hd dd (by rw [← rel.length]; rw [sizeLine_eq] at z; omega) ?_
  rw [← rel.length]
  exact h _ _ (I.tok _)
/-- if d -/
theorem d_truth {Q : Bool → Shared → Prop} (I : Inv X pins σ H s) (e : Rd H a (.dK kvs)) (h : ∀ s', Inv X pins σ H s' → Q (!kvs.isEmpty) s') : wpAny (model X.prog X.w) A (truthy (.ref a)) Q E s := by
  obtain ⟨z, hd, vs, rel, dd⟩ := dk_rd I.hok e
  refine wpAny_truthy_dict hd dd (by rw [← rel.length]; rw [sizeLine_eq] at z; omega) ?_
  have q : kvs.isEmpty = vs.isEmpty := by cases rel <;> rfl
  rw [← q]
  exact h _ (I.tok _)
end


/-! ### readings and rules -/
/-- the element of a subscription, not a slice -/
def NoSl (i : Expr) : Prop := ∀ ov iv, subscripted i false ov iv = operate [ov, iv] (getItem ov iv)
theorem subD_of {prog : Program} {w : World} {A : Around} {E : Value → Shared → Prop} {s : Shared} {env : Env} {value slice : Expr} {pos : Pos} {T id : String} {Q : Value → Shared → Prop}
    (hl : typeLookup (.type T) "__getitem__" = pure (some (.builtin id))) (hs : NoSl slice)
    (h : wpAny (model prog w) A (eval value env) (fun o s₁ => wpAny (model prog w) A (eval slice env) (fun i s₂ => s₂.TypeIs o T ∧ wpAny (model prog w) A (getItem o i) Q E s₂) E s₁) E s) :
    wpAny (model prog w) A (eval (.Subscript value slice pos) env) Q E s := by
  refine Subscript_ (wpAny_mono h (fun o s₁ h₁ => wpAny_mono h₁ (fun i s₂ h₂ => ?_) fun _ _ x => x) fun _ _ x => x)
  obtain ⟨hT, h₂⟩ := h₂
  unfold subscriptTail
  refine wpAny_bind ?_
  rw [getitemInPython_of_ne hT.not_modules]
  refine wpAny_bind (wpAny_specialOf hT hl ?_)
  have fin : wpAny (model prog w) A (subscripted slice false o i) (fun r s₃ => wpAny (model prog w) A (letTemporaryGo value o r >>= fun _ => pure r) Q E s₃) E s₂ := by
    rw [hs o i]
    exact wpAny_operating (wpAny_mono h₂ (fun r s₃ h₃ => wpAny_bind (wpAny_letTemporaryGo (wpAny_pure h₃))) fun _ _ x => x)
  first
    | exact wpAny_pure (wpAny_bind fin)
    | exact wpAny_bind (wpAny_pure (wpAny_bind fin))
    | exact wpAny_bind fin

theorem dict_typeIs {X : Cx} {pins : List (Addr × Obj)} {σ : St} {H : Hp} {s : Shared} {a : Addr} {y : V} {o : Option V} (I : Inv X pins σ H s) (g : DGet H a y o) : s.TypeIs (.ref a) "dict" := by
  rcases g with ⟨kvs, k, e, _, _⟩ | ⟨kvs, k, b, e, _, _, _⟩
  · obtain ⟨_, _, vs, _, dd⟩ := dk_rd I.hok e
    exact dd.typeIs
  · obtain ⟨_, _, xs, _, dd⟩ := dt_rd I.hok e
    exact dd.typeIs
theorem dict_noDict {X : Cx} {pins : List (Addr × Obj)} {σ : St} {H : Hp} {s : Shared} {a : Addr} {y : V} {o : Option V} (I : Inv X pins σ H s) (g : DGet H a y o) :
    ∀ b, Value.ref a = .ref b → ∃ ob, s.heap.get? b = some ob ∧ ob.dict = none := fun b q => by
  cases q
  rcases g with ⟨kvs, k, e, _, _⟩ | ⟨kvs, k, b, e, _, _, _⟩
  · obtain ⟨_, _, vs, _, ob, _, _, h1, h2, _⟩ := dk_rd I.hok e
    exact ⟨ob, h1, h2.2.1⟩
  · obtain ⟨_, _, xs, _, ob, _, _, h1, h2, _⟩ := dt_rd I.hok e
    exact ⟨ob, h1, h2.2.1⟩

/-- d[y] -/
def tDGet (td ty : TE) : TE := fun σ H Q => td σ H fun x H1 => ty σ H1 fun y H2 => ∃ a v, x = .ref a ∧ DGet H2 a y (some v) ∧ Q v H2
/-- y in d, y not in d -/
def tDIn (ty td : TE) : TE := fun σ H Q => ty σ H fun y H1 => td σ H1 fun x H2 => ∃ a o, x = .ref a ∧ DGet H2 a y o ∧ Q (.bl o.isSome) H2
def tDNotIn (ty td : TE) : TE := fun σ H Q => ty σ H fun y H1 => td σ H1 fun x H2 => ∃ a o, x = .ref a ∧ DGet H2 a y o ∧ Q (.bl (!o.isSome)) H2
/-- d[y] = v -/
def sDPut (td ty tv : TE) : TS := fun D σ H => tv σ H fun v H1 => td σ H1 fun x H2 => ty σ H2 fun y H3 => ∃ a H4, x = .ref a ∧ DPut H3 a y v H4 ∧ D.nx σ H4
/-- d[y] op= v -/
def sDAug (td ty tv : TE) (rd : V → V → Hp → VK → Prop) : TS := fun D σ H => td σ H fun x H1 => ty σ H1 fun y H2 => ∃ a v, x = .ref a ∧ DGet H2 a y (some v) ∧
  tv σ H2 fun y2 H3 => rd v y2 H3 fun z H4 => ∃ H5, DPut H4 a y z H5 ∧ D.nx σ H5
/-- del d[y] -/
def sDDel (td ty : TE) : TS := fun D σ H => td σ H fun x H1 => ty σ H1 fun y H2 => ∃ a kvs k, x = .ref a ∧ H2 a = some (.dK kvs) ∧ y = kV k ∧ (valV kvs k).isSome = true ∧ D.nx σ (upd H2 a (.dK (dropK kvs k)))

section
variable {X : Cx} {o i e value : Expr} {pos pos' tpos : Pos} {td ty tv : TE}
theorem pe_dget (hu : X.A.units + 1 < cLine) (ho : PE X o td) (hi : PE X i ty) (hs : NoSl i) : PE X (.Subscript o i pos) (tDGet td ty) := by
  intro pins s σ H Q I h
  refine subD_of PySem.F.slot_dict_getitem.lookup hs (thn (ho pins s σ H _ I h) fun u s1 ⟨x, H1, I1, rx, q1⟩ => thn (hi pins s1 σ H1 _ I1 q1) fun iv s2 ⟨y, H2, I2, ry, a, v, ex, g, q2⟩ => ?_)
  subst ex
  obtain rfl : u = Value.ref a := rx
  exact ⟨dict_typeIs I2 g, d_getItem hu I2 g ry fun w' s3 I3 rw' => ⟨v, H2, I3, rw', q2⟩⟩
theorem pc_din (hu : X.A.units + 1 < cLine) (hi : PE X i ty) (ho : PE X o td) : PC X .In i o (tDIn ty td) := by
  intro pins s σ H Q I h
  refine thn (hi pins s σ H _ I h) fun iv s1 ⟨y, H1, I1, ry, q1⟩ => thn (ho pins s1 σ H1 _ I1 q1) fun u s2 ⟨x, H2, I2, rx, a, ov, ex, g, q2⟩ => ?_
  subst ex
  obtain rfl : u = Value.ref a := rx
  exact d_in hu I2 g ry fun s3 I3 => ⟨.bl ov.isSome, H2, I3, rfl, q2⟩
theorem pc_dnotin (hu : X.A.units + 1 < cLine) (hi : PE X i ty) (ho : PE X o td) : PC X .NotIn i o (tDNotIn ty td) := by
  intro pins s σ H Q I h
  refine thn (hi pins s σ H _ I h) fun iv s1 ⟨y, H1, I1, ry, q1⟩ => thn (ho pins s1 σ H1 _ I1 q1) fun u s2 ⟨x, H2, I2, rx, a, ov, ex, g, q2⟩ => ?_
  subst ex
  obtain rfl : u = Value.ref a := rx
  exact d_notIn hu I2 g ry fun s3 I3 => ⟨.bl (!ov.isSome), H2, I3, rfl, q2⟩
theorem ps_dput (hu : X.A.units + 1 < cLine) (ho : PE X o td) (hi : PE X i ty) (hv : PE X value tv) (hs : swapsWith value (some (.Subscript o i pos')) pos.line X.env = pure false) :
    PS X (.Assign [.Subscript o i pos'] value pos) (sDPut td ty tv) := by
  intro pins s σ H D I h
  refine wpAny_Assign_Subscript (thn (hv pins s σ H _ I h) fun r s1 ⟨v, H1, I1, rv, q1⟩ => thn (ho pins s1 σ H1 _ I1 q1) fun u s2 ⟨x, H2, I2, rx, q2⟩ => thn (hi pins s2 σ H2 _ I2 q2) fun iv s3 ⟨y, H3, I3, ry, a, H4, ex, g, q3⟩ => ?_) hs
  subst ex
  obtain rfl : u = Value.ref a := rx
  exact d_setItem hu I3 g ry rv fun s4 I4 => ⟨σ, H4, I4, q3⟩
theorem ps_daug {op : Operator} {rd : V → V → Hp → VK → Prop} (hu : X.A.units + 1 < cLine) (ho : PE X o td) (hi : PE X i ty) (hv : PE X value tv) (hop : InOp X op rd)
    (ha : ∀ ov iv new, augStore i ov iv new = (do holding [new, ov, iv] (setItem ov iv new); release [new, ov, iv] []; pure .next)) : PS X (.AugAssign (.Subscript o i tpos) op value pos) (sDAug td ty tv rd) := by
  intro pins s σ H D I h
  refine wpAny_AugAssign_SubscriptAny (thn (ho pins s σ H _ I h) fun u s1 ⟨x, H1, I1, rx, q1⟩ => thn (hi pins s1 σ H1 _ I1 q1) fun iv s2 ⟨y, H2, I2, ry, a, v, ex, g, q2⟩ => ?_) ha
  subst ex
  obtain rfl : u = Value.ref a := rx
  refine d_getItem hu I2 g ry fun w' s3 I3 rw' => thn (hv pins s3 σ H2 _ I3 q2) fun w2 s4 ⟨y2, H3, I4, ry2, q3⟩ => thn (hop pins s4 σ H3 v y2 w' w2 _ I4 rw' ry2 q3) fun w3 s5 ⟨z, H4, I5, rz, H5, g5, q4⟩ => ?_
  exact d_setItem hu I5 g5 ry rz fun s6 I6 => ⟨σ, H5, I6, q4⟩
theorem ps_ddel (ho : PE X o td) (hi : PE X i ty) : PS X (.Delete [.Subscript o i tpos] pos) (sDDel td ty) := by
  intro pins s σ H D I h
  refine wpAny_Delete (wpAny_deleteEach_cons (wpAny_delete_Subscript (thn (ho pins s σ H _ I h) fun u s1 ⟨x, H1, I1, rx, q1⟩ => thn (hi pins s1 σ H1 _ I1 q1) fun iv s2 ⟨y, H2, I2, ry, a, kvs, k, ex, e, ey, l, q2⟩ => ?_)))
  subst ex ey
  obtain rfl : u = Value.ref a := rx
  exact d_delItem I2 e ry l fun s3 I3 => wpAny_deleteEach_nil ⟨σ, _, I3, q2⟩
end


/-! ### displays -/
theorem dk_empty {P : Program} {w : World} {H : Hp} (h : Heap) (hb : sysModules < h.objs.size) : ObjOk P w H (h.push { cls := .type "dict", data := .dict #[] }) h.objs.size (.dK []) :=
  ⟨Nat.zero_le _, beq_eq_false_iff_ne.mpr (Ne.symm (Nat.ne_of_lt hb)), [], .nil, Heap.DictOf.new h⟩
theorem dt_empty {P : Program} {w : World} {H : Hp} (h : Heap) (hb : sysModules < h.objs.size) : ObjOk P w H (h.push { cls := .type "dict", data := .dict #[] }) h.objs.size (.dT []) :=
  ⟨Nat.zero_le _, beq_eq_false_iff_ne.mpr (Ne.symm (Nat.ne_of_lt hb)), [], .nil, _, #[], 0, Heap.get?_push_size _ rfl, ⟨rfl, rfl, rfl⟩, rfl, rfl, List.nodup_nil⟩
/-- {}, to be a dict of the kind that is wanted -/
def tDNewK : TE := fun _ H Q => ∀ p, H p = none → Q (.ref p) (upd H p (.dK []))
def tDNewT : TE := fun _ H Q => ∀ p, H p = none → Q (.ref p) (upd H p (.dT []))
section
variable {X : Cx} {pos : Pos}
theorem pe_dnewK : PE X (.Dict [] [] pos) tDNewK := fun pins s σ H Q I h =>
  wpAny_Dict_empty ⟨.ref s.heap.objs.size, _, I.laid (a := s.heap.objs.size) (o := .dK []) (t' := s.toks) (fun _ _ q => Heap.get?_push_of_some _ q) (Nat.le_refl _) (dk_empty s.heap I.big), rfl, h _ (I.hok.fresh (Nat.le_refl _))⟩
theorem pe_dnewT : PE X (.Dict [] [] pos) tDNewT := fun pins s σ H Q I h =>
  wpAny_Dict_empty ⟨.ref s.heap.objs.size, _, I.laid (a := s.heap.objs.size) (o := .dT []) (t' := s.toks) (fun _ _ q => Heap.get?_push_of_some _ q) (Nat.le_refl _) (dt_empty s.heap I.big), rfl, h _ (I.hok.fresh (Nat.le_refl _))⟩
end

/-- the pairs of a display, from the left -/
def tPairs : List (TE × TE) → St → Hp → (List (V × V) → Hp → Prop) → Prop
  | [], _, H, Q => Q [] H
  | (tk, tv) :: r, σ, H, Q => tk σ H fun x H1 => tv σ H1 fun y H2 => tPairs r σ H2 fun ps H3 => Q ((x, y) :: ps) H3
abbrev VV : List (V × V) → List (Value × Value) → Prop := Paired fun p q => RelV p.1 q.1 ∧ RelV p.2 q.2
def PPs (X : Cx) (pos : Pos) (keys : List (Option Expr)) (values : List Expr) (trs : List (TE × TE)) : Prop :=
  ∀ (pins : List (Addr × Obj)) (s : Shared) (σ : St) (H : Hp) (Q : List (V × V) → Hp → Prop), Inv X pins σ H s → tPairs trs σ H Q →
    wpAny (model X.prog X.w) X.A (evalPairs (pairTrees keys values X.env pos)) (fun vs s' => ∃ ps H', Inv X pins σ H' s' ∧ VV ps vs ∧ Q ps H') X.xe s
theorem pps_nil {X : Cx} {pos : Pos} : PPs X pos [] [] [] := fun pins s σ H Q I h => pairTrees_nil_walk ⟨[], H, I, .nil, h⟩
theorem pps_cons {X : Cx} {pos : Pos} {k v : Expr} {ks : List (Option Expr)} {vs : List Expr} {tk tv : TE} {trs : List (TE × TE)} (hk : PE X k tk) (hv : PE X v tv) (hr : PPs X pos ks vs trs) :
    PPs X pos (some k :: ks) (v :: vs) ((tk, tv) :: trs) := fun pins s σ H Q I h =>
  pairTrees_cons_walk (thn (hk pins s σ H _ I h) fun u s1 ⟨x, H1, I1, rx, q1⟩ => thn (hv pins s1 σ H1 _ I1 q1) fun w2 s2 ⟨y, H2, I2, ry, q2⟩ =>
    thn (hr pins s2 σ H2 _ I2 q2) fun ws s3 ⟨ps, H3, I3, rel, q3⟩ => ⟨(x, y) :: ps, H3, I3, .cons ⟨rx, ry⟩ rel, q3⟩)

def mergeK (kvs more : List (Key × V)) : List (Key × V) := more.foldl (fun acc kv => putK acc kv.1 kv.2) kvs
theorem KV.merge : ∀ {more : List (Key × V)} {rs : List (Key × Value)} {kvs : List (Key × V)} {vs : List (Key × Value)}, KV more rs → KV kvs vs → KV (mergeK kvs more) (merged vs rs) := by
  intro more rs kvs vs r
  unfold KV at r
  induction r generalizing kvs vs with
  | nil => intro q; exact q
  | @cons p q ps qs h t ih =>
    intro r0
    have e : KV (putK kvs p.1 p.2) (stored vs q.1 q.2) := by
      have := r0.put p.1 h.2
      rw [← h.1]; exact this
    exact ih e
theorem length_mergeK : ∀ (more kvs : List (Key × V)), (mergeK kvs more).length ≤ kvs.length + more.length
  | [], kvs => by show kvs.length ≤ kvs.length + 0; omega
  | p :: r, kvs => by
    have h1 := length_mergeK r (putK kvs p.1 p.2)
    have h2 := length_putK kvs p.1 p.2
    show (mergeK (putK kvs p.1 p.2) r).length ≤ _
    rw [List.length_cons]; omega
theorem carries_of {P : Program} {w : World} : ∀ {kvs : List (Key × V)} {ws : List (Value × Value)}, VV (kvs.map fun kv => (kV kv.1, kv.2)) ws → ∃ rs, Carries (mixKind P w) ws rs ∧ KV kvs rs
  | [], _, r => by rw [List.map_nil] at r; cases r; exact ⟨[], True.intro, .nil⟩
  | p :: kvs, _, r => by
    rw [List.map_cons] at r
    cases r with
    | @cons a b as bs h t =>
      obtain ⟨rs, c, q⟩ := carries_of (P := P) (w := w) t
      obtain ⟨b1, b2⟩ := b
      exact ⟨(p.1, b2) :: rs, ⟨kV_is h.1, rfl, c⟩, .cons ⟨rfl, h.2⟩ q⟩
/-- {k: v, ..} with keys ints and texts; the new dict stands empty while the pairs are made -/
def tDisp (trs : List (TE × TE)) : TE := fun σ H Q => ∀ p, H p = none → tPairs trs σ (upd H p (.dK [])) fun ps H2 => H2 p = some (.dK []) ∧ ∃ kvs : List (Key × V), ps = kvs.map (fun kv => (kV kv.1, kv.2)) ∧ kvs.length ≤ 15 ∧ Q (.ref p) (upd H2 p (.dK (mergeK [] kvs)))
theorem pe_disp {X : Cx} {pos : Pos} {keys : List (Option Expr)} {values : List Expr} {trs : List (TE × TE)} (h : PPs X pos keys values trs) (hall : keys.all (·.isSome) = true) (hl : keys.length = values.length) (h0 : keys ≠ [])
    (h15 : keys.length ≤ 15) : PE X (.Dict keys values pos) (tDisp trs) := by
  intro pins s σ H Q I q
  have hn := I.hok.fresh (Nat.le_refl s.heap.objs.size)
  have I1 := I.laid (a := s.heap.objs.size) (o := .dK []) (h' := s.heap.push { cls := .type "dict", data := .dict #[] }) (t' := s.toks) (fun _ _ q => Heap.get?_push_of_some _ q) (Nat.le_refl _) (dk_empty s.heap I.big)
  refine wpAny_Dict_walk (knd := mixKind X.prog X.w) hall hl h0 h15 (thn (h pins _ σ _ _ I1 (q _ hn)) fun ws s2 ⟨ps, H2, I2, rel, e, kvs, ep, lk, q2⟩ => ?_)
  subst ep
  obtain ⟨rs, c, rk⟩ := carries_of (P := X.prog) (w := X.w) rel
  obtain ⟨z, hd, vs0, r0, dd⟩ := dk_of I2.hok e
  cases r0
  refine ⟨rs, c, dd, fun h' dd' hs => ⟨.ref s.heap.objs.size, _, ?_, rfl, q2⟩⟩
  have hz : (mergeK [] kvs).length ≤ sizeLine := by
    have h1 := length_mergeK kvs []
    rw [List.length_nil] at h1
    rw [sizeLine_eq]; omega
  have he : ∃ q, h'.get? s.heap.objs.size = some q := let ⟨q, _, _, hq, _⟩ := dd'; ⟨q, hq⟩
  exact d_write I2 (by rw [e]; exact True.intro) hs he (dk_new hz hd (rk.merge .nil) dd')


/-! ### methods -/
/-- a method call o.m(e) of a built-in, with one argument: what must be seen of the text -/
structure M1 (X : Cx) (o : Expr) (m : Str) (apos : Pos) (e : Expr) (cpos : Pos) : Prop where
  base : attributeBase o m X.env (eval o X.env) = eval o X.env
  few : ((backTo cpos (starEach [e] X.env)).all (fun x => !x.1) && (backToKw cpos (keywordEach [] X.env)).all (fun x => x.1.isSome)
    && decide (([e] : List Expr).length + ([] : List Keyword).length + (if ([] : List Keyword).isEmpty then 0 else 1) < 30)) = true
  line : (apos.endLine == cpos.line) = true
  trees : backTo cpos (starEach [e] X.env) = [(false, eval e X.env)]
structure M2 (X : Cx) (o : Expr) (m : Str) (apos : Pos) (e f : Expr) (cpos : Pos) : Prop where
  base : attributeBase o m X.env (eval o X.env) = eval o X.env
  few : ((backTo cpos (starEach [e, f] X.env)).all (fun x => !x.1) && (backToKw cpos (keywordEach [] X.env)).all (fun x => x.1.isSome)
    && decide (([e, f] : List Expr).length + ([] : List Keyword).length + (if ([] : List Keyword).isEmpty then 0 else 1) < 30)) = true
  line : (apos.endLine == cpos.line) = true
  trees : backTo cpos (starEach [e, f] X.env) = [(false, eval e X.env), (false, eval f X.env)]

/-- a is a dict, whatever its keys -/
def IsD (H : Hp) (a : Addr) : Prop := (∃ kvs, Rd H a (.dK kvs)) ∨ ∃ kvs, Rd H a (.dT kvs)
theorem isD_at {X : Cx} {pins : List (Addr × Obj)} {σ : St} {H : Hp} {s : Shared} {a : Addr} (I : Inv X pins σ H s) (d : IsD H a) :
    s.TypeIs (.ref a) "dict" ∧ (∀ b, Value.ref a = .ref b → ∃ ob, s.heap.get? b = some ob ∧ ob.dict = none) ∧ (a == sysModules) = false := by
  rcases d with ⟨kvs, e⟩ | ⟨kvs, e⟩
  · obtain ⟨_, hd, vs, _, dd⟩ := dk_rd I.hok e
    refine ⟨dd.typeIs, fun b q => ?_, hd⟩
    cases q
    obtain ⟨ob, _, _, h1, h2, _⟩ := dd
    exact ⟨ob, h1, h2.2.1⟩
  · obtain ⟨_, hd, xs, _, dd⟩ := dt_rd I.hok e
    refine ⟨dd.typeIs, fun b q => ?_, hd⟩
    cases q
    obtain ⟨ob, _, _, h1, h2, _⟩ := dd
    exact ⟨ob, h1, h2.2.1⟩

section
variable {X : Cx} {pins : List (Addr × Obj)} {σ : St} {H : Hp} {s : Shared} {a : Addr} {y d : V} {u r : Value} {o : Option V} {A : Around} {E : Value → Shared → Prop}
/-- d.get(y) -/
theorem d_get1 {Q : Value → Shared → Prop} (hu : A.units + 1 < cLine) (I : Inv X pins σ H s) (g : DGet H a y o) (ry : RelV y u) (h : ∀ w' s', Inv X pins σ H s' → RelV (o.getD .non) w' → Q w' s') :
    wpAny (model X.prog X.w) A (call (.builtin "dict.get") [.ref a, u]) Q E s := by
  rcases g with ⟨kvs, k, e, ey, l⟩ | ⟨kvs, k, b, e, ey, eb, l⟩
  · subst ey
    obtain ⟨z, hd, vs, rel, dd⟩ := dk_rd I.hok e
    refine call_meetsIn PySem.F.slot_dict_get dd.typeIs PySem.F.entry_dict_get (PySem.F.args_dict_get_2 _ _) (meets_dict_get (mixKind X.prog X.w) a (kV_is ry) hd) ⟨_, dd.mapOf, h _ _ (I.tok _) ?_⟩
    rw [l]
    exact (rel.val k).getD rfl
  · subst ey
    cases (show u = Value.ref b from ry)
    obtain ⟨z, hd, xs, rel, dd⟩ := dt_rd I.hok e
    refine call_meetsIn PySem.F.slot_dict_get dd.typeIs PySem.F.entry_dict_get (PySem.F.args_dict_get_2 _ _) (meetsH_dict_get (tupleKind (mixKind X.prog X.w)) a b hd) ⟨tupleKind_room_in1 hu, k, xs, key_of I.hok eb, dd, h _ _ (I.tok _) ?_⟩
    rw [l]
    exact (rel.val k).getD rfl
/-- d.get(y, x) -/
theorem d_get2 {Q : Value → Shared → Prop} (hu : A.units + 1 < cLine) (I : Inv X pins σ H s) (g : DGet H a y o) (ry : RelV y u) (rd : RelV d r) (h : ∀ w' s', Inv X pins σ H s' → RelV (o.getD d) w' → Q w' s') :
    wpAny (model X.prog X.w) A (call (.builtin "dict.get") [.ref a, u, r]) Q E s := by
  rcases g with ⟨kvs, k, e, ey, l⟩ | ⟨kvs, k, b, e, ey, eb, l⟩
  · subst ey
    obtain ⟨z, hd, vs, rel, dd⟩ := dk_rd I.hok e
    refine call_meetsIn PySem.F.slot_dict_get dd.typeIs PySem.F.entry_dict_get (PySem.F.args_dict_get_3 _ _ _) (meets_dict_get_default (mixKind X.prog X.w) a (kV_is ry) hd r) ⟨_, dd.mapOf, h _ _ (I.tok _) ?_⟩
    rw [l]
    exact (rel.val k).getD rd
  · subst ey
    cases (show u = Value.ref b from ry)
    obtain ⟨z, hd, xs, rel, dd⟩ := dt_rd I.hok e
    refine call_meetsIn PySem.F.slot_dict_get dd.typeIs PySem.F.entry_dict_get (PySem.F.args_dict_get_3 _ _ _) (meetsH_dict_get_default (tupleKind (mixKind X.prog X.w)) a b hd r) ⟨tupleKind_room_in1 hu, k, xs, key_of I.hok eb, dd, h _ _ (I.tok _) ?_⟩
    rw [l]
    exact (rel.val k).getD rd
end

def tDGet1 (td ty : TE) : TE := fun σ H Q => td σ H fun x H1 => ∃ a, x = .ref a ∧ IsD H1 a ∧ ty σ H1 fun y H2 => ∃ o, DGet H2 a y o ∧ Q (o.getD .non) H2
def tDGet2 (td ty tx : TE) : TE := fun σ H Q => td σ H fun x H1 => ∃ a, x = .ref a ∧ IsD H1 a ∧ ty σ H1 fun y H2 => tx σ H2 fun z H3 => ∃ o, DGet H3 a y o ∧ Q (o.getD z) H3
/-- d.pop(k): there; d.pop(k, x): there or not -/
def tDPop1 (td ty : TE) : TE := fun σ H Q => td σ H fun x H1 => ∃ a, x = .ref a ∧ IsD H1 a ∧ ty σ H1 fun y H2 => ∃ kvs k v, H2 a = some (.dK kvs) ∧ y = kV k ∧ valV kvs k = some v ∧ Q v (upd H2 a (.dK (dropK kvs k)))
def tDPop2 (td ty tx : TE) : TE := fun σ H Q => td σ H fun x H1 => ∃ a, x = .ref a ∧ IsD H1 a ∧ ty σ H1 fun y H2 => tx σ H2 fun z H3 => ∃ kvs k, H3 a = some (.dK kvs) ∧ y = kV k ∧
  (∀ v, valV kvs k = some v → Q v (upd H3 a (.dK (dropK kvs k)))) ∧ (valV kvs k = none → Q z H3)
section
variable {X : Cx} {o e f : Expr} {apos cpos : Pos} {td ty tx : TE}
theorem pe_dget1 (hu : X.A.units + 1 < cLine) (ho : PE X o td) (he : PE X e ty) (m : M1 X o "get" apos e cpos) : PE X (.Call (.Attribute o "get" apos) [e] [] cpos) (tDGet1 td ty) := by
  intro pins s σ H Q I h
  refine wpAny_Call_method m.base m.few m.line PySem.F.plainAttrs_dict PySem.F.slot_dict_get PySem.F.type_dict_get (thn (ho pins s σ H _ I h) fun u s1 ⟨x, H1, I1, rx, a, ex, d, q1⟩ => ?_)
  subst ex
  obtain rfl : u = Value.ref a := rx
  obtain ⟨t1, t2, _⟩ := isD_at I1 d
  refine ⟨t1, t2, ?_⟩
  rw [m.trees]
  refine Calls.callWith_builtin rfl (Calls.evalArgs_plain (Calls.spliced_cons (thn (he pins s1 σ H1 _ I1 q1) fun iv s2 ⟨y, H2, I2, ry, ov, g, q2⟩ => Calls.spliced_nil ?_)))
  exact d_get1 hu I2 g ry fun w' s3 I3 rw' => ⟨_, H2, I3, rw', q2⟩
theorem pe_dget2 (hu : X.A.units + 1 < cLine) (ho : PE X o td) (he : PE X e ty) (hf : PE X f tx) (m : M2 X o "get" apos e f cpos) : PE X (.Call (.Attribute o "get" apos) [e, f] [] cpos) (tDGet2 td ty tx) := by
  intro pins s σ H Q I h
  refine wpAny_Call_method m.base m.few m.line PySem.F.plainAttrs_dict PySem.F.slot_dict_get PySem.F.type_dict_get (thn (ho pins s σ H _ I h) fun u s1 ⟨x, H1, I1, rx, a, ex, d, q1⟩ => ?_)
  subst ex
  obtain rfl : u = Value.ref a := rx
  obtain ⟨t1, t2, _⟩ := isD_at I1 d
  refine ⟨t1, t2, ?_⟩
  rw [m.trees]
  refine Calls.callWith_builtin rfl (Calls.evalArgs_plain (Calls.spliced_cons (thn (he pins s1 σ H1 _ I1 q1) fun iv s2 ⟨y, H2, I2, ry, q2⟩ =>
    Calls.spliced_cons (thn (hf pins s2 σ H2 _ I2 q2) fun fv s3 ⟨z, H3, I3, rz, ov, g, q3⟩ => Calls.spliced_nil ?_))))
  exact d_get2 hu I3 g ry rz fun w' s4 I4 rw' => ⟨_, H3, I4, rw', q3⟩
theorem pe_dpop1 (ho : PE X o td) (he : PE X e ty) (m : M1 X o "pop" apos e cpos) : PE X (.Call (.Attribute o "pop" apos) [e] [] cpos) (tDPop1 td ty) := by
  intro pins s σ H Q I h
  refine wpAny_Call_method m.base m.few m.line PySem.F.plainAttrs_dict PySem.F.slot_dict_pop PySem.F.type_dict_pop (thn (ho pins s σ H _ I h) fun u s1 ⟨x, H1, I1, rx, a, ex, d, q1⟩ => ?_)
  subst ex
  obtain rfl : u = Value.ref a := rx
  obtain ⟨t1, t2, _⟩ := isD_at I1 d
  refine ⟨t1, t2, ?_⟩
  rw [m.trees]
  refine Calls.callWith_builtin rfl (Calls.evalArgs_plain (Calls.spliced_cons (thn (he pins s1 σ H1 _ I1 q1) fun iv s2 ⟨y, H2, I2, ry, kvs, k, v, ea, ey, l, q2⟩ => Calls.spliced_nil ?_)))
  subst ey
  exact d_pop I2 ea ry l (.inl rfl) fun w' s3 I3 rw' => ⟨v, _, I3, rw', q2⟩
theorem pe_dpop2 (ho : PE X o td) (he : PE X e ty) (hf : PE X f tx) (m : M2 X o "pop" apos e f cpos) : PE X (.Call (.Attribute o "pop" apos) [e, f] [] cpos) (tDPop2 td ty tx) := by
  intro pins s σ H Q I h
  refine wpAny_Call_method m.base m.few m.line PySem.F.plainAttrs_dict PySem.F.slot_dict_pop PySem.F.type_dict_pop (thn (ho pins s σ H _ I h) fun u s1 ⟨x, H1, I1, rx, a, ex, d, q1⟩ => ?_)
  subst ex
  obtain rfl : u = Value.ref a := rx
  obtain ⟨t1, t2, _⟩ := isD_at I1 d
  refine ⟨t1, t2, ?_⟩
  rw [m.trees]
  refine Calls.callWith_builtin rfl (Calls.evalArgs_plain (Calls.spliced_cons (thn (he pins s1 σ H1 _ I1 q1) fun iv s2 ⟨y, H2, I2, ry, q2⟩ =>
    Calls.spliced_cons (thn (hf pins s2 σ H2 _ I2 q2) fun fv s3 ⟨z, H3, I3, rz, kvs, k, ea, ey, q3, q4⟩ => Calls.spliced_nil ?_))))
  subst ey
  cases l : valV kvs k with
  | some v => exact d_pop I3 ea ry l (.inr ⟨fv, rfl⟩) fun w' s4 I4 rw' => ⟨v, _, I4, rw', q3 v l⟩
  | none => exact d_popD I3 ea ry l fun s4 I4 => ⟨z, H3, I4, rz, q4 l⟩
end

/-! ### dict(d): a copy -/
section
variable {X : Cx} {pins : List (Addr × Obj)} {σ : St} {H : Hp} {s : Shared} {a : Addr} {kvs : List (Key × V)} {A : Around} {E : Value → Shared → Prop}
theorem d_copyOf {Q : Value → Shared → Prop} (I : Inv X pins σ H s) (e : Rd H a (.dK kvs)) (h : ∀ p s', H p = none → Inv X pins σ (upd H p (.dK kvs)) s' → Q (.ref p) s') : wpAny (model X.prog X.w) A (call (.type "dict") [.ref a]) Q E s := by
  obtain ⟨z, hd, vs, rel, dd⟩ := dk_rd I.hok e
  refine kt_call_dict hd dd (by rw [← rel.length]; exact z) fun h' dd' hs => ?_
  refine h _ _ (I.hok.fresh (Nat.le_refl _)) (I.laid (a := s.heap.objs.size) (o := .dK kvs) (t' := s.toks) (fun b q hq => ?_) (Nat.le_refl _) (dk_new z (beq_eq_false_iff_ne.mpr (Ne.symm (Nat.ne_of_lt I.big))) rel dd'))
  exact (hs.2 b (Nat.ne_of_lt (Heap.lt_size hq))).trans (Heap.get?_push_of_some _ hq)
end


section
variable {X : Cx} {pins : List (Addr × Obj)} {σ : St} {H : Hp} {s : Shared} {a : Addr} {y : V} {u : Value} {A : Around} {E : Value → Shared → Prop}
/-- d[y], not there: a KeyError -/
theorem d_missing {Q : Value → Shared → Prop} (hu : A.units + 1 < cLine) (hh : A.handled = none) (I : Inv X pins σ H s) (g : DGet H a y none) (ry : RelV y u)
    (h : ∀ h' e t', Heap.NewExc s.heap h' e "KeyError" → E (.ref e) { s with heap := h', toks := t' }) : wpAny (model X.prog X.w) A (getItem (.ref a) u) Q E s := by
  rcases g with ⟨kvs, k, e, ey, l⟩ | ⟨kvs, k, b, e, ey, eb, l⟩
  · subst ey
    obtain ⟨z, hd, vs, rel, dd⟩ := dk_rd I.hok e
    have hn : valueAt vs k = none := RelO.none_of (by rw [l]; exact rel.val k)
    exact wpAny_getItem_missing_of (kV_is ry) hd hh dd.mapOf hn fun h' ex ne => h h' ex _ ne
  · subst ey
    cases (show u = Value.ref b from ry)
    obtain ⟨z, hd, xs, rel, dd⟩ := dt_rd I.hok e
    have hn : (atKey xs k).map (·.2) = none := RelO.none_of (by rw [l]; exact rel.val k)
    exact wpAny_getItem_missing_heap (tupleKind_room_in1 hu) (key_of I.hok eb) hd hh dd (Option.map_eq_none_iff.mp hn) fun h' ex ne => h h' ex _ ne
end
end L2

set_option Elab.async false
set_option linter.all false
set_option maxRecDepth 100000
set_option maxHeartbeats 4000000
namespace L3
open PySem PySem.Spec PyProof.Rows L2
abbrev P2 := TF.P2
/-! ### ints -/
/-- an int of no great length -/
def Fi (i : Int) : Prop := Builtin.Int.intBits i ≤ 20000000
theorem Fi.mulOk {i j : Int} (a : Fi i) (b : Fi j) : IntMulOk i j := .of_le a b (by decide)
theorem fi_of {i : Int} {n : Nat} (h : i.natAbs < 2 ^ n) (hn : n ≤ 20000000) : Fi i := Nat.le_trans (intBits_le_iff.mpr h) hn
section
variable {X : Cx} {a b c : Expr} {ta tb tc : TE} {pos : Pos}
theorem op_mulF : OpR X (binaryOp .Mult) (rI (fun i j => IntMulOk i j) fun i j => .int (i * j)) := opI fun _ _ _ _ _ _ _ hc q => mul_int q hc
theorem op_divF : OpR X (binaryOp .FloorDiv) (rI (fun _ j => j ≠ 0 ∧ j.natAbs.log2 < 9000) fun i j => .int (i.fdiv j)) := opI fun _ _ _ _ _ _ _ hc q => floordiv_int hc.1 q (.inl (PyProof.noPylong_of_log2 hc.2))

/-! ### numbers of two parts -/
theorem SqT.same {K : PySem.W.Frag} {H H' : Hp} {a : Addr} {xs : List V} (e : Same H H') (h : SqT K H a xs) : SqT K H' a xs := by
  rcases h with (h | ⟨o, h⟩) | h
  · exact .inl (.inl (e _ _ h))
  · exact .inl (.inr ⟨o, e _ _ h⟩)
  · exact .inr h
theorem Same.up {H : Hp} {p : Addr} {o : HO} (h : H p = none) : Same H (upd H p o) := fun b u e => by
  rw [upd_ne (ne_of_none e h)]
  exact e
/-- v is the pair x -/
def NumV (K : PySem.W.Frag) (H : Hp) (v : V) (x : P2) : Prop := ∃ p, v = .ref p ∧ SqT K H p [.int x.1, .int x.2]
theorem NumV.same {K : PySem.W.Frag} {H H' : Hp} {v : V} {x : P2} (e : Same H H') (h : NumV K H v x) : NumV K H' v x := by
  obtain ⟨p, rfl, h⟩ := h
  exact ⟨p, rfl, SqT.same e h⟩
/-- x[0], x[1] of a number -/
def tN0 (K : PySem.W.Frag) (ta : TE) : TE := fun σ H Q => ta σ H fun x H1 => ∃ n, NumV K H1 x n ∧ Q (.int n.1) H1
def tN1 (K : PySem.W.Frag) (ta : TE) : TE := fun σ H Q => ta σ H fun x H1 => ∃ n, NumV K H1 x n ∧ Q (.int n.2) H1
theorem PE.mono {e : Expr} {t t' : TE} (h : PE X e t) (hm : ∀ σ H Q, t' σ H Q → t σ H Q) : PE X e t' := fun pins s σ H Q I q => h pins s σ H Q I (hm σ H Q q)
/-- the reading may ask less, where what is asked of the value is kept -/
def MonoT (t : TE) : Prop := ∀ σ H (Q Q' : VK), (∀ v H', Q v H' → Q' v H') → t σ H Q → t σ H Q'
theorem PE.conv {e : Expr} {t : TE} {r : V → Hp → VK → Prop} {r' : V → Hp → VK → Prop} (h : PE X e t) : PE X e t := h
theorem pe_n0 {j p2} (ha : PE X a ta) (hs : PlainIx (.Constant (.int 0) j p2) := by intro o i; with_unfolding_all rfl) : PE X (.Subscript a (.Constant (.int 0) j p2) pos) (tN0 X.K ta) := by
  intro pins s σ H Q I h
  refine Subscript_ (thn (ha pins s σ H _ I h) fun v s1 ⟨x, H1, I1, r1, n, ⟨p, ex, hq⟩, q1⟩ => ?_)
  refine thn (pe_int (i := 0) (j := j) (pos := p2) pins s1 σ H1 (fun y H2 => y = .int 0 ∧ H2 = H1) I1 ⟨rfl, rfl⟩) fun u s2 ⟨y, H2, I2, r2, e1, e2⟩ => ?_
  subst e1 e2
  exact ix_tup a _ pins s2 σ H2 x (.int 0) v u Q I2 r1 r2 ⟨p, _, 0, .int n.1, ex, rfl, hq, rfl, q1⟩ (hs _ _)
theorem pe_n1 {j p2} (ha : PE X a ta) (hs : PlainIx (.Constant (.int 1) j p2) := by intro o i; with_unfolding_all rfl) : PE X (.Subscript a (.Constant (.int 1) j p2) pos) (tN1 X.K ta) := by
  intro pins s σ H Q I h
  refine Subscript_ (thn (ha pins s σ H _ I h) fun v s1 ⟨x, H1, I1, r1, n, ⟨p, ex, hq⟩, q1⟩ => ?_)
  refine thn (pe_int (i := 1) (j := j) (pos := p2) pins s1 σ H1 (fun y H2 => y = .int 1 ∧ H2 = H1) I1 ⟨rfl, rfl⟩) fun u s2 ⟨y, H2, I2, r2, e1, e2⟩ => ?_
  subst e1 e2
  exact ix_tup a _ pins s2 σ H2 x (.int 1) v u Q I2 r1 r2 ⟨p, _, 1, .int n.2, ex, rfl, hq, rfl, q1⟩ (hs _ _)
/-- (a, b) of two ints -/
def tPair (K : PySem.W.Frag) (t : TA) : TE := fun σ H Q => t σ H fun xs H1 => ∃ i j, xs = [.int i, .int j] ∧ ∀ v H', Same H1 H' → NumV K H' v (i, j) → Q v H'
/-- a new tuple, a new list -/
def tTupS (t : TA) : TE := fun σ H Q => t σ H fun xs H1 => xs.length ≤ sizeLine ∧ ∀ p H', Same H1 H' → H' p = some (.tup xs) → Q (.ref p) H'
def tLstS (t : TA) : TE := fun σ H Q => t σ H fun xs H1 => xs.length ≤ sizeLine ∧ ∀ p H', Same H1 H' → H1 p = none → H' p = some (.lst xs) → Q (.ref p) H'
variable {es : List Expr} {t : TA}
theorem pe_tupS {x1} (h : PA X es t) : PE X (.Tuple es x1 pos) (tTupS t) := by
  intro pins s σ H Q I hq
  refine wpAny_Tuple_spliced (thn (h pos pins s σ H _ I hq) fun us s1 ⟨xs, H1, I1, r, z, q⟩ => ⟨by rw [← r.length]; exact z, ?_⟩)
  have hf : H1 s1.heap.objs.size = none := I1.hok.fresh (Nat.le_refl _)
  refine ⟨.ref s1.heap.objs.size, upd H1 s1.heap.objs.size (.tup xs), I1.laid (t' := s1.toks) (fun b u e => Heap.get?_push_of_some _ e) (Nat.le_refl _) ?_, rfl, q _ _ (Same.up hf) upd_same⟩
  exact ⟨z, us, r, ⟨_, Heap.get?_push_size _ rfl, rfl, _, rfl⟩⟩
theorem pe_lstS (h : PA X es t) : PE X (.List es pos) (tLstS t) := by
  intro pins s σ H Q I hq
  refine wpAny_List_spliced (thn (h pos pins s σ H _ I hq) fun us s1 ⟨xs, H1, I1, r, z, q⟩ => ⟨by rw [← r.length]; exact z, ?_⟩)
  have hf : H1 s1.heap.objs.size = none := I1.hok.fresh (Nat.le_refl _)
  refine ⟨.ref s1.heap.objs.size, upd H1 s1.heap.objs.size (.lst xs), I1.laid (t' := s1.toks) (fun b u e => Heap.get?_push_of_some _ e) (Nat.le_refl _) ?_, rfl, q _ _ (Same.up hf) hf upd_same⟩
  exact ⟨z, us, 0, r, Heap.get?_push_size _ rfl⟩
theorem pe_pair {x1} (h : PA X es t) : PE X (.Tuple es x1 pos) (tPair X.K t) := by
  intro pins s σ H Q I hq
  refine wpAny_Tuple_spliced (thn (h pos pins s σ H _ I hq) fun us s1 ⟨xs, H1, I1, r, i, j, e, q⟩ => ?_)
  subst e
  have z : [V.int i, V.int j].length ≤ sizeLine := by show 2 ≤ sizeLine; decide
  refine ⟨by rw [← r.length]; exact z, ?_⟩
  have hf : H1 s1.heap.objs.size = none := I1.hok.fresh (Nat.le_refl _)
  refine ⟨.ref s1.heap.objs.size, upd H1 s1.heap.objs.size (.tup [.int i, .int j]), I1.laid (t' := s1.toks) (fun b u e => Heap.get?_push_of_some _ e) (Nat.le_refl _) ?_, rfl, q _ _ (Same.up hf) ⟨_, rfl, SqT.of upd_same⟩⟩
  exact ⟨z, us, r, ⟨_, Heap.get?_push_size _ rfl, rfl, _, rfl⟩⟩

/-! ### == and != of numbers -/
def rEqN (K : PySem.W.Frag) (neg : Bool) : R2 := fun x y H Q => ∃ m n, NumV K H x m ∧ NumV K H y n ∧ Q (.bl (if neg then !decide (m = n) else decide (m = n))) H
theorem vals_ints2 {i j : Int} {us : List Value} (r : Vals [.int i, .int j] us) : ∃ t u, us = [.int i t, .int j u] := by
  obtain ⟨a, b, rfl, ⟨t, rfl⟩, ⟨u, rfl⟩⟩ := vals2 r
  exact ⟨t, u, rfl⟩
theorem eq2 {A : Around} {s : Shared} {a b c d : Int} {t u t' u' : Tok} : ∀ j (h1 : j < #[Value.int a t, Value.int b u].size) (h2 : j < #[Value.int c t', Value.int d u'].size),
    SeqAt.EqAt A s #[Value.int a t, Value.int b u][j] #[Value.int c t', Value.int d u'][j] (if j = 0 then a == c else b == d) := by
  intro j h1 h2
  match j, h1, h2 with
  | 0, _, _ => exact SeqAt.EqAt.int_int a t c t'
  | 1, _, _ => exact SeqAt.EqAt.int_int b u d u'
theorem eq2_bool (a b c d : Int) (t u t' u' : Tok) : ((List.range (min #[Value.int a t, Value.int b u].size #[Value.int c t', Value.int d u'].size)).all (fun j => if j = 0 then a == c else b == d) && #[Value.int a t, Value.int b u].size == #[Value.int c t', Value.int d u'].size) = decide ((a, b) = ((c, d) : P2)) := by
  rw [Bool.eq_iff_iff]
  simp [List.range, List.range.loop]
theorem op_eqN (hu : X.A.units < cLine) : OpR X (compareOp .Eq) (rEqN X.K false) := by
  intro pins s σ H x y v u Q I rx ry h
  obtain ⟨⟨a, b⟩, ⟨c, d⟩, ⟨p, rfl, hp⟩, ⟨q, rfl, hq⟩, k⟩ := h
  cases rx
  cases ry
  obtain ⟨its, r1, p1, _⟩ := I.tuple hp
  obtain ⟨its2, r2, p2, _⟩ := I.tuple hq
  obtain ⟨t, u, rfl⟩ := vals_ints2 r1
  obtain ⟨t', u', rfl⟩ := vals_ints2 r2
  exact SeqAt.eq_tupleAt p1 p2 hu eq2 ⟨.bl _, H, I, rfl, by rw [eq2_bool]; exact k⟩
theorem op_neN (hu : X.A.units < cLine) : OpR X (compareOp .NotEq) (rEqN X.K true) := by
  intro pins s σ H x y v u Q I rx ry h
  obtain ⟨⟨a, b⟩, ⟨c, d⟩, ⟨p, rfl, hp⟩, ⟨q, rfl, hq⟩, k⟩ := h
  cases rx
  cases ry
  obtain ⟨its, r1, p1, _⟩ := I.tuple hp
  obtain ⟨its2, r2, p2, _⟩ := I.tuple hq
  obtain ⟨t, u, rfl⟩ := vals_ints2 r1
  obtain ⟨t', u', rfl⟩ := vals_ints2 r2
  exact SeqAt.RcNeAt.tuples p1 p2 hu eq2 _ _ _ _ ⟨.bl _, H, I, rfl, by rw [eq2_bool]; exact k⟩

/-! ### isinstance(x, T), T a built-in type -/
inductive TyK (K : PySem.W.Frag) (H : Hp) : V → String → Prop where
  | non : TyK K H .non "NoneType"
  | bl (x : Bool) : TyK K H (.bl x) "bool"
  | int (i : Int) : TyK K H (.int i) "int"
  | str (x : Str) : TyK K H (.str x) "str"
  | lst {a : Addr} {xs : List V} (e : SqL K H a xs) : TyK K H (.ref a) "list"
  | tup {a : Addr} {xs : List V} (e : SqT K H a xs) : TyK K H (.ref a) "tuple"
def rIsI (K : PySem.W.Frag) : List V → Hp → VK → Prop := fun xs H Q => ∃ x t c b, xs = [x, .ty c] ∧ TyK K H x t ∧ PySem.W.kitOne K (.type t) (.type c) = some b ∧ Q (.bl b) H
theorem call_isinst : CallR X (.builtin "isinstance") (rIsI X.K) := by
  intro pins s σ H xs us Q I r h
  obtain ⟨x, t, c, b, rfl, ty, e, q⟩ := h
  obtain ⟨u, u2, rfl, rx, r2⟩ := vals2 r
  cases r2
  have fin : ∀ tk, EP X pins σ Q (.bool b) { s with toks := tk } := fun tk => ⟨.bl b, H, I.tok _, rfl, q⟩
  cases ty with
  | non => cases (show u = Value.none from rx); exact PySem.W.kia_one PySem.W.kitx_none I.kIn True.intro e (fun z => nomatch z) fin
  | bl y => cases (show u = Value.bool y from rx); exact PySem.W.kia_one PySem.W.kitx_bool I.kIn True.intro e (fun z => nomatch z) fin
  | int i => obtain ⟨t, q⟩ := (show ∃ t, u = Value.int i t from rx); cases q; exact PySem.W.kia_one PySem.W.kitx_int I.kIn True.intro e (fun z => nomatch z) fin
  | str y => obtain ⟨t, q⟩ := (show ∃ t, u = Value.str y t from rx); cases q; exact PySem.W.kia_one PySem.W.kitx_str I.kIn True.intro e (fun z => nomatch z) fin
  | @lst a xs ea =>
    cases (show u = Value.ref a from rx)
    obtain ⟨its, _, ⟨o, n, h1, h2, _⟩, _⟩ := I.list ea
    exact PySem.W.kia_one PySem.W.kitx_list I.kIn ⟨o, h1, h2⟩ e (fun z => nomatch z) fin
  | @tup a xs ea =>
    cases (show u = Value.ref a from rx)
    obtain ⟨its, _, ⟨o, h1, h2, _⟩, _⟩ := I.tuple ea
    exact PySem.W.kia_one PySem.W.kitx_tuple I.kIn ⟨o, h1, h2⟩ e (fun z => nomatch z) fin
theorem kit_int_int {K : PySem.W.Frag} : PySem.W.kitOne K (.type "int") (.type "int") = some true := by with_unfolding_all rfl
theorem kit_bool_bool {K : PySem.W.Frag} : PySem.W.kitOne K (.type "bool") (.type "bool") = some true := by with_unfolding_all rfl
theorem kit_int_bool {K : PySem.W.Frag} : PySem.W.kitOne K (.type "int") (.type "bool") = some false := by kernel_rfl
theorem kit_tuple_tuple {K : PySem.W.Frag} : PySem.W.kitOne K (.type "tuple") (.type "tuple") = some true := by with_unfolding_all rfl

/-! ### range(a, b, c) -/
/-- lo, lo + c, .. (n of them) -/
def Itc (lo c : Int) (n : Nat) : It := ⟨fun i _ => i < n, fun i H x H' => H' = H ∧ x = .int (lo + i * c), fun i _ => n ≤ i⟩
theorem turn_rangeC {P : Program} {w : World} {K : PySem.W.Frag} {tg : Expr} (it : Addr) (lo c : Int) (n : Nat) : Turn P w K tg (Itc lo c n) [it] it (fun i h => IsRangeIter h it (lo + (i : Nat) * c) ((n : Int) - (i : Nat)) c) where
  mem := by simp
  obj := fun i h st b hb => by
    have e : b = it := by simpa using hb
    subst e
    exact ⟨_, st, fun v z => by
      have z' : Data.fields _ = Data.cell v := z
      cases z'⟩
  keep := fun i h h' st k => k it (by simp) _ st
  item := by
    intro X hP hw hK hc i pins s σ H E I hf st hg
    subst hP hw hK
    obtain ⟨f0, f1, f2, f3, f4, f5⟩ := hf it (by simp)
    have W := Walks.range (prog := X.prog) (w := X.w) (I.ok.hd hc) it lo c n
    refine W.item i s _ _ hg st fun v h' tk hv st' kk => ?_
    obtain ⟨t, rfl⟩ := hv
    have I1 : Inv X pins σ H { s with heap := h', toks := tk } := I.turned (fun b o hb e => kk b o (by simpa using hb) e) f0 f1 f3 f4 f5
    exact ⟨_, rfl, go_of (s := { s with heap := h', toks := tk }) (n := "range_iterator") st' rfl rfl (by decide) ⟨.int (lo + i * c), H, I1, ⟨t, rfl⟩, ⟨rfl, rfl⟩, st', fun b hb => (hf b hb).1⟩⟩
  done := by
    intro X hP hw hK hc i pins s σ H E I hf st hg
    subst hP hw hK
    obtain ⟨f0, f1, f2, f3, f4, f5⟩ := hf it (by simp)
    exact wpAny_pyNext_range_end (I.ok.hd hc) st (by have : n ≤ i := hg; omega) fun h' eb => ⟨rfl, I.turned (t' := s.toks) (fun b o hb e => eb b o hb e) f0 f1 f3 f4 f5⟩
  self := fun _ _ _ _ _ st h => wpAny_pyIter_rangeiter st h
variable {tg : Expr}
theorem rangeC_it {pins : List (Addr × Obj)} {σ : L2.St} {H : Hp} {s : Shared} {R : It → Hp → Prop} {E : Value → Shared → Prop} {lo hi c : Int} {t u v : Tok} {tk : Nat} (I : Inv X pins σ H s) (hsm : Builtin.Range.small lo hi c = true) {n : Nat} (hn : Builtin.Range.rangeSize lo hi c = (n : Int))
    (q : R (Itc lo c n) H) : wpAny (model X.prog X.w) X.A (pyIter (.ref s.heap.objs.size)) (PIE X pins σ tg R) E { s with heap := s.heap.push { cls := .type "range", data := .fields #[.int lo t, .int hi u, .int c v] }, toks := tk } := by
  refine wpAny_pyIter_range (IsRange.new ..) hsm ?_
  have I1 : Inv X pins σ H { s with heap := s.heap.push { cls := .type "range", data := .fields #[.int lo t, .int hi u, .int c v] }, toks := tk } := I.kept fun b o e => Heap.get?_push_of_some _ e
  refine ⟨(s.heap.push { cls := .type "range", data := .fields #[.int lo t, .int hi u, .int c v] }).objs.size, [(s.heap.push { cls := .type "range", data := .fields #[.int lo t, .int hi u, .int c v] }).objs.size], _, _, H, rfl,
    I1.kept (t' := tk) fun b o e => Heap.get?_push_of_some _ e, turn_rangeC _ lo c n, ?_, fun b hb => ?_, q⟩
  · have e1 : lo + ((0 : Nat) : Int) * c = lo := by simp
    have e2 : ((n : Nat) : Int) - ((0 : Nat) : Int) = Builtin.Range.rangeSize lo hi c := by rw [hn]; omega
    show IsRangeIter _ _ (lo + ((0 : Nat) : Int) * c) (((n : Nat) : Int) - ((0 : Nat) : Int)) c
    rw [e1, e2]
    exact Heap.get?_push_size _ rfl
  · have e : b = (s.heap.push { cls := .type "range", data := .fields #[.int lo t, .int hi u, .int c v] }).objs.size := by simpa using hb
    subst e
    exact I1.fpOk (Nat.le_refl _) (I1.hok.fresh (Nat.le_refl _))
def iRng3 (ta : TA) : TI := fun σ H R => ta σ H fun vs H1 => ∃ (i j c : Int) (n : Nat), vs = [.int i, .int j, .int c] ∧ c ≠ 0 ∧ c.natAbs < 1073741824 ∧ Builtin.Range.small i j c = true ∧ Builtin.Range.rangeSize i j c = (n : Int) ∧ R (Itc i c n) H1
theorem pi_range3 {a b c : Expr} {ta : TA} {p pos : Pos} (hg : Gl X "range") (hm : X.mg "range" = none) (ha : PA X [a, b, c] ta) (hs : starEach [a, b, c] X.env = (false, eval a X.env) :: starEach [b, c] X.env := by rfl)
    (hpl : (backTo pos (starEach [b, c] X.env)).any (·.1) = false := by rfl) :
    PI X tg (.Call (.Name "range" p) [a, b, c] [] pos) (iRng3 ta) := by
  intro pins s σ H R I h
  refine Call_ (ld_blt I hg hm boot_range (PyProof.Rows.callWith_type1 (thn (ha pos pins s σ H _ I h) fun us s1 ⟨vs, H1, I1, r1, q1⟩ => ?_) hs hpl))
  obtain ⟨i, j, c, n, e, h1, h2, h3, h4, q⟩ := q1
  subst e
  cases r1 with
  | cons r rr =>
    cases rr with
    | cons r' rr =>
      cases rr with
      | cons r'' rr =>
        cases rr
        obtain ⟨t, rfl⟩ := r
        obtain ⟨t', rfl⟩ := r'
        obtain ⟨t'', rfl⟩ := r''
        exact call_range_3 h1 (rangeC_it I1 h3 h4 q) (.inl (PyProof.noPylong_small h2))
theorem for_rangeC {lo c : Int} {n : Nat} {g : TG} {tb : TS} {D : Ends} {σ : L2.St} {H : Hp} (Pv : Nat → L2.St → Hp → Prop) (h0 : Pv 0 σ H)
    (hs : ∀ i σ H, i < n → Pv i σ H → g (.int (lo + i * c)) σ H fun σ2 H2 => tb { D with nx := Pv (i + 1), ct := Pv (i + 1), bk := D.nx } σ2 H2) (hd : ∀ σ H, Pv n σ H → D.nx σ H) :
    ∃ W : Nat → Nat → L2.St → Hp → Prop, (∃ m, W 0 m σ H) ∧ ∀ i m σ H, W i m σ H →
      ((Itc lo c n).stop i H ∧ D.nx σ H) ∨ ((Itc lo c n).go i H ∧ ∃ N : L2.St → Hp → Prop, (∀ σ' H', N σ' H' → ∃ m', m' < m ∧ W (i + 1) m' σ' H') ∧ ∀ x H', (Itc lo c n).yld i H x H' → g x σ H' fun σ2 H2 => tb { D with nx := N, ct := N, bk := D.nx } σ2 H2) := by
  refine ⟨fun i m σ H => m = n - i ∧ i ≤ n ∧ Pv i σ H, ⟨n, by simp, Nat.zero_le _, h0⟩, ?_⟩
  rintro i m σ H ⟨rfl, hi, p⟩
  by_cases hlt : i < n
  · refine .inr ⟨hlt, Pv (i + 1), fun σ' H' p' => ⟨n - (i + 1), by omega, rfl, hlt, p'⟩, fun x H' y => ?_⟩
    obtain ⟨e, y⟩ := y
    subst e y
    exact hs i σ _ hlt p
  · have e : i = n := by omega
    subst e
    exact .inl ⟨Nat.le_refl _, hd σ H p⟩
end
theorem bt_len : bootBuiltins "len" = some (.builtin "len") := by decide +kernel
theorem bt_abs : bootBuiltins "abs" = some (.builtin "abs") := by decide +kernel
theorem bt_min : bootBuiltins "min" = some (.builtin "min") := by decide +kernel
theorem bt_max : bootBuiltins "max" = some (.builtin "max") := by decide +kernel
theorem bt_isinstance : bootBuiltins "isinstance" = some (.builtin "isinstance") := by decide +kernel
theorem bt_int : bootBuiltins "int" = some (.type "int") := by decide +kernel
theorem bt_bool : bootBuiltins "bool" = some (.type "bool") := by decide +kernel
theorem bt_str : bootBuiltins "str" = some (.type "str") := by decide +kernel
theorem bt_list : bootBuiltins "list" = some (.type "list") := by decide +kernel
theorem bt_tuple : bootBuiltins "tuple" = some (.type "tuple") := by decide +kernel
theorem sz1 : 1 ≤ sizeLine := by decide
theorem sz2 : 2 ≤ sizeLine := by decide
theorem sz3 : 3 ≤ sizeLine := by decide
theorem sz4 : 4 ≤ sizeLine := by decide
theorem ne_eq2 {m n : P2} (h : m = n) : (if true = true then !decide (m = n) else decide (m = n)) = false := by simp [h]
theorem cutV_all {xs : List V} {n : Nat} (h : xs.length ≤ n) : cutV xs none (some (n : Int)) = xs := by
  unfold cutV
  rw [HT.sIx_nat, HT.sIx_none, Nat.min_eq_right h]
  simp
theorem range4 {m : Nat} (h : m ≤ 63) : Builtin.Range.small 0 ((m : Int) + 1) 4 = true ∧ Builtin.Range.rangeSize 0 ((m : Int) + 1) 4 = ((Builtin.Range.rangeSize 0 ((m : Int) + 1) 4).toNat : Int) := by
  have k : ∀ m : Nat, m < 64 → Builtin.Range.small 0 ((m : Int) + 1) 4 = true ∧ Builtin.Range.rangeSize 0 ((m : Int) + 1) 4 = ((Builtin.Range.rangeSize 0 ((m : Int) + 1) 4).toNat : Int) := by decide +kernel
  exact k m (by omega)
theorem ifF {c : Bool} {A B : Prop} (hc : c = false) (h : B) : if c = true then A else B := by subst hc; exact iteF h
theorem ifT {c : Bool} {A B : Prop} (hc : c = true) (h : A) : if c = true then A else B := by subst hc; exact iteT h
theorem if2 {c : Bool} {A B : Prop} (h1 : c = true → A) (h2 : c = false → B) : if c = true then A else B := by
  cases c
  · exact iteF (h2 rfl)
  · exact iteT (h1 rfl)
theorem kind_fi {k : Int} (h : TF.Kind k) : Builtin.Int.intBits k ≤ 64 := by rcases h with rfl | rfl | rfl | rfl <;> decide
theorem mulOk3 {k b d : Int} (hk : TF.Kind k) (hb : Fi b) (hd : Fi d) : IntMulOk (k * b) d := .of_le (intBits_mul_le (kind_fi hk) hb) hd (by decide)
def FiN (x : P2) : Prop := Fi x.1 ∧ Fi x.2
/-- both parts at most m -/
def Bd (m : Nat) (x : P2) : Prop := x.1.natAbs ≤ m ∧ x.2.natAbs ≤ m
theorem Bd.fi {m n : Nat} {x : P2} (h : Bd m x) (hm : m < 2 ^ n) (hn : n ≤ 20000000) : FiN x := ⟨fi_of (Nat.lt_of_le_of_lt h.1 hm) hn, fi_of (Nat.lt_of_le_of_lt h.2 hm) hn⟩
theorem Bd.mul {k : Int} (hk : TF.Kind k) {m n : Nat} {x y : P2} (hx : Bd m x) (hy : Bd n y) : Bd (4 * (m * n)) (TF.mul k x y) := by
  have a1 := Nat.mul_le_mul hx.1 hy.1
  have a2 := Nat.mul_le_mul hx.2 hy.2
  have a3 := Nat.mul_le_mul hx.1 hy.2
  have a4 := Nat.mul_le_mul hx.2 hy.1
  rw [← Int.natAbs_mul] at a1 a2 a3 a4
  have e : k * x.2 * y.2 = k * (x.2 * y.2) := Int.mul_assoc _ _ _
  constructor
  · show (x.1 * y.1 + k * x.2 * y.2).natAbs ≤ 4 * (m * n)
    rw [e]
    generalize x.1 * y.1 = u at *
    generalize x.2 * y.2 = v at *
    generalize m * n = q at *
    rcases hk with rfl | rfl | rfl | rfl <;> omega
  · show (x.1 * y.2 + x.2 * y.1).natAbs ≤ 4 * (m * n)
    generalize x.1 * y.2 = u at *
    generalize x.2 * y.1 = v at *
    generalize m * n = q at *
    omega
theorem Bd.conj {m : Nat} {x : P2} (h : Bd m x) : Bd m (TF.conj x) := ⟨h.1, by show (-x.2).natAbs ≤ m; rw [Int.natAbs_neg]; exact h.2⟩
theorem abs_if (i : Int) : (if i < 0 then -i else i) = ((i.natAbs : Nat) : Int) := by split <;> omega
/-! ### a def of the text, bound under its name -/
structure Dn (K : PySem.W.Frag) (mg : Str → Option Value) (x : Str) (st : Stmt) (f : Addr) (fd : FuncData) (ps : List Str) : Prop where
  F : Fun K x x st f fd
  b : Binds K fd ps []
  m : mg x = some (.ref f)
end L3

set_option Elab.async false
set_option linter.all false
set_option maxRecDepth 100000
set_option maxHeartbeats 4000000
namespace L4
open PySem PySem.Spec PyProof.Rows L2 L3
/-! ### exceptions of own classes under ValueError -/
abbrev bmV : List Value := [.type "ValueError", .type "Exception", .type "BaseException", .type "object"]
abbrev newV : String := "ValueError.__new__"
/-- an own class of exceptions, bound under its name -/
structure ExcC (K : PySem.W.Frag) (mg : Str → Option Value) (x : Str) (C : Addr) : Prop where
  m : mg x = some (.ref C)
  q : PySem.W.excIn K C bmV newV = true
theorem own_of {K : PySem.W.Frag} {h₀ : Heap} {mg : Str → Option Value} {x : Str} {C : Addr} (X : K.In h₀) (c : ExcC K mg x C) : OwnCls x C bmV newV mg h₀ := by
  obtain ⟨e, q⟩ := c
  refine ⟨e, ?_⟩
  unfold PySem.W.excIn at q
  split at q
  · rename_i dd cd sl ho
    split at q
    · rename_i C' bm k0 k1 k2 k3 n k5 hm hs
      simp only [Bool.and_eq_true, beq_iff_eq, Bool.not_eq_true'] at q
      obtain ⟨⟨⟨⟨⟨rfl, rfl⟩, hdel⟩, ht⟩, hok⟩, hni⟩ := q
      obtain ⟨nm, bs, mro, ns, qn, hd, sn, sub, ab, col, del⟩ := cd
      dsimp only at hm hdel hok hni
      subst hm hdel
      have hsl : sl = #[k0, k1, k2, k3, some (.builtin newV), k5] := by
        obtain ⟨l⟩ := sl
        simp only at hs
        rw [hs]
      subst hsl
      exact ⟨bm, ns, nm, qn, bs, hd, sn, sub, ab, col, dd, k0, k1, k2, k3, k5, _, X _ _ ho, .of_isNs (PySem.W.isNs_of_in X hok), PySem.W.nsMap_none_of_in X hok hni, PySem.W.tail_of_in X ht⟩
    · cases q
  · cases q
theorem there {P : Program} {w : World} {H : Hp} {h : Heap} {a : Addr} {o : HO} (x : ObjOk P w H h a o) : ∃ ob, h.get? a = some ob := by
  cases o with
  | lst xs => obtain ⟨_, _, _, _, e⟩ := x; exact ⟨_, e⟩
  | tup xs => obtain ⟨_, _, _, ob, e, _⟩ := x; exact ⟨_, e⟩
  | dK kvs => obtain ⟨_, _, _, _, o, _, _, e, _⟩ := x; exact ⟨_, e⟩
  | dT kvs => obtain ⟨_, _, _, _, o, _, _, e, _⟩ := x; exact ⟨_, e⟩
  | set S n => obtain ⟨o, _, _, _, e, _⟩ := x; exact ⟨_, e⟩
  | ins C dx fs => obtain ⟨_, _, _, e, _⟩ := x; exact ⟨_, e⟩
  | own y => obtain ⟨_, e⟩ := x; exact ⟨_, e⟩
  | xd fs => obtain ⟨_, ⟨_, _, _, e, _⟩, _⟩ := x; exact ⟨_, e⟩
  | rng lo hi => obtain ⟨_, _, _, e⟩ := x; exact ⟨_, e⟩
  | frz ob u => obtain ⟨e, _⟩ := x; exact ⟨_, e⟩
  | tbl ps => exact ⟨_, (show h.get? a = some _ from x)⟩
  | met f y => exact ⟨_, (show h.get? a = some _ from x)⟩
  | ext φ => obtain ⟨_, ⟨_, e⟩, _⟩ := x; exact ⟨_, e⟩
/-- what stays while an exception flies: B bears all that is tracked, and all that stood ahead of the call but the frames -/
structure Bears (B : Heap) (fs : List Addr) (H : Hp) (h : Heap) (H' : Hp) (h' : Heap) : Prop where
  trk : ∀ b u, H' b = some u → ∃ o, h'.get? b = some o ∧ B.get? b = some o
  old : ∀ b o, h.get? b = some o → H b = none → b ∉ fs → B.get? b = some o
  any : ∀ b o, h.get? b = some o → b ∉ fs → ∃ o', B.get? b = some o'
/-- an exception e of the class C flies out of a call -/
structure Cau (P : Program) (w : World) (outer : List Env) (H : Hp) (s : Shared) (e : Addr) (C : Value) (H' : Hp) (s' : Shared) : Prop where
  os : s'.os = s.os
  bare : AllBare s'.gens
  un : Un (frs outer) [] H H' s.heap s'.heap
  hok : HOk P w H' s'.heap
  fly : ∃ B a0, Heap.FlyingW B outer e C a0 s'.heap ∧ Bears B (frs outer) H s.heap H' s'.heap
def CX1 (P : Program) (w : World) : CXT := fun outer H s E ev s' => ∃ e C H', ev = .ref e ∧ Cau P w outer H s e C H' s' ∧ E C none H'
abbrev CXL (P : Program) (w : World) : CXT := CX1 P w
theorem cx1_false {P : Program} {w : World} {outer : List Env} {H : Hp} {s s' : Shared} {e : Value} (h : CX1 P w outer H s (fun _ _ _ => False) e s') : False := by
  obtain ⟨_, _, _, _, _, z⟩ := h
  exact z
theorem passL {P : Program} {w : World} {X : Cx} : Passes (CX1 P w) X E0 := fun _ _ _ _ _ _ _ h => (cx1_false h).elim
section
variable {X : Cx} {pins : List (Addr × Obj)} {σ : L2.St} {H H' : Hp} {s s' : Shared} {h' B : Heap} {e : Addr} {C a0 : Value}
/-- tracked things stay where B stays -/
theorem hok_of (hok : HOk X.prog X.w H' s'.heap) (c2 : ∀ b u, H' b = some u → ∃ o, s'.heap.get? b = some o ∧ B.get? b = some o) (st : B.StaysIn h') : HOk X.prog X.w H' h' := fun a o q => by
  refine (hok a o q).stay (fun b u hb r => ?_) (fun _ z => z) fun _ _ z => z
  have key : ∀ v, H' b = some v → h'.get? b = some u := fun v z => by
    obtain ⟨o', e1, e2⟩ := c2 b v z
    rw [r] at e1
    cases e1
    exact st b _ e2
  rcases hb with rfl | hb
  · exact key _ q
  · exact key _ hb
/-- the frame is left: the exception flies among the callers -/
theorem cau_left (I : Inv X pins σ H s) (hex : X.ex = []) (hst : X.stack = X.env :: X.outer) (hfr : X.env.frame = some X.env.locals) (hos : s'.os = s.os) (hb : AllBare s'.gens) (un : Un (frs X.stack) [] H H' s.heap s'.heap) (hok : HOk X.prog X.w H' s'.heap)
    (br : Bears B (frs X.stack) H s.heap H' s'.heap) (fl : Heap.FlyingW B X.outer e C a0 h') (sl : s'.heap.UpToSlots h') : Cau X.prog X.w X.outer X.H₀ X.s₀ e C H' { s' with heap := h' } := by
  have nox : ∀ b, b ∉ X.ex := fun b z => by rw [hex] at z; cases z
  have neL : ∀ b o, X.s₀.heap.get? b = some o → b ≠ X.env.locals := fun b o q => Nat.ne_of_lt (Nat.lt_of_lt_of_le (Heap.lt_size q) I.ok.above)
  have nfs : ∀ b o, X.s₀.heap.get? b = some o → b ∉ X.fs → b ∉ frs X.stack := fun b o q hb z => (List.mem_cons.mp (I.stkSub b z)).elim (neL b o q) hb
  have st := fl.1
  have old : ∀ b o, X.s₀.heap.get? b = some o → X.H₀ b = none → b ∉ X.fs → B.get? b = some o := fun b o q n hb =>
    br.old b o (I.base.keep b o q n hb (nox b)) (I.base.free b o q n (nox b)) (nfs b o q hb)
  have any : ∀ b o, X.s₀.heap.get? b = some o → b ∉ X.fs → ∃ o', B.get? b = some o' := fun b o q hb => by
    obtain ⟨o1, e1⟩ := I.base.there b o q (nox b)
    exact br.any b o1 e1 (nfs b o q hb)
  have slot : ∀ b o, X.s₀.heap.get? b = some o → X.H₀ b = none → b ∈ X.fs → ∃ sl, h'.get? b = some { o with slots := sl } := fun b o q n hb => by
    obtain ⟨sl1, e1⟩ := I.base.slot b o q n hb (nox b)
    have hin : b ∈ frs X.stack := by
      rw [hst]
      unfold frs
      rw [List.filterMap_cons, hfr]
      exact List.mem_cons_of_mem _ hb
    obtain ⟨sl2, e2⟩ := un.slot b _ e1 (I.base.free b o q n (nox b)) hin (by simp)
    obtain ⟨_, o', ho', hnf⟩ := I.ok.funs.mem hb
    rw [q] at ho'
    cases ho'
    obtain ⟨sl3, e3⟩ := sl b _ e2 hnf
    exact ⟨sl3, e3⟩
  have free : ∀ b o, X.s₀.heap.get? b = some o → X.H₀ b = none → H' b = none := fun b o q n => by
    obtain ⟨o1, e1⟩ := I.base.there b o q (nox b)
    exact un.free b o1 e1 (I.base.free b o q n (nox b)) (by simp)
  refine ⟨hos.trans I.os, hb, ⟨fun b o q n hb _ => st b o (old b o q n hb), fun b o q n hb _ => slot b o q n hb, fun b o q n _ => free b o q n, fun b o q _ => ?_, fun b xs q => un.tups b xs (I.base.tups b xs q), fun b o u q => un.frzs b o u (I.base.frzs b o u q), fun b ps q => ?_⟩, hok_of hok br.trk st, B, a0, fl, fun b u q => ?_, old, any⟩
  · by_cases hb : b ∈ X.fs
    · obtain ⟨sl, e1⟩ := slot b o q (I.ok.frf b hb) hb
      exact ⟨_, e1⟩
    · obtain ⟨o', e1⟩ := any b o q hb
      exact ⟨o', st b o' e1⟩
  · obtain ⟨m1, e1⟩ := I.base.tbls b ps q
    obtain ⟨m2, e2⟩ := un.tbls b _ e1
    exact ⟨m1 ++ m2, by rw [e2, Array.append_assoc]⟩
  · obtain ⟨o, _, e2⟩ := br.trk b u q
    exact ⟨o, st b o e2, e2⟩
end
section
variable {P : Program} {w : World} {K : PySem.W.Frag} {mg : Str → Option Value} {base : Heap} {N : List Str} {qual : Str} {scope : Scope} {f : Addr} {cd : Value} {A : Around} {outer : List Env} {s : Shared} {H : Hp} {E : XK}
/-- a callee's exception goes on to the callers -/
theorem passX : Passes (CX1 P w) (cxOf (CX1 P w) P w K mg base N qual scope f cd A outer s H E) E := by
  intro pins σ H1 s1 ev s' I h
  obtain ⟨e, C, H', rfl, ⟨os, bare, un, hok, B, a0, fl, br⟩, hE⟩ := h
  show wpAny _ _ (leaving _ _) _ _ _
  refine wpAny_leaves_onW (I.ok.frames) rfl fl fun h' fl' sl => ?_
  exact ⟨e, C, H', rfl, cau_left I rfl rfl rfl os bare un hok br fl' sl, hE⟩
/-- raise C(..) -/
def tRaise (E : XK) (C : Addr) (t : TA) : TS := fun _ σ H => t σ H fun xs H1 => xs.length ≤ sizeLine ∧ E (.ref C) none H1
theorem ps_raise {x : Str} {C : Addr} {e₀ : Expr} {rest : List Expr} {np cpos pos : Pos} {t : TA} (c : ExcC K mg x C) (hg : Gl (cxOf (CX1 P w) P w K mg base N qual scope f cd A outer s H E) x)
    (ha : PA (cxOf (CX1 P w) P w K mg base N qual scope f cd A outer s H E) (e₀ :: rest) t)
    (hd : (x == ("__debug__" : Str)) = false := by decide)
    (he : starEach (e₀ :: rest) (cxOf (CX1 P w) P w K mg base N qual scope f cd A outer s H E).env = (false, eval e₀ (cxOf (CX1 P w) P w K mg base N qual scope f cd A outer s H E).env) :: starEach rest (cxOf (CX1 P w) P w K mg base N qual scope f cd A outer s H E).env := by rfl)
    (hpl : (backTo cpos (starEach (e₀ :: rest) (cxOf (CX1 P w) P w K mg base N qual scope f cd A outer s H E).env)).any (·.1) = false := by rfl) :
    PS (cxOf (CX1 P w) P w K mg base N qual scope f cd A outer s H E) (.Raise (some (.Call (.Name x np) (e₀ :: rest) [] cpos)) none pos) (tRaise E C t) := by
  intro pins s1 σ H1 D I h
  obtain ⟨tl, Nn, nm, q, bs, hdct, sn, sub, ab, col, dd, k0, k1, k2, k3, k5, mN, hC, hN, hni, T⟩ := (own_of I.ok.mod.kin c).obj
  refine wpAny_Raise_call_subT (C := C) (nm := nm) (q := q) (N := Nn) (bs := bs) (bm := tl) (hdct := hdct) (sn := sn) (sub := sub) (ab := ab) (col := col) (dd := dd) (k0 := k0) (k1 := k1) (k2 := k2) (k3 := k3) (k5 := k5)
    PySem.F.excBase_ValueError (mN := mN) (T.hasType PySem.F.excBase_ValueError.hasBase) (I.ok.hd rfl) hpl hni (ld_glob I hg c.m ⟨rfl, ?_⟩ hd)
  have hA := ha cpos pins s1 σ H1 _ I h
  rw [he] at hA ⊢
  refine Calls.evalArgs_plain (thn hA fun us s2 ⟨vs, H2, I2, r, z, hE⟩ => ?_)
  refine ⟨rfl, by rw [← r.length]; exact z, I2.bk _ _ hC, hN.keeps I2.bk, T.keeps I2.bk, fun h' e mk => ?_⟩
  show wpAny _ _ (leaving _ _) _ _ _
  have hin : ∀ env ∈ (cxOf (CX1 P w) P w K mg base N qual scope f cd A outer s H E).stack, ∀ b, env.frame = some b → b ∈ frs (cxOf (CX1 P w) P w K mg base N qual scope f cd A outer s H E).stack := fun env he b hb => List.mem_filterMap.mpr ⟨env, he, hb⟩
  refine wpAny_leaves_madeW (base := PySem.W.hideAll s2.heap (frs (cxOf (CX1 P w) P w K mg base N qual scope f cd A outer s H E).stack)) I2.ok.frames rfl (fun b o q => PySem.W.of_hideAll _ q) (PySem.W.funFrames_hide I2.stack hin) mk fun h2 t fl tu nt sl => ?_
  have hok2 : HOk P w H2 h' := I2.hok.kept mk.keeps
  refine ⟨e, .ref C, H2, rfl, cau_left (s' := { s2 with heap := h' }) I2 rfl rfl rfl rfl I2.bare (Un.kept mk.keeps) hok2 ⟨fun b u q => ?_, fun b o q _ hb => PySem.W.hideAll_get _ q hb, fun b o q hb => ⟨o, PySem.W.hideAll_get _ q hb⟩⟩ fl sl, hE⟩
  obtain ⟨o, e1⟩ := there (I2.hok b u q)
  exact ⟨o, mk.keeps b o e1, PySem.W.hideAll_get _ e1 fun z => by rw [I2.stkFree b z] at q; cases q⟩
end
section
variable {P : Program} {w : World} {K : PySem.W.Frag} {mg : Str → Option Value} {base : Heap}
/-- a def whose body may raise -/
theorem _root_.L2.Fun.okX {x qual : Str} {st : Stmt} {f : Addr} {fd : FuncData} {N ps : List Str} {k : Nat} {sp : Sp} (F : Fun K x qual st f fd) (S : FnScope N ps (defScope st)) (len : ∀ vs H Q E, sp vs H Q E → vs.length = ps.length)
    (hbody : ∀ (cdv : Value) (A : Around) (outer : List Env) (s : Shared) (H : Hp) (vs : List V) (Q : VK) (E : XK), Room k (A.deeper (envOfC qual (defScope st) s.heap.objs.size f cdv)) → sp vs H Q E →
      ∃ t, PSs (cxOf (CX1 P w) P w K mg base N qual (defScope st) f cdv A outer s H E) (defBody st) t ∧ t { nx := fun _ H' => Q .non H', rt := Q } (start N vs) H) : FnOk P w K mg base (CX1 P w) (k + 1) f fd ps sp := by
  obtain ⟨oc, od, kV, doc, pm, an, cdv, ct, osl, rfl, lk, hcd⟩ := F.ex
  exact fn_of lk hcd S len fun A outer s H vs Q E hr hsp => hbody cdv A outer s H vs Q E hr hsp
/-- .. and one whose body does not -/
theorem _root_.L2.Fun.okL {x qual : Str} {st : Stmt} {f : Addr} {fd : FuncData} {N ps : List Str} {k : Nat} {sp : Sp} (F : Fun K x qual st f fd) (S : FnScope N ps (defScope st)) (len : ∀ vs H Q E, sp vs H Q E → vs.length = ps.length)
    (hbody : ∀ (cdv : Value) (A : Around) (outer : List Env) (s : Shared) (H : Hp) (vs : List V) (Q : VK) (E : XK), Room k (A.deeper (envOfC qual (defScope st) s.heap.objs.size f cdv)) → sp vs H Q E →
      ∃ t, PSs (cxOf (CX1 P w) P w K mg base N qual (defScope st) f cdv A outer s H E).nox (defBody st) t ∧ t { nx := fun _ H' => Q .non H', rt := Q } (start N vs) H) : FnOk P w K mg base (CX1 P w) (k + 1) f fd ps sp := by
  obtain ⟨oc, od, kV, doc, pm, an, cdv, ct, osl, rfl, lk, hcd⟩ := F.ex
  refine fn_of lk hcd S len fun A outer s H vs Q E hr hsp => ?_
  obtain ⟨t, h, q⟩ := hbody cdv A outer s H vs Q E hr hsp
  exact ⟨t, h.nox, q⟩
end
section
variable {X : Cx} {pins : List (Addr × Obj)} {σ : L2.St} {H H' : Hp} {s s' : Shared} {h' B : Heap} {e : Addr} {C a0 : Value}
/-- the frame's state while a callee's exception flies -/
theorem inv_fly (I : Inv X pins σ H s) (hos : s'.os = s.os) (hb : AllBare s'.gens) (un : Un (frs X.stack) [] H H' s.heap s'.heap) (hok : HOk X.prog X.w H' s'.heap) (br : Bears B (frs X.stack) H s.heap H' s'.heap)
    (st : B.StaysIn h') (sl : s'.heap.UpToSlots h') : Inv X pins σ H' { s' with heap := h' } := by
  have slot : ∀ b o, s.heap.get? b = some o → H b = none → b ∈ frs X.stack → ∃ sl, h'.get? b = some { o with slots := sl } := fun b o q n hb => by
    obtain ⟨sl2, e2⟩ := un.slot b _ q n hb (by simp)
    obtain ⟨_, o', ho', hnf⟩ := I.stack.mem hb
    rw [q] at ho'
    cases ho'
    obtain ⟨sl3, e3⟩ := sl b _ e2 hnf
    exact ⟨sl3, e3⟩
  refine I.call' (s' := { s' with heap := h' }) (ch := []) hos ⟨fun b o q n hb _ => st b o (br.old b o q n hb), fun b o q n hb _ => slot b o q n hb, un.free, fun b o q _ => ?_, un.tups, un.frzs, un.tbls⟩ (hok_of hok br.trk st) hb (fun b z => absurd z (by simp))
  by_cases hb : b ∈ frs X.stack
  · obtain ⟨sl, e1⟩ := slot b o q (I.stkFree b hb) hb
    exact ⟨_, e1⟩
  · obtain ⟨o', e1⟩ := br.any b o q hb
    exact ⟨o', st b o' e1⟩
abbrev _root_.L2.Cx.marked (X : Cx) (ev : Value) : Cx := { X with A := X.A.mark (some ev), calm := false }
theorem inv_mark (I : Inv X pins σ H s) (ev : Value) : Inv (X.marked ev) pins σ H s :=
  ⟨⟨I.ok.mod, I.ok.kind, I.ok.glob, I.ok.blt, I.ok.above, I.ok.inj, I.ok.has, I.ok.cab, (fun z => by cases z), I.ok.frames, I.ok.stk, I.ok.exf, I.ok.bs, I.ok.bsz, I.ok.noex, I.ok.exfs, I.ok.funs, I.ok.frf⟩, I.os, I.bare, I.base, I.loc, I.cell, I.free, I.freeC, I.pin, I.hok, I.len⟩
theorem inv_unmark {ev : Value} (ok : X.Ok) (I : Inv (X.marked ev) pins σ H s) : Inv X pins σ H s := ⟨ok, I.os, I.bare, I.base, I.loc, I.cell, I.free, I.freeC, I.pin, I.hok, I.len⟩
theorem sp_unmark {ev : Value} {D : Ends} {fl : Flow} (ok : X.Ok) (h : SP (X.marked ev) pins D fl s) : SP X pins D fl s := by
  cases fl with
  | next => obtain ⟨σ', H', I, q⟩ := h; exact ⟨σ', H', inv_unmark ok I, q⟩
  | brk => obtain ⟨σ', H', I, q⟩ := h; exact ⟨σ', H', inv_unmark ok I, q⟩
  | cont => obtain ⟨σ', H', I, q⟩ := h; exact ⟨σ', H', inv_unmark ok I, q⟩
  | ret u => obtain ⟨v, σ', H', I, r, q⟩ := h; exact ⟨v, σ', H', inv_unmark ok I, r, q⟩
/-- the context of a block under try: the pins of the outside stay, an exception is kept for the clauses -/
abbrev _root_.L2.Cx.tried (X : Cx) (pn : List (Addr × Obj)) (xe : Value → Shared → Prop) : Cx := { X with pn := pn, xe := xe }
theorem inv_try (I : Inv X pins σ H s) (xe : Value → Shared → Prop) : Inv (X.tried (X.pn ++ pins) xe) [] σ H s :=
  ⟨⟨I.ok.mod, I.ok.kind, I.ok.glob, I.ok.blt, I.ok.above, I.ok.inj, I.ok.has, I.ok.cab, I.ok.hd, I.ok.frames, I.ok.stk, I.ok.exf, I.ok.bs, I.ok.bsz, I.ok.noex, I.ok.exfs, I.ok.funs, I.ok.frf⟩, I.os, I.bare, I.base, I.loc, I.cell, I.free, I.freeC, by simpa using I.pin, I.hok, I.len⟩
theorem inv_untry {pins' : List (Addr × Obj)} {xe : Value → Shared → Prop} (I : Inv (X.tried (X.pn ++ pins) xe) pins' σ H s) : Inv X pins σ H s :=
  ⟨⟨I.ok.mod, I.ok.kind, I.ok.glob, I.ok.blt, I.ok.above, I.ok.inj, I.ok.has, I.ok.cab, I.ok.hd, I.ok.frames, I.ok.stk, I.ok.exf, I.ok.bs, I.ok.bsz, I.ok.noex, I.ok.exfs, I.ok.funs, I.ok.frf⟩, I.os, I.bare, I.base, I.loc, I.cell, I.free, I.freeC, fun p hp => I.pin p (List.mem_append_left _ hp), I.hok, I.len⟩
theorem sp_untry {pins' : List (Addr × Obj)} {xe : Value → Shared → Prop} {D : Ends} {fl : Flow} (h : SP (X.tried (X.pn ++ pins) xe) pins' D fl s) : SP X pins D fl s := by
  cases fl with
  | next => obtain ⟨σ', H', I, q⟩ := h; exact ⟨σ', H', inv_untry I, q⟩
  | brk => obtain ⟨σ', H', I, q⟩ := h; exact ⟨σ', H', inv_untry I, q⟩
  | cont => obtain ⟨σ', H', I, q⟩ := h; exact ⟨σ', H', inv_untry I, q⟩
  | ret u => obtain ⟨v, σ', H', I, r, q⟩ := h; exact ⟨v, σ', H', inv_untry I, r, q⟩
/-- what the clauses find -/
def Thrown (X : Cx) (pins : List (Addr × Obj)) (E' : XK) (ev : Value) (s' : Shared) : Prop :=
  ∃ e Cv H' σ' H0 sc, ev = .ref e ∧ E' Cv none H' ∧ Inv X pins σ' H0 sc ∧ Cau X.prog X.w X.stack H0 sc e Cv H' s'
theorem passT {E' : XK} : Passes (CX1 X.prog X.w) (X.tried (X.pn ++ pins) (Thrown X pins E')) E' := by
  intro pins' σ1 H1 s1 ev s2 I h
  obtain ⟨e, Cv, H', rfl, c, hE⟩ := h
  exact ⟨e, Cv, H', σ1, H1, s1, rfl, hE, inv_untry I, c⟩
/-- try: body; except C: suite -/
def tTry (E' : XK) (C : Addr) (n : Nat) (tb ts : TS) : TS := fun D σ H => tb D σ H ∧ ∀ Cv σ' H', E' Cv none H' → σ'.length = n → Cv = .ref C ∧ ts D σ' H'
theorem ps_try {x : Str} {C : Addr} {body : List Stmt} {b₀ : Stmt} {suite : List Stmt} {np hpos pos : Pos} {tb ts : TS} {E' : XK} (c : ExcC X.K X.mg x C) (hg : Gl X x) (hst : X.stack = X.env :: X.outer) (hfr : X.env.frame = some X.env.locals)
    (hxe : X.xe = fun _ _ => False) (hb : ∀ pn xe, Passes (CX1 X.prog X.w) (X.tried pn xe) E' → PSs (X.tried pn xe) body tb) (hs : ∀ ev, PSs (X.marked ev) (b₀ :: suite) ts) (hd : (x == ("__debug__" : Str)) = false := by decide) :
    PS X (.Try body [.ExceptHandler (some (.Name x np)) none (b₀ :: suite) hpos] [] [] pos) (tTry E' C X.N.length tb ts) := by
  intro pins s σ H D I h
  obtain ⟨h1, h2⟩ := h
  refine wpAny_Try_except (wpAny_mono (hb _ _ passT [] s σ H D (inv_try I (Thrown X pins E')) h1) (fun fl s1 q => ?_) fun ev s1 q => ?_)
  · have q := sp_untry q
    cases fl with
    | next =>
      obtain ⟨σ', H', I', q⟩ := q
      exact wpAny_execs_nil ⟨σ', H', I', q⟩
    | brk => exact q
    | cont => exact q
    | ret u => exact q
  · obtain ⟨e, Cv, H', σ', H0, sc, rfl, hE, I0, ⟨os, bare, un, hok, B, a0, fl, br⟩⟩ := q
    have st0 := fl.1
    have hfr' : X.A.frames = some (X.env :: X.outer) := by rw [← hst]; exact I.ok.frames
    rw [hst] at fl
    refine wpAny_looks_onW hfr' hfr fl fun h₄ held₄ sl₄ => ?_
    refine wpAny_landsW held₄ fun h₅ fl₅ sl₅ => ?_
    have I5 : Inv X pins σ' H' { s1 with heap := h₅ } := inv_fly I0 os bare un hok br fl₅.1 (sl₄.trans sl₅)
    have hlen : σ'.length = X.N.length := I0.len
    obtain ⟨rfl, hts⟩ := h2 Cv σ' H' hE hlen
    obtain ⟨ob, hob, hobc⟩ := fl₅.there
    refine wpAny_handleBy_cons (codeAny_handlers_test (ld_glob (inv_mark I5 (.ref e)) hg c.m ?_ hd)) (by intro q; cases q)
    obtain ⟨bm, Nn, nm, qn, bs, hdct, sn, sub, ab, col, dd, k0, k1, k2, k3, k5, mN, hC, hN, hni, TL⟩ := (own_of I5.kIn c).obj
    refine wpAny_excMatches_sub_self hC hob hobc (TL.hasType PySem.F.excBase_ValueError.hasBase) (codeAny_handlers_suite ?_)
    refine lands_againW fl₅ fun h₆ fl₆ sl₆ => ?_
    have I6 : Inv X pins σ' H' { s1 with heap := h₆ } := inv_fly I0 os bare un hok br fl₆.1 ((sl₄.trans sl₅).trans sl₆)
    refine wpAny_mono (hs (.ref e) pins { s1 with heap := h₆ } σ' H' D (inv_mark I6 (.ref e)) hts) (fun fl s2 q => sp_unmark I.ok q) fun ev s2 q => ?_
    have q' : X.xe ev s2 := q
    rw [hxe] at q'
    exact q'.elim
end
end L4

set_option Elab.async false
set_option linter.all false
set_option maxRecDepth 100000
set_option maxHeartbeats 4000000
namespace L5
open PySem PySem.Spec PyProof.Rows L2 L3 L4
theorem test_iff {m n : P2} : (if false = true then !decide (m = n) else decide (m = n)) = true ↔ m = n := by simp
theorem kind4 {v : V} (h : v = .int (-2) ∨ v = .int (-1) ∨ v = .int 2 ∨ v = .int 3) : ∃ k, v = .int k ∧ TF.Kind k := by
  rcases h with rfl | rfl | rfl | rfl
  · exact ⟨_, rfl, .inl rfl⟩
  · exact ⟨_, rfl, .inr (.inl rfl)⟩
  · exact ⟨_, rfl, .inr (.inr (.inl rfl))⟩
  · exact ⟨_, rfl, .inr (.inr (.inr rfl))⟩
theorem at2 {α : Type} (x y : α) (i : Int) : ∃ v, atI [x, y] (i % 2) = some v ∧ (v = x ∨ v = y) := by
  rcases Int.emod_two_eq i with e | e <;> rw [e]
  · exact ⟨x, rfl, .inl rfl⟩
  · exact ⟨y, rfl, .inr rfl⟩
theorem at4 {α : Type} (x y z u : α) (i : Int) : ∃ v, atI [x, y, z, u] (i % 4) = some v ∧ (v = x ∨ v = y ∨ v = z ∨ v = u) := by
  have h : i % 4 = 0 ∨ i % 4 = 1 ∨ i % 4 = 2 ∨ i % 4 = 3 := by omega
  rcases h with e | e | e | e <;> rw [e]
  · exact ⟨x, rfl, .inl rfl⟩
  · exact ⟨y, rfl, .inr (.inl rfl)⟩
  · exact ⟨z, rfl, .inr (.inr (.inl rfl))⟩
  · exact ⟨u, rfl, .inr (.inr (.inr rfl))⟩
theorem mul_law (k : Int) (x y : P2) : ((x.1 * y.1 + x.2 * y.2 * k, x.2 * y.1 + x.1 * y.2) : P2) = TF.mul k x y := by
  apply TF.ext <;> simp only [TF.mul] <;> grind
theorem conj_law (x : P2) : ((x.1, 0 - x.2) : P2) = TF.conj x := by
  apply TF.ext <;> simp only [TF.conj] <;> omega
theorem _root_.L3.FiN.conj {x : P2} (h : FiN x) : FiN (TF.conj x) := ⟨h.1, intBits_neg_le h.2⟩
/-- what a division asks of its numbers -/
structure DivOk (k : Int) (x y : P2) : Prop where
  hk : TF.Kind k
  hx : Bd (2 ^ 1000) x
  hy : Bd (2 ^ 1000) y
  ne : y ≠ (0, 0)
theorem DivOk.fx {k : Int} {x y : P2} (d : DivOk k x y) : FiN x := d.hx.fi (n := 1001) (Nat.pow_lt_pow_right (by decide) (by decide)) (by decide)
theorem DivOk.fy {k : Int} {x y : P2} (d : DivOk k x y) : FiN y := d.hy.fi (n := 1001) (Nat.pow_lt_pow_right (by decide) (by decide)) (by decide)
theorem _root_.L3.Bd.nm {k : Int} (hk : TF.Kind k) {m : Nat} {x : P2} (hx : Bd m x) : (TF.nm k x).natAbs ≤ 4 * (m * m) := by
  have h := (hx.mul hk hx.conj).1
  rw [TF.mul_conj] at h
  exact h
theorem DivOk.nz {k : Int} {x y : P2} (d : DivOk k x y) : TF.nm k y ≠ 0 := fun h => d.ne ((TF.nm_zero d.hk).mp h)
theorem DivOk.small {k : Int} {x y : P2} (d : DivOk k x y) : (TF.nm k y).natAbs < 2 ^ 8000 := by
  have h := d.hy.nm d.hk
  have e : 4 * (2 ^ 1000 * 2 ^ 1000) = 2 ^ 2002 := by rw [← Nat.pow_add, show (4 : Nat) = 2 ^ 2 by rfl, ← Nat.pow_add]
  rw [e] at h
  exact Nat.lt_of_le_of_lt h (Nat.pow_lt_pow_right (by decide) (by decide))
theorem log_ok {d : Int} (h0 : d ≠ 0) (h : d.natAbs < 2 ^ 8000) : 2 * d ≠ 0 ∧ (2 * d).natAbs.log2 < 9000 := by
  refine ⟨by omega, (Nat.log2_lt (by omega)).mpr ?_⟩
  have e : (2 : Nat) ^ 9000 = 2 ^ 8000 * 2 ^ 1000 := by rw [← Nat.pow_add]
  have e1 : (2 : Nat) ≤ 2 ^ 1000 := Nat.le_trans (by decide) (Nat.pow_le_pow_right (by decide) (show 1 ≤ 1000 by decide))
  rw [e]
  have := Nat.mul_le_mul_left (2 ^ 8000) e1
  generalize (2 : Nat) ^ 8000 = m at *
  generalize (2 : Nat) ^ 1000 = l at *
  omega
theorem DivOk.bq {k : Int} {x y : P2} (d : DivOk k x y) : Bd (2 ^ 2003) (TF.quo k x y) := by
  have h := d.hx.mul d.hk d.hy.conj
  have e : 4 * (2 ^ 1000 * 2 ^ 1000) = 2 ^ 2002 := by rw [← Nat.pow_add, show (4 : Nat) = 2 ^ 2 by rfl, ← Nat.pow_add]
  have e2 : 2 ^ 2003 = 2 ^ 2002 * 2 := Nat.pow_succ 2 2002
  have e3 : 1 ≤ 2 ^ 2002 := Nat.one_le_two_pow
  have h1 := TF.rnd_bd (p := (TF.mul k x (TF.conj y)).1) d.nz
  have h2 := TF.rnd_bd (p := (TF.mul k x (TF.conj y)).2) d.nz
  have h3 := h.1
  have h4 := h.2
  rw [e] at h3 h4
  unfold TF.quo Bd
  dsimp only
  rw [e2]
  generalize (2 : Nat) ^ 2002 = m at *
  omega
theorem DivOk.fq {k : Int} {x y : P2} (d : DivOk k x y) : FiN (TF.quo k x y) := d.bq.fi (n := 2004) (Nat.pow_lt_pow_right (by decide) (by decide)) (by decide)
theorem eq_of_test {m n : P2} (h : (if false = true then !decide (m = n) else decide (m = n)) = true) : m = n := by simpa using h
theorem ne_of_test {m n : P2} (h : (if false = true then !decide (m = n) else decide (m = n)) = false) : m ≠ n := by simpa using h
theorem add_neg (x y : P2) : TF.add x (-y.1, -y.2) = TF.sub x y := by
  apply TF.ext <;> simp only [TF.add, TF.sub] <;> omega
/-- a statement behind which one word is kept -/
def tJ (t : TS) : TS := fun D σ H => ∃ J : L2.St → Hp → Prop, (∀ σ H, J σ H → D.nx σ H) ∧ t { D with nx := J } σ H
theorem ps_J {X : Cx} {st : Stmt} {t : TS} (h : PS X st t) : PS X st (tJ t) := by
  intro pins s σ H D I q
  obtain ⟨J, hJ, q⟩ := q
  refine thn (h pins s σ H _ I q) fun f s1 z => ?_
  cases f with
  | next => obtain ⟨σ', H', I', z⟩ := z; exact ⟨σ', H', I', hJ _ _ z⟩
  | brk => exact z
  | cont => exact z
  | ret u => exact z
theorem _root_.L3.Bd.mono {m n : Nat} {x : P2} (h : Bd m x) (hm : m ≤ n) : Bd n x := ⟨Nat.le_trans h.1 hm, Nat.le_trans h.2 hm⟩
theorem _root_.L3.Bd.sub {m n : Nat} {x y : P2} (hx : Bd m x) (hy : Bd n y) : Bd (m + n) (TF.sub x y) := by
  obtain ⟨h1, h2⟩ := hx
  obtain ⟨h3, h4⟩ := hy
  unfold TF.sub Bd
  dsimp only
  omega
theorem DivOk.br {k : Int} {x y : P2} (d : DivOk k x y) : Bd (2 ^ 3006) (TF.rest k x y) := by
  have h := d.hx.sub (d.bq.mul d.hk d.hy)
  refine h.mono ?_
  have e : 4 * (2 ^ 2003 * 2 ^ 1000) = 2 ^ 3005 := by rw [← Nat.pow_add, show (4 : Nat) = 2 ^ 2 by rfl, ← Nat.pow_add]
  have e2 : 2 ^ 3006 = 2 ^ 3005 * 2 := Nat.pow_succ 2 3005
  have e3 : 2 ^ 1000 ≤ 2 ^ 3005 := Nat.pow_le_pow_right (by decide) (by decide)
  rw [e, e2]
  generalize (2 : Nat) ^ 3005 = m at *
  generalize (2 : Nat) ^ 1000 = l at *
  omega
theorem DivOk.fr {k : Int} {x y : P2} (d : DivOk k x y) : FiN (TF.rest k x y) := d.br.fi (n := 3007) (Nat.pow_lt_pow_right (by decide) (by decide)) (by decide)
theorem DivOk.fn {k : Int} {x y : P2} (d : DivOk k x y) : Fi (TF.nm k y) := fi_of d.small (by decide)
theorem fi_two {q : Int} (h : Fi q) {w : Int} (hw : Fi w) : IntMulOk (2 * q) w := .of_le (intBits_mul_le (show Builtin.Int.intBits 2 ≤ 2 by decide) h) hw (by decide)
theorem fi_two2 {p k : Nat} (h : p ≤ 2) : True := trivial
theorem nat2 {i : Nat} (h : i < 2) : i = 0 ∨ i = 1 := by omega
theorem sIxN {xs : List V} : True := trivial
theorem range4m {m : Nat} (h : m ≤ 63) : Builtin.Range.small 0 ((if (m : Int) < 32 then (m : Int) else 32) + 1) 4 = true ∧ Builtin.Range.rangeSize 0 ((if (m : Int) < 32 then (m : Int) else 32) + 1) 4 = ((Builtin.Range.rangeSize 0 ((if (m : Int) < 32 then (m : Int) else 32) + 1) 4).toNat : Int) := by
  have k : ∀ m : Nat, m < 64 → Builtin.Range.small 0 ((if (m : Int) < 32 then (m : Int) else 32) + 1) 4 = true ∧ Builtin.Range.rangeSize 0 ((if (m : Int) < 32 then (m : Int) else 32) + 1) 4 = ((Builtin.Range.rangeSize 0 ((if (m : Int) < 32 then (m : Int) else 32) + 1) 4).toNat : Int) := by decide +kernel
  exact k m (by omega)
theorem kit_str_str {K : PySem.W.Frag} : PySem.W.kitOne K (.type "str") (.type "str") = some true := by with_unfolding_all rfl
theorem bl_ne {b c : Bool} (h : b = c) : (!decide (V.bl b = V.bl c)) = false := by subst h; simp
end L5

set_option Elab.async false
set_option linter.all false
set_option maxRecDepth 100000
set_option maxHeartbeats 4000000
namespace L6
open PySem PySem.Spec PyProof.Rows L2 L3 L4 L5
/-! ### [elt for x in range(a)], what elt names besides x stands in cells -/
abbrev _root_.L2.Cx.comp (X : Cx) (sc : Scope) (cl : List (Str × Addr)) (C : Addr) (Nc : List Str) (s₀ : Shared) (H₀ : Hp) (fp : List Addr) (pn : List (Addr × Obj)) : Cx :=
  { X with env := compEnvC sc cl C X.env, N := Nc, s₀ := s₀, H₀ := H₀, outer := X.stack, ex := fp, fn := fun _ => false, pn := pn, xe := fun _ _ => False }
def tLCR (fx : List Nat) (ta : TA) (te : TE) : TE := fun σ H Q => ta σ H fun vs H1 => ∃ n : Nat, vs = [.int n] ∧ n < sizeLine ∧ ∃ (vals : List V) (W : Nat → List V → Hp → Prop), vals.length = fx.length ∧
  (∀ (j i : Nat) (v : V), fx[j]? = some i → vals[j]? = some v → σ[i]? = some (some v)) ∧ (∀ (i : Nat) xs Hc D ys zs, Hc D = some (.lst ys) → W i xs Hc → W i xs (upd Hc D (.lst zs))) ∧ (∀ H2, Same H1 H2 → W 0 [] H2) ∧
  (∀ (i : Nat) xs Hc, i < n → Same H1 Hc → W i xs Hc → te (some (.int i) :: vals.map some) Hc fun v H' => Same Hc H' ∧ W (i + 1) (xs ++ [v]) H') ∧
  (∀ p xs H', Same H1 H' → H1 p = none → H' p = some (.lst xs) → W n xs H' → Q (.ref p) H')
section
variable {X : Cx}
structure CompOk (X : Cx) (sc : Scope) (cl : List (Str × Addr)) (x : Str) (Nc : List Str) (fx : List Nat) : Prop where
  clos : closureFor sc X.env = pure cl
  sub : ∀ n c, cl.lookup n = some c → X.env.cells.lookup n = some c
  ncell : ∀ y ∈ sc.names, y.2 ≠ .cell
  kind : sc.kind = .function
  names : ∀ y ∈ sc.names, y.2 = .local → sc.names.lookup y.1 = some .local
  loc : sc.names.lookup x = some .local
  has : ∀ y, ((relabel sc X.env).names.lookup y = some .cell ∨ (relabel sc X.env).names.lookup y = some .free) → ∃ c, cl.lookup y = some c
  nd : Nc.Nodup
  head : Nc[0]? = some x
  len : Nc.length = fx.length + 1
  slot : ∀ (j i : Nat) (y : Str), fx[j]? = some i → Nc[j + 1]? = some y → X.N[i]? = some y ∧ X.env.kindOf y = some .cell ∧ (relabel sc X.env).names.lookup y = some .cell
theorem comp_start {sc : Scope} {cl : List (Str × Addr)} {x : Str} {Nc : List Str} {fx : List Nat} (ok : CompOk X sc cl x Nc fx) {pins : List (Addr × Obj)} {σ : L2.St} {H H3 : Hp} {s : Shared} {h1 : Heap} {tk : Nat} {m : Str → Option Value} {C : Addr} {fp : List Addr} {vals : List V}
    (I : Inv X pins σ H s) (hC : s.heap.objs.size ≤ C) (hns : h1.Ns C m) (hn3 : H3 C = none) (un : Un (frs X.stack) fp H H3 s.heap h1) (hk : ∀ b o, s.heap.get? b = some o → h1.get? b = some o) (hfree : ∀ b o, s.heap.get? b = some o → H b = none → H3 b = none) (hok : HOk X.prog X.w H3 h1) (hf : ∀ b ∈ fp, FpOk X pins H b) (hex : X.ex = [])
    (hl : vals.length = fx.length) (hv : ∀ (j i : Nat) (v : V), fx[j]? = some i → vals[j]? = some v → σ[i]? = some (some v)) (hlt : ∀ b ∈ fp, b < s.heap.objs.size) :
    Inv (X.comp sc cl C Nc s H fp (X.pn ++ pins)) [] (none :: vals.map some) H3 { s with heap := h1, toks := tk } := by
  have neC : ∀ b o, s.heap.get? b = some o → b ≠ C := fun b o e => Nat.ne_of_lt (Nat.lt_of_lt_of_le (Heap.lt_size e) hC)
  refine ⟨⟨I.ok.mod, ok.kind, I.ok.glob, I.ok.blt, hC, fun y z c h1 h2 => I.ok.inj y z c (ok.sub _ _ h1) (ok.sub _ _ h2), ok.has, (fun y c h _ => by cases h), I.ok.hd, I.ok.frames, .inl rfl, fun b hb => ⟨Nat.ne_of_lt (Nat.lt_of_lt_of_le (hlt b hb) hC), fun y c e => (hf b hb).2.2.2.2.1 y c (ok.sub _ _ e)⟩, I.bs, Nat.le_trans I.ok.bsz I.sz, fun b o e hb => ?_, fun b hb z => ?_, I.stack, I.stkFree⟩,
    rfl, I.bare, un, ⟨m, hns, fun i y v h1 h2 h3 => ?_⟩, fun y c e => ?_, hn3, fun y c e => ?_, fun p hp => ?_, hok, ?_⟩
  · rcases (hf b hb).2.2.2.1 with z | z
    · rw [hex] at z; cases z
    · exact absurd (Nat.lt_of_lt_of_le (Heap.lt_size e) (Nat.le_trans I.ok.bsz z)) (Nat.lt_irrefl _)
  · exact (List.mem_cons.mp (I.stkSub b z)).elim (hf b hb).2.1 (hf b hb).2.2.1
  · cases i with
    | zero => cases h2
    | succ j =>
      have hj : (vals.map some)[j]? = some (some v) := h2
      rw [List.getElem?_map] at hj
      cases e : vals[j]? with
      | none => rw [e] at hj; cases hj
      | some v' =>
        rw [e] at hj
        cases hj
        have hlt' : j < fx.length := by
          rw [← hl]
          exact (List.getElem?_eq_some_iff.mp e).1
        have ei : fx[j]? = some fx[j] := List.getElem?_eq_getElem hlt'
        obtain ⟨a1, a2, a3⟩ := ok.slot j _ y ei h1
        obtain ⟨m', hn', hl'⟩ := I.loc
        obtain ⟨u, r, lk⟩ := hl' _ y v a1 (hv j _ v ei e) (.inr (.inl a2))
        refine ⟨u, r, .inr ⟨.inl a3, ?_⟩⟩
        rcases lk with ⟨k1, _⟩ | ⟨_, c, c1, c2⟩
        · rw [a2] at k1; cases k1
        · obtain ⟨c', e'⟩ := ok.has y (.inl a3)
          have := ok.sub _ _ e'
          rw [c1] at this
          cases this
          exact ⟨c, e', c2.keeps hk⟩
  · obtain ⟨v, z⟩ := I.cell y c (ok.sub _ _ e)
    exact ⟨v, z.keeps hk⟩
  · obtain ⟨v, o, ho, _⟩ := I.cell y c (ok.sub _ _ e)
    exact hfree c o ho (I.freeC y c (ok.sub _ _ e))
  · rw [List.append_nil] at hp
    obtain ⟨e, n, ne, nf, d⟩ := I.pin p hp
    exact ⟨hk _ _ e, hfree _ _ e n, neC _ _ e, fun z => (List.mem_cons.mp (I.stkSub _ z)).elim ne nf, d⟩
  · show (none :: vals.map some).length = Nc.length
    rw [List.length_cons, List.length_map, hl, ok.len]
theorem comp_run {elt iter : Expr} {x : Str} {px pos : Pos} {sc : Scope} {te : TE} {cl : List (Str × Addr)} {Nc : List Str} {fx : List Nat} (hc : X.calm = true) (hex : X.ex = []) (ok : CompOk X sc cl x Nc fx)
    (he : ∀ s₀ H₀ C fp pn, PE (X.comp sc cl C Nc s₀ H₀ fp pn) elt te) {pins : List (Addr × Obj)} {σ : L2.St} {H1 : Hp} {s2 : Shared} {it : Addr} {n : Nat} {Q : VK} {vals : List V} {W : Nat → List V → Hp → Prop} (I : Inv X pins σ H1 s2) (hn : n < sizeLine)
    (st : IsRangeIter s2.heap it (0 + ((0 : Nat) : Int) * 1) ((n : Int) - ((0 : Nat) : Int)) 1) (hit : FpOk X pins H1 it) (hl : vals.length = fx.length) (hv : ∀ (j i : Nat) (v : V), fx[j]? = some i → vals[j]? = some v → σ[i]? = some (some v))
    (hst : ∀ (i : Nat) xs Hc D ys zs, Hc D = some (.lst ys) → W i xs Hc → W i xs (upd Hc D (.lst zs))) (h0 : ∀ H2, Same H1 H2 → W 0 [] H2)
    (step : ∀ (i : Nat) xs Hc, i < n → Same H1 Hc → W i xs Hc → te (some (.int i) :: vals.map some) Hc fun v H' => Same Hc H' ∧ W (i + 1) (xs ++ [v]) H')
    (fin : ∀ p xs H', Same H1 H' → H1 p = none → H' p = some (.lst xs) → W n xs H' → Q (.ref p) H') :
    wpAny (model X.prog X.w) X.A (newList []) (fun acc s₃ => wpAny (model X.prog X.w) X.A (newFunctionEnv sc X.env.globals cl [] X.env.qual none .none (some X.env)) (fun cenv s₄ =>
      codeAny (model X.prog X.w) X.A (.compStart (.ListComp elt [⟨.Name x px, iter, [], 0⟩] sc pos) 0 (.ref it) acc { cenv with scope := relabel sc X.env }) (compPost (model X.prog X.w) X.A X.xe none (EP X pins σ Q) acc cenv.locals) s₄) X.xe s₃) X.xe s2 := by
  refine wpAny_newObj_type (wpAny_newFunctionEnv ok.ncell (by intro y hy; simp at hy) (fun h₁ hns₁ hsb₁ => ?_) ok.kind)
  dsimp only at hns₁ hsb₁ ⊢
  generalize hH2 : s2.heap.push { cls := .type "list", dict := none, data := .seq ([] : List Value).toArray } = H2 at hns₁ hsb₁ ⊢
  have hC : H2.objs.size = s2.heap.objs.size + 1 := by rw [← hH2, Heap.size_push]
  have hDC : s2.heap.objs.size ≠ H2.objs.size := by rw [hC]; exact Nat.ne_of_lt (Nat.lt_succ_self _)
  have hCle : s2.heap.objs.size ≤ H2.objs.size := by rw [hC]; exact Nat.le_succ _
  have below : ∀ b, b < s2.heap.objs.size → b ≠ H2.objs.size ∧ b ≠ s2.heap.objs.size := fun b hb => ⟨by rw [hC]; exact Nat.ne_of_lt (Nat.lt_succ_of_lt hb), Nat.ne_of_lt hb⟩
  have old : ∀ b o, s2.heap.get? b = some o → h₁.get? b = some o := fun b o e => hsb₁.extBut b o (below b (Heap.lt_size e)).1 (Heap.get?_push_of_some _ (hH2 ▸ Heap.get?_push_of_some _ e))
  have hacc : h₁.get? s2.heap.objs.size = some { cls := .type "list", data := .seq ([] : List Value).toArray } := hsb₁.extBut _ _ hDC (Heap.get?_push_of_some _ (hH2 ▸ Heap.get?_push_size _ rfl))
  have fD : H1 s2.heap.objs.size = none := I.hok.fresh (Nat.le_refl _)
  have fC : H1 H2.objs.size = none := I.hok.fresh hCle
  have itlt : it < s2.heap.objs.size := Heap.lt_size st
  have hok1 : HOk X.prog X.w (upd H1 s2.heap.objs.size (.lst [])) h₁ := I.hok.laid old (Nat.le_refl _) ⟨Nat.zero_le _, [], 0, .nil, hacc⟩
  have I0 := comp_start (tk := s2.toks + ([] : List (Str × Value)).length) (C := H2.objs.size) (fp := [it]) (H3 := upd H1 s2.heap.objs.size (.lst [])) ok I hCle hns₁ (by rw [upd_ne hDC.symm]; exact fC) (Un.laid old (Nat.le_refl _) fD) old
    (fun b o e nb => by rw [upd_ne (below b (Heap.lt_size e)).2]; exact nb) hok1 (fun b hb => by obtain rfl := List.mem_singleton.mp hb; exact hit) hex hl hv (fun b hb => by obtain rfl := List.mem_singleton.mp hb; exact itlt)
  have st1 : IsRangeIter h₁ it (0 + ((0 : Nat) : Int) * 1) ((n : Int) - ((0 : Nat) : Int)) 1 := old _ _ st
  have WR := Walks.range (prog := X.prog) (w := X.w) (I.ok.hd hc) it 0 1 n
  have hitc : ∀ {pns : List (Addr × Obj)} {Hc : Hp}, Hc it = none → (∀ p ∈ pns, p.1 ≠ it) → FpOk (X.comp sc cl H2.objs.size Nc s2 H1 [it] (X.pn ++ pins)) pns Hc it := fun {pns Hc} h1 h2 =>
    ⟨h1, (below it itlt).1, fun z => (List.mem_cons.mp (I.stkSub it z)).elim hit.2.1 hit.2.2.1, .inl (List.mem_singleton.mpr rfl), fun y c e => hit.2.2.2.2.1 y c (ok.sub _ _ e), fun p hp => (List.mem_append.mp hp).elim (fun z => hit.2.2.2.2.2 p z) (h2 p)⟩
  have loop : ∀ s₃ : Shared, s₃ = { s2 with heap := h₁, toks := s2.toks + ([] : List (Str × Value)).length } →
      codeAny (model X.prog X.w) X.A (.compLoop (.ListComp elt [⟨.Name x px, iter, [], 0⟩] sc pos) 0 (.ref it) (.ref s2.heap.objs.size) (compEnvC sc cl H2.objs.size X.env))
        (compPost (model X.prog X.w) X.A X.xe none (EP X pins σ Q) (.ref s2.heap.objs.size) H2.objs.size) s₃ := by
    rintro s₃ rfl
    refine codeAny_compLoop_list (fun k s => ∃ (i : Nat) (o : Option V) (xs : List V) (Hc : Hp), k = n - i ∧ i ≤ n ∧ xs.length = i ∧ Inv (X.comp sc cl H2.objs.size Nc s2 H1 [it] (X.pn ++ pins)) [] (o :: vals.map some) Hc s ∧ IsRangeIter s.heap it (0 + (i : Int) * 1) ((n : Int) - (i : Int)) 1 ∧ Hc it = none ∧ Hc s2.heap.objs.size = some (.lst xs) ∧ Same H1 Hc ∧ W i xs Hc) ?_ n
      ⟨0, none, [], _, rfl, Nat.zero_le _, rfl, I0, st1, by rw [upd_ne (below it itlt).2]; exact hit.1, upd_same, Same.up fD, h0 _ (Same.up fD)⟩
    rintro k s3 ⟨i, o, xs, Hc, rfl, hi, hxl, Ic, st3, fi, hD, sm, w⟩
    by_cases hlt : i < n
    · refine WR.item i s3 _ _ hlt st3 fun v h' tk hv' st' kk => ?_
      obtain ⟨t, rfl⟩ := hv'
      obtain ⟨f0, f1, f2, f3, f4, f5⟩ := hitc (pns := []) fi (fun _ z => nomatch z)
      have I4 : Inv (X.comp sc cl H2.objs.size Nc s2 H1 [it] (X.pn ++ pins)) [] (o :: vals.map some) Hc { s3 with heap := h', toks := tk } := Ic.turned (fun b o hb e => kk b o (by simpa using hb) e) f0 f1 f3 f4 f5
      have I4p := I4.pinned (fp := [it]) (fun b hb => by obtain rfl := List.mem_singleton.mp hb; exact hitc fi (fun _ z => nomatch z)) (fun b hb => by
        obtain rfl := List.mem_singleton.mp hb
        exact ⟨_, st', fun v z => by
          have z' : Data.fields _ = Data.cell v := z
          cases z'⟩)
      show wpAny _ _ (assign (.Name x px) _ _) _ _ _
      refine wpAny_assign_Name (store_ok (X := X.comp sc cl H2.objs.size Nc s2 H1 [it] (X.pn ++ pins)) (v := .int (0 + (i : Int) * 1)) I4p ok.nd ok.head (.inl (lookup_relabel_local ok.loc)) ⟨t, rfl⟩ (fun s5 I5 => ?_) (.inr (lookup_relabel_local ok.loc)))
      have ei : (0 + (i : Int) * 1) = (i : Int) := by omega
      have I5' : Inv (X.comp sc cl H2.objs.size Nc s2 H1 [it] (X.pn ++ pins)) ([] ++ pinsAt [it] h') (some (.int (i : Int)) :: vals.map some) Hc s5 := by
        have z := I5
        rw [ei] at z
        exact z
      refine wpAny_mono (he s2 H1 H2.objs.size [it] (X.pn ++ pins) _ s5 _ Hc _ I5' (step i xs Hc hlt sm w)) (fun u s6 q6 => ?_) (fun _ _ z => z.elim)
      obtain ⟨y, H6, I6, r6, sm6, w6⟩ := q6
      have hD6 := sm6 _ _ hD
      refine wpAny_mono (mt_append (X := X.comp sc cl H2.objs.size Nc s2 H1 [it] (X.pn ++ pins)) _ s6 _ H6 (.ref s2.heap.objs.size) [y] (.ref s2.heap.objs.size) [u] (fun v H7 => v = .non ∧ H7 = upd H6 s2.heap.objs.size (.lst (xs ++ [y]))) I6 rfl (.cons r6 .nil) ⟨_, xs, y, rfl, rfl, hD6, by omega, rfl, rfl⟩) (fun u7 s7 q7 => ?_) (fun _ _ z => z.elim)
      obtain ⟨v7, H7, I7, r7, rfl, rfl⟩ := q7
      have pin7 := I7.pin (it, _) (List.mem_append_right _ (mem_pinsAt (List.mem_singleton.mpr rfl) st'))
      refine ⟨n - (i + 1), by omega, i + 1, _, xs ++ [y], _, rfl, hlt, by rw [List.length_append, hxl]; rfl, I7.unpinned (pins := []), ?_, pin7.2.1, upd_same, ?_, hst _ _ _ _ _ _ hD6 w6⟩
      · exact pin7.1
      · intro b u e
        rw [upd_ne (ne_of_none e fD)]
        exact sm6 _ _ (sm _ _ e)
    · have e : i = n := by omega
      subst e
      refine WR.done s3 _ _ st3 fun h' tk kk => ?_
      obtain ⟨f0, f1, f2, f3, f4, f5⟩ := hitc (pns := []) fi (fun _ z => nomatch z)
      have I4 : Inv (X.comp sc cl H2.objs.size Nc s2 H1 [it] (X.pn ++ pins)) [] (o :: vals.map some) Hc { s3 with heap := h', toks := tk } := Ic.turned (fun b o hb e => kk b o (by simpa using hb) e) f0 f1 f3 f4 f5
      obtain ⟨m4, hn4, _⟩ := id I4.loc
      refine ⟨m4, hn4, fun h'' sb => ?_⟩
      have kp : ∀ b o, b ≠ H2.objs.size → h'.get? b = some o → h''.get? b = some o := fun b o hb e => (sb.2 b hb).trans e
      have hokc : HOk X.prog X.w Hc h'' := fun b u e => by
        refine (I4.hok b u e).stay (fun c v hc q => kp c v ?_ q) (fun _ q => q) fun _ _ q => q
        have hfc : Hc H2.objs.size = none := I4.free
        rintro rfl
        rcases hc with z | z
        · rw [← z, hfc] at e; cases e
        · rw [hfc] at z; cases z
      have un4 : Un (frs X.stack) [it] H1 Hc s2.heap h' := I4.base
      have neC : ∀ b o, s2.heap.get? b = some o → b ≠ H2.objs.size := fun b o e => (below b (Heap.lt_size e)).1
      have un5 : Un (frs X.stack) [it] H1 Hc s2.heap h'' := ⟨fun b o e nb hb hx => kp b o (neC b o e) (un4.keep b o e nb hb hx), fun b o e nb hb hx => by
        obtain ⟨sl, e1⟩ := un4.slot b o e nb hb hx
        exact ⟨sl, kp b _ (neC b o e) e1⟩, un4.free, fun b o e hx => by
        obtain ⟨o', e1⟩ := un4.there b o e hx
        exact ⟨o', kp b _ (neC b o e) e1⟩, un4.tups, un4.frzs, un4.tbls⟩
      have I9 : Inv X pins σ Hc { s3 with heap := h'', toks := tk } := I.call' (s' := { s3 with heap := h'', toks := tk }) (ch := [it]) I4.os un5 hokc I4.bare (fun b hb => by
        obtain rfl := List.mem_singleton.mp hb
        exact ⟨hit.2.2.2.1, hit.2.1, hit.2.2.2.2.1, hit.2.2.2.2.2⟩)
      exact ⟨.ref s2.heap.objs.size, Hc, I9, rfl, fin _ xs Hc sm fD hD w⟩
  exact codeAny_compStart_list (loop _ rfl) (WR.self 0 _ _ _ st1 (loop _ rfl))
theorem pe_lcr {elt a : Expr} {x : Str} {px p rpos pos : Pos} {sc : Scope} {ta : TA} {te : TE} {cl : List (Str × Addr)} {Nc : List Str} {fx : List Nat} (hg : Gl X "range") (hm : X.mg "range" = none) (hc : X.calm = true) (hex : X.ex = [])
    (ha : PA X [a] ta) (ok : CompOk X sc cl x Nc fx) (he : ∀ s₀ H₀ C fp pn, PE (X.comp sc cl C Nc s₀ H₀ fp pn) elt te) (hs : starEach [a] X.env = [(false, eval a X.env)] := by rfl)
    (hfs : ∀ v, foldedSetIterable (.Call (.Name "range" p) [a] [] rpos) X.env v = pure v := by intro _; rfl) :
    PE X (.ListComp elt [⟨.Name x px, .Call (.Name "range" p) [a] [] rpos, [], 0⟩] sc pos) (tLCR fx ta te) := by
  intro pins s σ H Q I h
  rw [eval_ListComp]
  refine wpAny_comprehension_free (use := none) rfl hfs ok.clos ok.kind ok.names ?_
  show wpAny _ _ (eval (.Call (.Name "range" p) [a] [] rpos) X.env) _ _ s
  refine Call_ (ld_blt I hg hm boot_range (PyProof.Rows.callWith_type1 (thn (ha rpos pins s σ H _ I h) fun us s1 ⟨vs, H1, I1, r1, q1⟩ => ?_) hs rfl))
  obtain ⟨n, e, hn, vals, W, hl, hv, hst, h0, step, fin⟩ := q1
  subst e
  obtain ⟨u, rfl, t, rfl⟩ := vals1 r1
  have hs16 : sizeLine = 16777216 := sizeLine_eq
  refine call_range_1 ?_
  refine wpAny_pyIter_range (IsRange.new ..) (small_one (by omega) (by omega) (by omega) (by omega)) ?_
  have Ia : ∀ tk, Inv X pins σ H1 { s1 with heap := s1.heap.push { cls := .type "range", data := .fields #[.int 0 s1.toks, .int n t, .int 1 (s1.toks + 1)] }, toks := tk } := fun tk => I1.kept fun b o e => Heap.get?_push_of_some _ e
  dsimp only
  refine comp_run hc hex ok he (W := W) (n := n) ?_ hn ?_ ?_ hl hv hst h0 step fin
  · exact (Ia 0).kept fun b o e => Heap.get?_push_of_some _ e
  · have e1 : (0 : Int) + ((0 : Nat) : Int) * 1 = 0 := by simp
    have e2 : (n : Int) - ((0 : Nat) : Int) = Builtin.Range.rangeSize 0 n 1 := by rw [rangeSize_one]; split <;> omega
    rw [e1, e2]
    exact Heap.get?_push_size _ rfl
  · exact (Ia 0).fpOk (Nat.le_refl _) (I1.hok.fresh (by rw [Heap.size_push]; exact Nat.le_succ _))
end
theorem ix_tupK {X : Cx} {K : PySem.W.Frag} (h : X.K = K) : IxR X (rIxT K) := by subst h; exact ix_tup
end L6

set_option Elab.async false
set_option linter.all false
set_option maxRecDepth 100000
set_option maxHeartbeats 4000000
set_option exponentiation.threshold 300
namespace L7
open PySem PySem.Spec PyProof.Rows L2 L3 L4 L5 L6
theorem rnd_half {p w : Int} (hw : w ≠ 0) : 2 * (p - TF.rnd p w * w).natAbs ≤ w.natAbs := by
  rcases Int.lt_or_gt_of_ne hw with h | h
  · obtain ⟨h1, h2⟩ := TF.rnd_neg_lt (p := p) h
    omega
  · obtain ⟨h1, h2⟩ := TF.rnd_pos (p := p) h
    omega
theorem half_bd {e f c d N r : Int} {m : Nat} {k : Int} (hk : TF.Kind k) (hN : N ≠ 0) (he : 2 * e.natAbs ≤ N.natAbs) (hf : 2 * f.natAbs ≤ N.natAbs) (hc : c.natAbs ≤ m) (hd : d.natAbs ≤ m) (h : r * N = e * c + k * (f * d)) : r.natAbs ≤ 2 * m := by
  have h1 := congrArg Int.natAbs h
  rw [Int.natAbs_mul] at h1
  have h2 : (e * c + k * (f * d)).natAbs ≤ (e * c).natAbs + 3 * (f * d).natAbs := by
    generalize e * c = a
    generalize f * d = b
    rcases hk with rfl | rfl | rfl | rfl <;> omega
  rw [Int.natAbs_mul, Int.natAbs_mul] at h2
  have h3 := Nat.mul_le_mul he hc
  have h4 := Nat.mul_le_mul hf hd
  have h5 : 2 * (r.natAbs * N.natAbs) ≤ 4 * (N.natAbs * m) := by
    rw [h1]
    have e1 : 2 * e.natAbs * c.natAbs = 2 * (e.natAbs * c.natAbs) := Nat.mul_assoc _ _ _
    have e2 : 2 * f.natAbs * d.natAbs = 2 * (f.natAbs * d.natAbs) := Nat.mul_assoc _ _ _
    rw [e1] at h3
    rw [e2] at h4
    generalize e.natAbs * c.natAbs = A at *
    generalize f.natAbs * d.natAbs = B at *
    generalize N.natAbs * m = M at *
    omega
  have h6 : r.natAbs * N.natAbs ≤ (2 * m) * N.natAbs := by
    have e3 : 2 * m * N.natAbs = 2 * (N.natAbs * m) := by rw [Nat.mul_assoc, Nat.mul_comm m]
    rw [e3]
    omega
  exact Nat.le_of_mul_le_mul_right h6 (by omega)
theorem rest_bd {k : Int} (hk : TF.Kind k) (x : P2) {y : P2} {m : Nat} (hy : y ≠ (0, 0)) (hb : Bd m y) : Bd (2 * m) (TF.rest k x y) := by
  have hn : TF.nm k y ≠ 0 := fun h => hy ((TF.nm_zero hk).mp h)
  have e := TF.rest_conj k x y
  have h1 := rnd_half (p := (TF.mul k x (TF.conj y)).1) hn
  have h2 := rnd_half (p := (TF.mul k x (TF.conj y)).2) hn
  have e3 : TF.mul k (TF.mul k (TF.rest k x y) (TF.conj y)) y = ((TF.rest k x y).1 * TF.nm k y, (TF.rest k x y).2 * TF.nm k y) := by
    rw [TF.mul_assoc, TF.mul_comm k (TF.conj y), TF.mul_conj]
    apply TF.ext <;> simp only [TF.mul] <;> grind
  rw [e] at e3
  have e1 : (TF.quo k x y).1 = TF.rnd (TF.mul k x (TF.conj y)).1 (TF.nm k y) := rfl
  have e2 : (TF.quo k x y).2 = TF.rnd (TF.mul k x (TF.conj y)).2 (TF.nm k y) := rfl
  rw [e1, e2] at e3
  generalize (TF.mul k x (TF.conj y)).1 - TF.rnd (TF.mul k x (TF.conj y)).1 (TF.nm k y) * TF.nm k y = u at *
  generalize (TF.mul k x (TF.conj y)).2 - TF.rnd (TF.mul k x (TF.conj y)).2 (TF.nm k y) * TF.nm k y = v at *
  generalize TF.rest k x y = r at *
  have a1 := congrArg Prod.fst e3
  have a2 := congrArg Prod.snd e3
  simp only [TF.mul] at a1 a2
  constructor
  · refine half_bd hk hn h1 h2 hb.1 hb.2 ?_
    rw [← a1]
    grind
  · refine half_bd (k := -1) (.inr (.inl rfl)) hn h1 (f := -v) (by rw [Int.natAbs_neg]; exact h2) hb.2 hb.1 ?_
    rw [← a2]
    grind
/-- the two rows of the division with factors, behind t turns -/
structure Euc (k : Int) (x y : P2) (t : Nat) (u0 u1 u2 l0 l1 l2 : P2) : Prop where
  ht : t ≤ 241
  eu : u0 = TF.add (TF.mul k u1 x) (TF.mul k u2 y)
  el : l0 = TF.add (TF.mul k l1 x) (TF.mul k l2 y)
  dv : ∀ d, TF.Goes k d u0 → TF.Goes k d l0 → TF.Goes k d x ∧ TF.Goes k d y
  nl : 4 ^ t * (TF.nm k l0).natAbs ≤ 3 ^ t * 2 ^ 94
  bu : Bd (2 ^ t * 2 ^ 46) u0
  bl : Bd (2 ^ t * 2 ^ 46) l0
  c1 : Bd (2 ^ (578 * t)) u1
  c2 : Bd (2 ^ (578 * t)) u2
  c3 : Bd (2 ^ (578 * t)) l1
  c4 : Bd (2 ^ (578 * t)) l2
theorem turns_few {t n : Nat} (h : 4 ^ t * n ≤ 3 ^ t * 2 ^ 94) (hn : 0 < n) : t ≤ 240 := by
  refine Nat.le_of_not_lt fun hlt => ?_
  obtain ⟨j, rfl⟩ : ∃ j, t = 240 + j := ⟨t - 240, by omega⟩
  have a : (3 : Nat) ^ 240 * 2 ^ 94 < 4 ^ 240 := by decide +kernel
  have b : (3 : Nat) ^ j ≤ 4 ^ j := Nat.pow_le_pow_left (by decide) j
  have c : 0 < (4 : Nat) ^ j := Nat.pow_pos (by decide)
  rw [Nat.pow_add, Nat.pow_add] at h
  have h1 : 4 ^ 240 * 4 ^ j ≤ 3 ^ 240 * 3 ^ j * 2 ^ 94 := Nat.le_trans (Nat.le_mul_of_pos_right _ hn) h
  have e : 3 ^ 240 * 3 ^ j * 2 ^ 94 = 3 ^ 240 * 2 ^ 94 * 3 ^ j := by rw [Nat.mul_assoc, Nat.mul_comm (3 ^ j), ← Nat.mul_assoc]
  rw [e] at h1
  have h2 := Nat.mul_le_mul_left (3 ^ 240 * 2 ^ 94) b
  have h3 := Nat.mul_lt_mul_of_pos_right a c
  omega
theorem nl_step {t n r B : Nat} (h1 : 4 * r ≤ 3 * n) (h2 : 4 ^ t * n ≤ 3 ^ t * B) : 4 ^ (t + 1) * r ≤ 3 ^ (t + 1) * B := by
  have e1 : 4 ^ (t + 1) * r = 4 ^ t * (4 * r) := by rw [Nat.pow_succ, Nat.mul_assoc]
  have e2 : 3 ^ (t + 1) * B = 3 * (3 ^ t * B) := by rw [Nat.pow_succ, Nat.mul_comm (3 ^ t) 3, Nat.mul_assoc]
  have h3 := Nat.mul_le_mul_left (4 ^ t) h1
  have e3 : 4 ^ t * (3 * n) = 3 * (4 ^ t * n) := by rw [← Nat.mul_assoc, Nat.mul_comm (4 ^ t) 3, Nat.mul_assoc]
  rw [e1, e2]
  rw [e3] at h3
  generalize 4 ^ t * n = A at *
  generalize 3 ^ t * B = C at *
  omega
theorem pw1 {t B : Nat} : 2 ^ t * B ≤ 2 ^ (t + 1) * B := by
  rw [Nat.pow_succ, Nat.mul_assoc]
  exact Nat.mul_le_mul_left _ (by omega)
theorem pw2 {t B : Nat} : 2 * (2 ^ t * B) ≤ 2 ^ (t + 1) * B := by
  rw [Nat.pow_succ, Nat.mul_comm (2 ^ t) 2, Nat.mul_assoc]
  exact Nat.le_refl _
theorem Euc.step {k : Int} (hk : TF.Kind k) {x y : P2} {t : Nat} {u0 u1 u2 l0 l1 l2 : P2} (E : Euc k x y t u0 u1 u2 l0 l1 l2) (hl : l0 ≠ (0, 0)) :
    DivOk k u0 l0 ∧ FiN l1 ∧ FiN l2 ∧ FiN l0 ∧ Euc k x y (t + 1) l0 l1 l2 (TF.rest k u0 l0) (TF.sub u1 (TF.mul k (TF.quo k u0 l0) l1)) (TF.sub u2 (TF.mul k (TF.quo k u0 l0) l2)) := by
  have hn : TF.nm k l0 ≠ 0 := fun h => hl ((TF.nm_zero hk).mp h)
  have ht := turns_few E.nl (by omega)
  have hm : 2 ^ t * 2 ^ 46 ≤ 2 ^ 286 := by
    rw [← Nat.pow_add]
    exact Nat.pow_le_pow_right (by decide) (by omega)
  have b0 := E.bu.mono hm
  have b1 := E.bl.mono hm
  have d : DivOk k u0 l0 := ⟨hk, b0.mono (Nat.pow_le_pow_right (by decide) (by decide)), b1.mono (Nat.pow_le_pow_right (by decide) (by decide)), hl⟩
  have hq : Bd (2 ^ 575) (TF.quo k u0 l0) := by
    have h := b0.mul hk b1.conj
    have e : 4 * (2 ^ 286 * 2 ^ 286) = 2 ^ 574 := by rw [← Nat.pow_add, show (4 : Nat) = 2 ^ 2 by rfl, ← Nat.pow_add]
    have e2 : 2 ^ 575 = 2 ^ 574 * 2 := Nat.pow_succ 2 574
    have e3 : 1 ≤ 2 ^ 574 := Nat.one_le_two_pow
    have h1 := TF.rnd_bd (p := (TF.mul k u0 (TF.conj l0)).1) hn
    have h2 := TF.rnd_bd (p := (TF.mul k u0 (TF.conj l0)).2) hn
    have h3 := h.1
    have h4 := h.2
    rw [e] at h3 h4
    unfold TF.quo Bd
    dsimp only
    rw [e2]
    generalize (2 : Nat) ^ 574 = m at *
    omega
  have coef : ∀ {a b : P2}, Bd (2 ^ (578 * t)) a → Bd (2 ^ (578 * t)) b → Bd (2 ^ (578 * (t + 1))) (TF.sub a (TF.mul k (TF.quo k u0 l0) b)) := fun {a b} ha hb => by
    refine (ha.sub (hq.mul hk hb)).mono ?_
    have e1 : 578 * (t + 1) = 578 * t + 578 := by omega
    rw [e1, Nat.pow_add]
    have e2 : 4 * (2 ^ 575 * 2 ^ (578 * t)) = 2 ^ 577 * 2 ^ (578 * t) := by
      rw [← Nat.mul_assoc]
      congr 1
    have e3 : (2 : Nat) ^ 578 = 2 * 2 ^ 577 := by rw [Nat.pow_succ, Nat.mul_comm]
    have e4 : 2 ^ (578 * t) ≤ 2 ^ 577 * 2 ^ (578 * t) := Nat.le_mul_of_pos_left _ (Nat.two_pow_pos _)
    rw [e2, Nat.mul_comm (2 ^ (578 * t)), e3, Nat.mul_assoc]
    generalize 2 ^ 577 * 2 ^ (578 * t) = m at *
    omega
  have up : ∀ {a : P2}, Bd (2 ^ (578 * t)) a → Bd (2 ^ (578 * (t + 1))) a := fun ha => ha.mono (Nat.pow_le_pow_right (by decide) (by omega))
  have fi : ∀ {a : P2}, Bd (2 ^ (578 * t)) a → FiN a := fun ha => ha.fi (n := 578 * t + 1) (Nat.pow_lt_pow_right (by decide) (by omega)) (by omega)
  refine ⟨d, fi E.c3, fi E.c4, d.fy, ⟨by omega, E.el, ?_, fun z g1 g2 => ?_, ?_, E.bl.mono ?_, ?_, up E.c3, up E.c4, coef E.c1 E.c3, coef E.c2 E.c4⟩⟩
  · have e1 := E.eu
    have e2 := E.el
    unfold TF.rest
    generalize TF.quo k u0 l0 = q
    subst e1 e2
    apply TF.ext <;> simp only [TF.mul, TF.add, TF.sub] <;> grind
  · refine E.dv z ?_ g1
    rw [← TF.quo_rest k u0 l0]
    exact TF.goes_add (TF.goes_mul _ g1) g2
  · exact nl_step (TF.rest_small hk u0 hl) E.nl
  · exact pw1
  · exact (rest_bd hk u0 hl E.bl).mono pw2
theorem Euc.start {k : Int} (hk : TF.Kind k) {x y : P2} (hx : Bd (2 ^ 46) x) (hy : Bd (2 ^ 46) y) : Euc k x y 0 x (1, 0) (0, 0) y (0, 0) (1, 0) := by
  refine ⟨by decide, ?_, ?_, fun d h1 h2 => ⟨h1, h2⟩, ?_, by simpa using hx, by simpa using hy, ⟨by decide, by decide⟩, ⟨by decide, by decide⟩, ⟨by decide, by decide⟩, ⟨by decide, by decide⟩⟩
  · rw [TF.one_mul, TF.zero_mul]
    apply TF.ext <;> simp [TF.add]
  · rw [TF.one_mul, TF.zero_mul]
    apply TF.ext <;> simp [TF.add]
  · have h := hy.nm hk
    have e : 4 * (2 ^ 46 * 2 ^ 46) = 2 ^ 94 := by decide
    rw [e] at h
    simpa using h
end L7

set_option Elab.async false
set_option linter.all false
set_option maxRecDepth 100000
set_option maxHeartbeats 4000000
namespace L8
open PySem PySem.Spec PyProof.Rows L2 L3 L4 L5 L6 L7
/-! ### lists of numbers -/
structure NumsV (K : PySem.W.Frag) (H : Hp) (vs : List V) (ps : List P2) : Prop where
  len : vs.length = ps.length
  at_ : ∀ (i : Nat) v x, vs[i]? = some v → ps[i]? = some x → NumV K H v x
theorem NumsV.same {K : PySem.W.Frag} {H H' : Hp} {vs : List V} {ps : List P2} (h : NumsV K H vs ps) (s : Same H H') : NumsV K H' vs ps := ⟨h.len, fun i v x e1 e2 => (h.at_ i v x e1 e2).same s⟩
theorem NumsV.get {K : PySem.W.Frag} {H : Hp} {vs : List V} {ps : List P2} (h : NumsV K H vs ps) {i : Nat} {v : V} (e : vs[i]? = some v) : ∃ x, ps[i]? = some x ∧ NumV K H v x := by
  have hi : i < ps.length := by rw [← h.len]; exact (List.getElem?_eq_some_iff.mp e).1
  exact ⟨ps[i], List.getElem?_eq_getElem hi, h.at_ i v _ e (List.getElem?_eq_getElem hi)⟩
theorem prodFrom_take {k : Int} : ∀ {ps : List P2} {i : Nat} {x u : P2}, ps[i]? = some x → TF.prodFrom k u (ps.take (i + 1)) = TF.mul k (TF.prodFrom k u (ps.take i)) x
  | [], i, x, u, h => by simp at h
  | y :: ys, 0, x, u, h => by
    simp at h
    subst h
    rfl
  | y :: ys, i + 1, x, u, h => by
    have h' : ys[i]? = some x := by simpa using h
    show TF.prodFrom k (TF.mul k u y) (ys.take (i + 1)) = TF.mul k (TF.prodFrom k (TF.mul k u y) (ys.take i)) x
    exact prodFrom_take h'
/-- bounds of a product that grows -/
theorem Bd.grow {k : Int} (hk : TF.Kind k) {m i : Nat} {x y : P2} (hx : Bd ((4 * m) ^ i * m) x) (hy : Bd m y) : Bd ((4 * m) ^ (i + 1) * m) (TF.mul k x y) := by
  refine (hx.mul hk hy).mono ?_
  have e : 4 * ((4 * m) ^ i * m * m) = (4 * m) ^ (i + 1) * m := by
    rw [Nat.pow_succ]
    generalize (4 * m) ^ i = a
    rw [Nat.mul_assoc a (4 * m) m, Nat.mul_assoc a m m, Nat.mul_left_comm 4 a, Nat.mul_assoc 4 m m]
  rw [e]
  exact Nat.le_refl _
theorem grow_fi {i : Nat} {x : P2} (hi : i ≤ 100) (h : Bd ((4 * 2 ^ 1000) ^ i * 2 ^ 1000) x) : FiN x := by
  have e : (4 * 2 ^ 1000) ^ i * 2 ^ 1000 = 2 ^ (1002 * i + 1000) := by
    rw [show (4 : Nat) = 2 ^ 2 by rfl, ← Nat.pow_add, ← Nat.pow_mul, ← Nat.pow_add]
  rw [e] at h
  exact h.fi (n := 1002 * i + 1001) (Nat.pow_lt_pow_right (by decide) (by omega)) (by omega)
/-- what is told of a number parted -/
structure Parted (k : Int) (x u : P2) (ps : List P2) : Prop where
  unit : TF.Unit k u
  crit : ∀ q ∈ ps, TF.Crit k q
  prod : TF.mul k u (TF.prodL k ps) = x
  bu : Bd (2 ^ 1000) u
  bp : ∀ q ∈ ps, Bd (2 ^ 1000) q
  len : ps.length ≤ 60
  small : ∀ q ∈ ps, TF.size k q < 2 ^ 60
/-- .. as values: a tuple of the unit and the list at l -/
structure PartedV (K : PySem.W.Frag) (H : Hp) (p l : Addr) (k : Int) (x : P2) (ps : List P2) : Prop where
  ex : ∃ u vu vs, SqT K H p [vu, .ref l] ∧ NumV K H vu u ∧ H l = some (.lst vs) ∧ NumsV K H vs ps ∧ Parted k x u ps
theorem PartedV.same {K : PySem.W.Frag} {H H' : Hp} {p l : Addr} {k : Int} {x : P2} {ps : List P2} (h : PartedV K H p l k x ps) (s : Same H H') : PartedV K H' p l k x ps := by
  obtain ⟨u, vu, vs, h1, h2, h3, h4, h5⟩ := h.ex
  exact ⟨u, vu, vs, SqT.same s h1, h2.same s, s _ _ h3, h4.same s, h5⟩
theorem SqT.updL {K : PySem.W.Frag} {H : Hp} {p : Addr} {xs : List V} {D : Addr} {ys zs : List V} (hD : H D = some (.lst ys)) (h : SqT K H p xs) : SqT K (upd H D (.lst zs)) p xs := by
  rcases h with (h | ⟨o, h⟩) | h
  · refine .inl (.inl ?_)
    rw [upd_ne (ne_of h hD (by intro z; cases z))]
    exact h
  · refine .inl (.inr ⟨o, ?_⟩)
    rw [upd_ne (ne_of h hD (by intro z; cases z))]
    exact h
  · exact .inr h
theorem _root_.L3.NumV.updL {K : PySem.W.Frag} {H : Hp} {v : V} {x : P2} {D : Addr} {ys zs : List V} (hD : H D = some (.lst ys)) (h : NumV K H v x) : NumV K (upd H D (.lst zs)) v x := by
  obtain ⟨p, rfl, h⟩ := h
  exact ⟨p, rfl, SqT.updL hD h⟩
theorem NumsV.updL {K : PySem.W.Frag} {H : Hp} {vs : List V} {ps : List P2} {D : Addr} {ys zs : List V} (hD : H D = some (.lst ys)) (h : NumsV K H vs ps) : NumsV K (upd H D (.lst zs)) vs ps := ⟨h.len, fun i v x e1 e2 => (h.at_ i v x e1 e2).updL hD⟩
theorem PartedV.updL {K : PySem.W.Frag} {H : Hp} {p l : Addr} {k : Int} {x : P2} {ps : List P2} {D : Addr} {ys zs : List V} (hD : H D = some (.lst ys)) (hne : l ≠ D) (h : PartedV K H p l k x ps) : PartedV K (upd H D (.lst zs)) p l k x ps := by
  obtain ⟨u, vu, vs, h1, h2, h3, h4, h5⟩ := h.ex
  exact ⟨u, vu, vs, SqT.updL hD h1, h2.updL hD, by rw [upd_ne hne]; exact h3, h4.updL hD, h5⟩
/-- a store into a list that was not there at H0 -/
theorem Same.updN {H0 H : Hp} {D : Addr} {o : HO} (s : Same H0 H) (hn : H0 D = none) : Same H0 (upd H D o) := fun b u e => by
  rw [upd_ne (ne_of_none e hn)]
  exact s b u e
theorem emod_dvd {p n : Nat} : ((n : Int) % (p : Int) = 0) ↔ p ∣ n := by
  rw [← Int.natCast_dvd_natCast]
  exact ⟨Int.dvd_of_emod_eq_zero, Int.emod_eq_zero_of_dvd⟩
theorem kit_list_list {K : PySem.W.Frag} : PySem.W.kitOne K (.type "list") (.type "list") = some true := by with_unfolding_all rfl
theorem at5 {α : Type} (x y z u w : α) (i : Int) : ∃ v, atI [x, y, z, u, w] (i % 5) = some v ∧ (v = x ∨ v = y ∨ v = z ∨ v = u ∨ v = w) := by
  have h : i % 5 = 0 ∨ i % 5 = 1 ∨ i % 5 = 2 ∨ i % 5 = 3 ∨ i % 5 = 4 := by omega
  rcases h with e | e | e | e | e <;> rw [e]
  · exact ⟨x, rfl, .inl rfl⟩
  · exact ⟨y, rfl, .inr (.inl rfl)⟩
  · exact ⟨z, rfl, .inr (.inr (.inl rfl))⟩
  · exact ⟨u, rfl, .inr (.inr (.inr (.inl rfl)))⟩
  · exact ⟨w, rfl, .inr (.inr (.inr (.inr rfl)))⟩
section
variable {X : Cx}
/-- xs == [] -/
def rEqNil (K : PySem.W.Frag) : R2 := fun x y H Q => ∃ a b xs, x = .ref a ∧ y = .ref b ∧ SqL K H a xs ∧ SqL K H b [] ∧ Q (.bl xs.isEmpty) H
theorem op_eqNil (hu : X.A.units < cLine) : OpR X (compareOp .Eq) (rEqNil X.K) := by
  intro pins s σ H x y v u Q I rx ry h
  obtain ⟨a, b, xs, rfl, rfl, ha, hb, q⟩ := h
  cases rx
  cases ry
  obtain ⟨its, r1, p1, _⟩ := I.list ha
  obtain ⟨its2, r2, p2, _⟩ := I.list hb
  cases r2
  cases r1 with
  | nil => exact SeqAt.eq_listAt (e := fun _ => true) p1.isList p2.isList rfl hu (fun j h1 _ => absurd h1 (by simp)) ⟨.bl true, H, I, rfl, q⟩
  | cons r rr => exact SeqAt.eq_list_lengthsAt p1.isList p2.isList (by simp) hu ⟨.bl false, H, I, rfl, q⟩
end
theorem seT {es rest : List Expr} {k : Nat} {pos : Pos} {env : Env} : starEach (.Tuple es k pos :: rest) env = (false, eval (.Tuple es k pos) env) :: starEach rest env := rfl
theorem seC {f : Expr} {es rest : List Expr} {kw : List Keyword} {pos : Pos} {env : Env} : starEach (.Call f es kw pos :: rest) env = (false, eval (.Call f es kw pos) env) :: starEach rest env := rfl
theorem seB {a b : Expr} {op : Operator} {rest : List Expr} {pos : Pos} {env : Env} : starEach (.BinOp a op b pos :: rest) env = (false, eval (.BinOp a op b pos) env) :: starEach rest env := rfl
theorem seS {a b : Expr} {rest : List Expr} {pos : Pos} {env : Env} : starEach (.Subscript a b pos :: rest) env = (false, eval (.Subscript a b pos) env) :: starEach rest env := rfl
theorem seK {c : Const} {k : Nat} {rest : List Expr} {pos : Pos} {env : Env} : starEach (.Constant c k pos :: rest) env = (false, eval (.Constant c k pos) env) :: starEach rest env := rfl
theorem seN {x : Str} {rest : List Expr} {pos : Pos} {env : Env} : starEach (.Name x pos :: rest) env = (false, eval (.Name x pos) env) :: starEach rest env := rfl
theorem seU {a : Expr} {op : UnaryOp} {rest : List Expr} {pos : Pos} {env : Env} : starEach (.UnaryOp op a pos :: rest) env = (false, eval (.UnaryOp op a pos) env) :: starEach rest env := rfl
theorem nmEq {b : Expr} : behindInMarks .Eq b = false := nomark b
theorem nmNotEq {b : Expr} : behindInMarks .NotEq b = false := nomark b
theorem nmLt {b : Expr} : behindInMarks .Lt b = false := nomark b
theorem nmLtE {b : Expr} : behindInMarks .LtE b = false := nomark b
theorem nmGt {b : Expr} : behindInMarks .Gt b = false := nomark b
theorem nmGtE {b : Expr} : behindInMarks .GtE b = false := nomark b
theorem nmIs {b : Expr} : behindInMarks .Is b = false := nomark b
theorem nmIsNot {b : Expr} : behindInMarks .IsNot b = false := nomark b
theorem sz5 : 5 ≤ sizeLine := by decide
end L8

set_option Elab.async false
set_option linter.all false
set_option maxRecDepth 100000
set_option maxHeartbeats 4000000
namespace L9
open PySem PySem.Spec PyProof.Rows L2 L3 L4 L5 L6 L7 L8
/-- one of four by the kind -/
def pick4 (k : Int) (a b c d : P2) : P2 := if k = -2 then a else if k = -1 then b else if k = 2 then c else d
theorem pick_bu (k : Int) : pick4 k (-1, 0) (0, 1) (1, 1) (2, 1) = TF.bu k := rfl
theorem pick_bi (k : Int) : pick4 k (-1, 0) (0, -1) (-1, 1) (2, -1) = TF.bi k := rfl
theorem _root_.L3.NumV.updD {K : PySem.W.Frag} {H : Hp} {v : V} {x : P2} {D : Addr} {ys : List (Key × V)} {o : HO} (hD : H D = some (.dK ys)) (h : NumV K H v x) : NumV K (upd H D o) v x := by
  obtain ⟨p, rfl, h⟩ := h
  refine ⟨p, rfl, ?_⟩
  rcases h with (h | ⟨o, h⟩) | h
  · refine .inl (.inl ?_)
    rw [upd_ne (ne_of h hD (by intro z; cases z))]
    exact h
  · refine .inl (.inr ⟨o, ?_⟩)
    rw [upd_ne (ne_of h hD (by intro z; cases z))]
    exact h
  · exact .inr h
theorem dict4 {K : PySem.W.Frag} {H5 D0 D4 : Hp} {pd : Addr} {w1 w2 w3 w4 : V} {x1 x2 x3 x4 : P2} {kk : Int} (hk : TF.Kind kk) (hpd : H5 pd = none) (d0 : Same H5 D0) (d14 : Same D0 D4) (hd0 : D0 pd = some (.dK []))
    (m1 : NumV K D4 w1 x1) (m2 : NumV K D4 w2 x2) (m3 : NumV K D4 w3 x3) (m4 : NumV K D4 w4 x4) :
    ∃ vu, Same H5 (upd D4 pd (.dK (mergeK [] [(.inl (-2), w1), (.inl (-1), w2), (.inl 2, w3), (.inl 3, w4)]))) ∧ NumV K (upd D4 pd (.dK (mergeK [] [(.inl (-2), w1), (.inl (-1), w2), (.inl 2, w3), (.inl 3, w4)]))) vu (pick4 kk x1 x2 x3 x4) ∧
      DGet (upd D4 pd (.dK (mergeK [] [(.inl (-2), w1), (.inl (-1), w2), (.inl 2, w3), (.inl 3, w4)]))) pd (.int kk) (some vu) := by
  obtain ⟨vu, eu, nu⟩ : ∃ vu, valV (mergeK [] [(.inl (-2), w1), (.inl (-1), w2), (.inl 2, w3), (.inl 3, w4)]) (Sum.inl kk : Key) = some vu ∧ NumV K D4 vu (pick4 kk x1 x2 x3 x4) := by
    rcases hk with rfl | rfl | rfl | rfl
    · exact ⟨w1, rfl, m1⟩
    · exact ⟨w2, rfl, m2⟩
    · exact ⟨w3, rfl, m3⟩
    · exact ⟨w4, rfl, m4⟩
  refine ⟨vu, Same.updN (d0.trans d14) hpd, nu.updD (d14 _ _ hd0), ?_⟩
  rw [← eu]
  exact DGet.k (k := Sum.inl kk) upd_same
/-- bounds of a unit that grows -/
theorem pwF_bd {k : Int} (hk : TF.Kind k) {b u : P2} (hb : Bd 2 b) (hu : Bd 1 u) : ∀ n, Bd (8 ^ n) (TF.pwF k b u n)
  | 0 => hu
  | n + 1 => by
    refine ((pwF_bd hk hb hu n).mul hk hb).mono ?_
    rw [Nat.pow_succ]
    omega
theorem b8 {n : Nat} {x : P2} (hn : n ≤ 1000) (h : Bd (8 ^ n) x) : Bd (2 ^ 3000) x := by
  refine h.mono ?_
  rw [show (8 : Nat) = 2 ^ 3 by rfl, ← Nat.pow_mul]
  exact Nat.pow_le_pow_right (by decide) (by omega)
theorem _root_.L3.Bd.fi3 {x : P2} (h : Bd (2 ^ 3000) x) : FiN x := h.fi (n := 3001) (Nat.pow_lt_pow_right (by decide) (by decide)) (by decide)
theorem bu_bd {k : Int} (hk : TF.Kind k) : Bd 2 (TF.bu k) := by rcases hk with rfl | rfl | rfl | rfl <;> exact ⟨by decide, by decide⟩
theorem bi_bd {k : Int} (hk : TF.Kind k) : Bd 2 (TF.bi k) := by rcases hk with rfl | rfl | rfl | rfl <;> exact ⟨by decide, by decide⟩
theorem sign_bd {s : Int} (hs : s = 1 ∨ s = -1) : Bd 1 ((s, 0) : P2) := by rcases hs with rfl | rfl <;> exact ⟨by decide, by decide⟩
theorem unitOf_bd {k s t : Int} (hk : TF.Kind k) (hs : s = 1 ∨ s = -1) (ht : t.natAbs ≤ 1000) : Bd (2 ^ 3000) (TF.unitOf k s t) := by
  rw [← TF.unitOf_loop]
  refine b8 ht (pwF_bd hk ?_ (sign_bd hs) _)
  split
  · exact bi_bd hk
  · exact bu_bd hk
/-- what is told of a unit -/
structure Told (k : Int) (x : P2) (s t : Int) : Prop where
  sg : s = 1 ∨ s = -1
  eq : TF.unitOf k s t = x
  m1 : k = -1 → s = 1 ∧ 0 ≤ t ∧ t ≤ 3
  m2 : k = -2 → s = 1 ∧ 0 ≤ t ∧ t ≤ 1
theorem range1m {m : Nat} (h : m ≤ 63) : Builtin.Range.small 1 (if (m : Int) + 2 < 25 then (m : Int) + 2 else 25) 4 = true ∧ Builtin.Range.rangeSize 1 (if (m : Int) + 2 < 25 then (m : Int) + 2 else 25) 4 = ((Builtin.Range.rangeSize 1 (if (m : Int) + 2 < 25 then (m : Int) + 2 else 25) 4).toNat : Int) := by
  have k : ∀ m : Nat, m < 64 → Builtin.Range.small 1 (if (m : Int) + 2 < 25 then (m : Int) + 2 else 25) 4 = true ∧ Builtin.Range.rangeSize 1 (if (m : Int) + 2 < 25 then (m : Int) + 2 else 25) 4 = ((Builtin.Range.rangeSize 1 (if (m : Int) + 2 < 25 then (m : Int) + 2 else 25) 4).toNat : Int) := by decide +kernel
  exact k m (by omega)
theorem inv_bd {k : Int} {m : Nat} {x y : P2} (hx : Bd m x) (hu : TF.Unit k x) (h : TF.mul k y x = (1, 0)) : Bd m y := by
  have e : TF.mul k y (TF.mul k x (TF.conj x)) = TF.conj x := by
    rw [← TF.mul_assoc, h, TF.mul_comm, TF.mul_one]
  rw [TF.mul_conj] at e
  have e1 := congrArg Prod.fst e
  have e2 := congrArg Prod.snd e
  simp only [TF.mul, TF.conj] at e1 e2
  have hn : TF.nm k x = 1 ∨ TF.nm k x = -1 := by
    have : (TF.nm k x).natAbs = 1 := hu
    omega
  obtain ⟨h1, h2⟩ := hx
  rcases hn with z | z <;> rw [z] at e1 e2 <;> simp at e1 e2 <;> exact ⟨by omega, by omega⟩
/-- the pair that is due -/
def pairOf (k s t : Int) : P2 := if k = -2 then (1, (t + (1 - s) / 2) % 2) else if k = -1 then (1, (t + 1 - s) % 4) else (s, t)
theorem Told.pair {k s t s' t' : Int} (hk : TF.Kind k) (hs : s = 1 ∨ s = -1) (h : Told k (TF.unitOf k s t) s' t') : ((s', t') : P2) = pairOf k s t := by
  obtain ⟨h1, h2, h3, h4⟩ := h
  rcases hk with rfl | rfl | rfl | rfl
  · obtain ⟨rfl, a, b⟩ := h4 rfl
    rw [TF.told_m2 hs a b h2]
    rfl
  · obtain ⟨rfl, a, b⟩ := h3 rfl
    rw [TF.told_m1 hs a b h2]
    rfl
  · obtain ⟨rfl, rfl⟩ := TF.unitOf_inj (.inl rfl) h1 hs h2
    rfl
  · obtain ⟨rfl, rfl⟩ := TF.unitOf_inj (.inr rfl) h1 hs h2
    rfl
theorem mul_one_ne {x : P2} {b : P2} (h : x = b) : (if true = true then !decide (x = b) else decide (x = b)) = false := by simp [h]
end L9

set_option Elab.async false
set_option linter.all false
set_option maxRecDepth 100000
set_option maxHeartbeats 4000000
namespace L10
open PySem PySem.Spec PySem.W PyProof.Rows Builtin Builtin.ObjectAttr Builtin.Getset_descriptor
/-- what is asked of an own class of exceptions so that e.__class__ is read plainly -/
structure ExcQ (K : Frag) (C : Addr) : Prop where
  ga : findIn K (.ref C) "__getattribute__" = some (some (.builtin "BaseException.__getattribute__"))
  gh : findIn K (.ref C) "__getattr__" = some none
  cl : findIn K (.ref C) "__class__" = some (some (.builtin "object.__class__"))
  be : mroIn K C (.type "BaseException") = some true
  ob : mroIn K C (.type "object") = some true
section
variable {prog : Program} {w : World} {A : Around} {E : Value → Shared → Prop} {K : Frag} {a C : Addr} {h : Heap} {g : Array GenState} {d : Drawn} {t : Nat} {os : OsState}
theorem x_get {R : Result → Shared → Prop} (X : K.In h) (q : ExcQ K C) (L0 : Looks (model prog w) h (typeOf (.ref a)) (.ref C)) (hR : R (.ok (.ret (.ref C))) ⟨h, g, d, t, os⟩) :
    codeAny (model prog w) A (.call (.builtin "getset_descriptor.__get__") ⟨[.builtin "object.__class__", .ref a, .ref C], []⟩) R ⟨h, g, d, t, os⟩ := by
  have L3 := looks_mroIn (M := model prog w) X q.ob
  refine codeAny_call_builtin F.slot_gs_get.plain F.entry_gs_get (F.slot_gs_get.check _ _ _ _ _ _ _ _ F.typeOf_object_class (F.args_gs_get _ _ _) ?_)
  unfold «getset_descriptor.__get__» descrGet; rw [dga_obj]
  refine wpAny_bind (wpAny_pure ?_)
  unfold descrGetter descrCheckInstance descrNameAndClass isInstance; simp only [KF.owner_class]
  iterate 40 try lk
  refine ⟨Code.quiet_builtin _ (by decide +kernel), codeAny_builtin F.entry_object_class ?_⟩; unfold «object.__class__» shownTypeOf
  iterate 40 try lk
  exact hR
theorem x_entry {tk : Tok} {Q : Fin → Shared → Prop} (X : K.In h) (q : ExcQ K C) (L0 : Looks (model prog w) h (typeOf (.ref a)) (.ref C)) (hQ : Q (.done (.ret (.ref C))) ⟨h, g, d, t, os⟩) :
    wpAny (model prog w) A («object.__getattribute__» ⟨[.ref a, .str "__class__" tk], []⟩) Q E ⟨h, g, d, t, os⟩ := by
  have L4 := looks_findIn (M := model prog w) X q.cl
  have f5 := F.typeOf_object_class
  have f6 := F.slot_gs_get.lookup
  have f7 := F.slot_gs_set.lookup
  repeat (any_goals (first | assumption | with_reducible refine L0.at ?_ | with_reducible refine L4.at ?_ | wp_step))
  refine x_get X q L0 ?_
  repeat (any_goals (first | assumption | wp_step))
theorem x_check {M : Model} {nv : Value} {Q : Unit → Shared → Prop} (X : K.In h) (q : ExcQ K C) (L0 : Looks M h (typeOf (.ref a)) (.ref C)) (hQ : Q () ⟨h, g, d, t, os⟩) :
    wpAny M A (checkBuiltinCall "BaseException.__getattribute__" ⟨[.ref a, nv], []⟩) Q E ⟨h, g, d, t, os⟩ := by
  have k1 : builtinKind "BaseException.__getattribute__" = some .slot := by decide +kernel
  have k2 : splitId "BaseException.__getattribute__" = some ("BaseException", "__getattribute__") := by decide +kernel
  have L1 := looks_mroIn (M := M) X q.be
  have k3 := F.args_bexc_ga (.ref a) nv
  simp only [checkBuiltinCall, k1, k2]
  refine wpAny_bind ?_
  unfold isInstance
  refine wpAny_bind (L0.at (L1.at ?_))
  repeat (first | assumption | wp_step)
theorem x_call {tk : Tok} {R : Result → Shared → Prop} (X : K.In h) (q : ExcQ K C) (L0 : Looks (model prog w) h (typeOf (.ref a)) (.ref C)) (hR : R (.ok (.ret (.ref C))) ⟨h, g, d, t, os⟩) :
    codeAny (model prog w) A (.call (.builtin "BaseException.__getattribute__") ⟨[.ref a, .str "__class__" tk], []⟩) R ⟨h, g, d, t, os⟩ :=
  codeAny_call_builtin F.attrBase_ValueError.ga.plain F.entry_bexc_ga (x_check X q L0 (x_entry X q L0 hR))
theorem x_by {tk : Tok} {fill expr : Bool} {Q : Value → Shared → Prop} (X : K.In h) (q : ExcQ K C) (L0 : Looks (model prog w) h (typeOf (.ref a)) (.ref C)) (hQ : Q (.ref C) ⟨h, g, d, t, os⟩) :
    wpAny (model prog w) A (getAttrBy (.ref a) (.str "__class__" tk) fill expr) Q E ⟨h, g, d, t, os⟩ := by
  have f3 := F.attrBase_ValueError.ga.bind (.ref a)
  have y0 : (expr && onTheHeap (Value.builtin "BaseException.__getattribute__")) = false := by cases expr <;> rfl
  have y2 : (Value.builtin "BaseException.__getattribute__" == Value.builtin "object.__getattribute__") = false := by decide +kernel
  have y1 : (onTheHeap (Value.ref C) && Value.builtin "BaseException.__getattribute__" == Value.builtin "object.__getattribute__") = false := by rw [y2]; rfl
  have L1 := looks_findIn (M := model prog w) X q.ga
  have L2 := looks_findIn (M := model prog w) X q.gh
  repeat (any_goals (first | assumption | with_reducible refine L0.at ?_ | with_reducible refine L1.at ?_ | with_reducible refine L2.at ?_ | wp_step))
  refine x_call X q L0 ?_
  repeat (any_goals (first | assumption | wp_step))
theorem x_attr {s : Shared} {Q : Option Value → Shared → Prop} (X : K.In s.heap) (q : ExcQ K C) (L0 : Looks (model prog w) s.heap (typeOf (.ref a)) (.ref C)) (hQ : Q (some (.ref C)) { s with toks := s.toks + 1 }) :
    wpAny (model prog w) A (getAttr? (.ref a) "__class__") Q E s := by
  obtain ⟨h, g, d, t, os⟩ := s
  unfold getAttr? getAttrBy?
  refine wpAny_bind (wpAny_mkText (wpAny_bind (wpAny_attempt (x_by (t := t + 1) X q L0 ?_))))
  exact wpAny_pure hQ
/-- isinstance reads an exception of the class C so -/
def AtC (a C : Addr) (h : Heap) : Prop := ∃ o, h.get? a = some o ∧ o.cls = .ref C
theorem AtC.ty {M : Model} (p : AtC a C h) : Looks M h (typeOf (.ref a)) (.ref C) := by
  obtain ⟨o, h1, h2⟩ := p
  exact h2 ▸ (Looks.ld h1).andThen .now
theorem kitx_exc (q : ExcQ K C) : KitX K (.ref a) (.ref C) (AtC a C) where
  ty := fun _ _ _ p => p.ty
  it := fun M h X _ => by
    obtain ⟨cd, hc, _⟩ := Option.bind_eq_some_iff.mp q.ob
    unfold clsIn at hc
    split at hc
    · rename_i c' d' cd' sl' ho
      intro A' Q' E' s' k z
      unfold isType loadHead
      exact wpAny_bind (wpAny_loadPart (k _ _ (X _ _ ho)) (wpAny_pure z))
    · cases hc
  ne := fun h tp dd its n sl X htp => by
    obtain ⟨cd, hc, _⟩ := Option.bind_eq_some_iff.mp q.ob
    refine Bool.eq_false_iff.mpr fun z => ?_
    have e : C = tp := Value.ref.inj (beq_iff_eq.mp z)
    subst e
    unfold clsIn at hc
    split at hc
    · rename_i c' d' cd' sl' ho
      have z := (X _ _ ho).symm.trans htp
      cases z
    · cases hc
  ca := fun X p k => x_attr X q p.ty k
end
end L10

set_option Elab.async false
set_option linter.all false
set_option maxRecDepth 100000
set_option maxHeartbeats 4000000
namespace L11
open PySem PySem.Spec PyProof.Rows L2 L3 L4 L5 L6 L7 L8 L9 L10
section
variable {X : Cx} {pins : List (Addr × Obj)} {σ : L2.St} {H H' : Hp} {s s' : Shared} {h' B : Heap} {e C : Addr} {a0 : Value}
/-- the exception e is tracked from here on -/
theorem inv_track (I : Inv X pins σ H s) (fl : Heap.FlyingW B X.stack e (.ref C) a0 s.heap) (hany : ∀ b o, X.s₀.heap.get? b = some o → b ∉ X.fs → ∃ o', B.get? b = some o') (htr : ∀ b u, H b = some u → ∃ o, B.get? b = some o)
    (hpn : ∀ p ∈ X.pn ++ pins, ∃ o', B.get? p.1 = some o') (hex : X.ex = []) : Inv X pins σ (upd H e (.ext (AtC e C))) s := by
  obtain ⟨st, hBe, _, oe, ws, _, _, _, he, ⟨hc, _⟩, hd, _⟩ := fl
  have hHe : H e = none := by
    cases q : H e with
    | none => rfl
    | some u => obtain ⟨o, z⟩ := htr e u q; rw [hBe] at z; cases z
  have nox : ∀ b, b ∉ X.ex := fun b z => by rw [hex] at z; cases z
  have ne0 : ∀ b o, X.s₀.heap.get? b = some o → X.H₀ b = none → b ≠ e := fun b o q n z => by
    subst z
    by_cases hb : b ∈ X.fs
    · obtain ⟨sl, e1⟩ := I.base.slot b o q n hb (nox b)
      obtain ⟨_, o', ho', hnf⟩ := I.ok.funs.mem hb
      rw [q] at ho'
      cases ho'
      rw [he] at e1
      cases e1
      exact hnf ws hd
    · obtain ⟨o', z⟩ := hany b o q hb
      rw [hBe] at z
      cases z
  have nn : ∀ {b : Addr} {u : HO}, H b = some u → b ≠ e := fun q => ne_of_none q hHe
  refine ⟨I.ok, I.os, I.bare, ⟨I.base.keep, I.base.slot, fun b o q n hx => ?_, I.base.there, fun b xs q => ?_, fun b o u q => ?_, fun b ps q => ?_⟩, I.loc, I.cell, ?_, fun y c q => ?_, fun p hp => ?_, fun b u q => ?_, I.len⟩
  · rw [upd_ne (ne0 b o q n)]
    exact I.base.free b o q n hx
  · have z := I.base.tups b xs q
    rw [upd_ne (nn z)]
    exact z
  · have z := I.base.frzs b o u q
    rw [upd_ne (nn z)]
    exact z
  · obtain ⟨m, z⟩ := I.base.tbls b ps q
    exact ⟨m, by rw [upd_ne (nn z)]; exact z⟩
  · have : X.env.locals ≠ e := fun z => by
      obtain ⟨m, ⟨o, es, ep, ho, hd', _⟩, _⟩ := I.loc
      rw [z, he] at ho
      cases ho
      rw [hd] at hd'
      cases hd'
    rw [upd_ne this]
    exact I.free
  · have : c ≠ e := fun z => by
      obtain ⟨v, o, ho, hd'⟩ := I.cell y c q
      rw [z, he] at ho
      cases ho
      rw [hd] at hd'
      cases hd'
    rw [upd_ne this]
    exact I.freeC y c q
  · obtain ⟨a1, a2, a3, a4, a5⟩ := I.pin p hp
    have : p.1 ≠ e := fun z => by
      obtain ⟨o', q⟩ := hpn p hp
      rw [z, hBe] at q
      cases q
    exact ⟨a1, by rw [upd_ne this]; exact a2, a3, a4, a5⟩
  · by_cases hb : b = e
    · subst hb
      rw [upd_same] at q
      cases q
      refine ⟨⟨oe, he, hc⟩, ⟨oe, he⟩, fun h1 h2 ⟨o, z1, z2⟩ k => ⟨o, k o z1, z2⟩⟩
    · rw [upd_ne hb] at q
      exact (I.hok b u q).stay (fun _ _ _ z => z) (fun c z => by rw [upd_ne (nn z)]; exact z) fun c xs z => by rw [upd_ne (nn z)]; exact z
/-- an exception of the class C is at hand -/
structure Held (X : Cx) (pins : List (Addr × Obj)) (σ : L2.St) (H : Hp) (e C : Addr) (s : Shared) : Prop where
  ex : ∃ B a0, Heap.FlyingW B X.stack e (.ref C) a0 s.heap ∧ (∀ h', B.StaysIn h' → s.heap.UpToSlots h' → Inv X pins σ H { s with heap := h' }) ∧ (∀ b o, X.s₀.heap.get? b = some o → b ∉ X.fs → ∃ o', B.get? b = some o') ∧
    (∀ b u, H b = some u → ∃ o, B.get? b = some o) ∧ ∀ p ∈ X.pn ++ pins, ∃ o', B.get? p.1 = some o'
abbrev TH := Addr → TS
def PH (X : Cx) (hs : List ExceptHandler) (t : TH) : Prop :=
  ∀ (pins : List (Addr × Obj)) (s : Shared) (σ : L2.St) (H : Hp) (D : Ends) (e C : Addr), Held X pins σ H e C s → σ.length = X.N.length → t C D σ H → wpAny (model X.prog X.w) X.A (handleBy (.ref e) X.env hs) (SP X pins D) X.xe s
theorem ph_nil {X : Cx} : PH X [] (fun _ _ _ _ => False) := fun _ _ _ _ _ _ _ _ _ h => h.elim
def thC (K : PySem.W.Frag) (C0 : Addr) (ts : Value → TS) (tr : TH) : TH := fun C D σ H => ∃ b, PySem.W.exmOne K (.ref C) (.ref C0) = some b ∧ if b = true then ∀ ev, ts ev D σ H else tr C D σ H
theorem ups_refl {h : Heap} : h.UpToSlots h := fun _ o e _ => ⟨o.slots, e⟩
theorem ph_cons {x : Str} {C0 : Addr} {b₀ : Stmt} {suite : List Stmt} {rest : List ExceptHandler} {np hpos : Pos} {ts : Value → TS} {tr : TH} (c : ExcC X.K X.mg x C0) (hg : Gl X x) (hxe : X.xe = fun _ _ => False)
    (hs : ∀ ev, PSs (X.marked ev) (b₀ :: suite) (ts ev)) (hr : PH X rest tr) (hd : (x == ("__debug__" : Str)) = false := by decide) :
    PH X (.ExceptHandler (some (.Name x np)) none (b₀ :: suite) hpos :: rest) (thC X.K C0 ts tr) := by
  intro pins s σ H D e C hH hl h
  obtain ⟨b, hb, h⟩ := h
  obtain ⟨B, a0, fl, inv, _, _, _⟩ := id hH.ex
  have I := inv s.heap fl.1 ups_refl
  obtain ⟨ob, hob, hobc⟩ := fl.there
  refine wpAny_handleBy_cons (codeAny_handlers_test (ld_glob (inv_mark I (.ref e)) hg c.m ?_ hd)) (by intro q; cases q)
  refine (PySem.W.exm_one I.kIn (AtC.ty ⟨ob, hob, hobc⟩) hb).here ?_
  cases b with
  | false => exact hr pins s σ H D e C hH hl (by simpa using h)
  | true =>
    refine codeAny_handlers_suite ?_
    refine lands_againW fl fun h₆ fl₆ sl₆ => ?_
    have I6 := inv h₆ fl₆.1 sl₆
    refine wpAny_mono (hs (.ref e) pins { s with heap := h₆ } σ H D (inv_mark I6 (.ref e)) (by rw [if_pos rfl] at h; exact h (.ref e))) (fun f s2 q => sp_unmark I.ok q) fun ev s2 q => ?_
    have q' : X.xe ev s2 := q
    rw [hxe] at q'
    exact q'.elim
/-- behind the suite of a clause with a name -/
theorem name_goes {M : Model} {A : Around} {E : Value → Shared → Prop} {i : Nat} {x : Str} {pos : Pos} {Q : Unit → Shared → Prop} (I : Inv X pins σ H s) (hN : X.N.Nodup) (hi : X.N[i]? = some x) (hx : X.env.scope.names.lookup x = some .local)
    (h : ∀ s', Inv X pins (σ.set i none) H s' → Q () s') : wpAny M A (do bindName X.env x .none; unbindBehindTheSuite X.env x pos) Q E s := by
  obtain ⟨m, hn, hl⟩ := id I.loc
  have hcls : (X.env.scope.kind == .class || (X.env.scope.kind == .module && X.env.locals != X.env.globals)) = false := by rw [I.ok.kind]; rfl
  have hiσ : i < σ.length := by rw [I.len]; exact (List.getElem?_eq_some_iff.mp hi).1
  have cne := I.cne
  refine wpAny_nameGoes_keeps hx hn hcls fun h' v hn' hs => h _ ?_
  obtain ⟨oL, _, _, hoL, _⟩ := id hn
  have nL : ∀ b o, X.s₀.heap.get? b = some o → b ≠ X.env.locals := fun b o q => Nat.ne_of_lt (Nat.lt_of_lt_of_le (Heap.lt_size q) I.ok.above)
  refine ⟨I.ok, I.os, I.bare, ⟨fun b o q n hb hx => (hs.2 b (nL b o q)).trans (I.base.keep b o q n hb hx), fun b o q n hb hx => ?_, I.base.free, fun b o q hx => ?_, I.base.tups, I.base.frzs, I.base.tbls⟩, ⟨_, hn', fun j y v' e1 e2 e3 => ?_⟩, fun y c q => ?_, I.free, I.freeC, fun p hp => ?_, fun b ob q => ?_, by simpa using I.len⟩
  · obtain ⟨sl, e1⟩ := I.base.slot b o q n hb hx
    exact ⟨sl, (hs.2 b (nL b o q)).trans e1⟩
  · obtain ⟨o', e1⟩ := I.base.there b o q hx
    exact ⟨o', (hs.2 b (nL b o q)).trans e1⟩
  · have hj : j ≠ i := fun z => by
      subst z
      rw [List.getElem?_set_self hiσ] at e2
      cases e2
    rw [List.getElem?_set_ne (Ne.symm hj)] at e2
    obtain ⟨u', r', q⟩ := hl j y v' e1 e2 e3
    refine ⟨u', r', ?_⟩
    rcases q with ⟨k, z⟩ | ⟨k, c, z1, z2⟩
    · refine .inl ⟨k, ?_⟩
      have : y ≠ x := fun z => hj (nodup_ix hN e1 (z ▸ hi))
      simp [this, z]
    · exact .inr ⟨k, c, z1, z2.sameBut hs (cne y c z1)⟩
  · obtain ⟨w', z⟩ := I.cell y c q
    exact ⟨w', z.sameBut hs (cne y c q)⟩
  · obtain ⟨a1, a2, a3, a4, a5⟩ := I.pin p hp
    exact ⟨(hs.2 p.1 a3).trans a1, a2, a3, a4, a5⟩
  · refine (I.hok b ob q).stay (fun c w' hc z => (hs.2 c ?_).trans z) (fun _ z => z) fun _ _ z => z
    rintro rfl
    rcases hc with rfl | hc
    · rw [I.free] at q; cases q
    · rw [I.free] at hc; cases hc
def asEnds (D : Ends) (i : Nat) : Ends := { nx := fun σ H => D.nx (σ.set i none) H, rt := D.rt, bk := fun σ H => D.bk (σ.set i none) H, ct := fun σ H => D.ct (σ.set i none) H }
def thAs (K : PySem.W.Frag) (C0 : Addr) (i : Nat) (ts : Value → TS) (tr : TH) : TH := fun C D σ H => ∃ b, PySem.W.exmOne K (.ref C) (.ref C0) = some b ∧
  if b = true then ∀ e, H e = none → ts (.ref e) (asEnds D i) (σ.set i (some (.ref e))) (upd H e (.ext (AtC e C))) else tr C D σ H
theorem ph_as {x n : Str} {C0 : Addr} {i : Nat} {b₀ : Stmt} {suite : List Stmt} {rest : List ExceptHandler} {np hpos : Pos} {ts : Value → TS} {tr : TH} (c : ExcC X.K X.mg x C0) (hg : Gl X x) (hxe : X.xe = fun _ _ => False) (hex : X.ex = [])
    (hN : X.N.Nodup) (hi : X.N[i]? = some n) (hln : X.env.scope.names.lookup n = some .local)
    (hs : ∀ ev, PSs (X.marked ev) (b₀ :: suite) (ts ev)) (hr : PH X rest tr) (hd : (x == ("__debug__" : Str)) = false := by decide) :
    PH X (.ExceptHandler (some (.Name x np)) (some n) (b₀ :: suite) hpos :: rest) (thAs X.K C0 i ts tr) := by
  intro pins s σ H D e C hH hl h
  obtain ⟨b, hb, h⟩ := h
  obtain ⟨B, a0, fl, inv, hany, htr, hpn⟩ := id hH.ex
  have I := inv s.heap fl.1 ups_refl
  obtain ⟨ob, hob, hobc⟩ := fl.there
  refine wpAny_handleBy_cons (codeAny_handlers_test (ld_glob (inv_mark I (.ref e)) hg c.m ?_ hd)) (by intro q; cases q)
  refine (PySem.W.exm_one I.kIn (AtC.ty ⟨ob, hob, hobc⟩) hb).here ?_
  cases b with
  | false => exact hr pins s σ H D e C hH hl (by simpa using h)
  | true =>
    have h : ∀ e, H e = none → ts (.ref e) (asEnds D i) (σ.set i (some (.ref e))) (upd H e (.ext (AtC e C))) := by simpa using h
    have hHe : H e = none := by
      cases q : H e with
      | none => rfl
      | some u => obtain ⟨o, z⟩ := htr e u q; rw [fl.2.1] at z; cases z
    refine codeAny_handlers_suite_as ?_
    refine lands_againW fl fun h₆ fl₆ sl₆ => ?_
    have I6 := inv_track (inv h₆ fl₆.1 sl₆) fl₆ hany htr hpn hex
    have I6m : Inv (X.marked (.ref e)) pins σ (upd H e (.ext (AtC e C))) { s with heap := h₆ } := inv_mark I6 (.ref e)
    refine store_ok (X := X.marked (.ref e)) (v := .ref e) I6m hN hi (.inl hln) rfl (fun s7 I7 => ?_) (.inr hln)
    refine wpAny_mono (hs (.ref e) pins s7 _ _ (asEnds D i) I7 (h e hHe)) (fun f s2 q => ?_) fun ev s2 q => ?_
    · have q := sp_unmark I.ok q
      cases f with
      | next => obtain ⟨σ', H', I', q⟩ := q; exact name_goes I' hN hi hln fun s' I'' => ⟨_, H', I'', q⟩
      | brk => obtain ⟨σ', H', I', q⟩ := q; exact name_goes I' hN hi hln fun s' I'' => ⟨_, H', I'', q⟩
      | cont => obtain ⟨σ', H', I', q⟩ := q; exact name_goes I' hN hi hln fun s' I'' => ⟨_, H', I'', q⟩
      | ret u => obtain ⟨v, σ', H', I', r, q⟩ := q; exact name_goes I' hN hi hln fun s' I'' => ⟨v, _, H', I'', r, q⟩
    · have q' : X.xe ev s2 := q
      rw [hxe] at q'
      exact q'.elim
/-- try: body; clauses -/
def tTryH (E' : XK) (n : Nat) (tb : TS) (th : TH) : TS := fun D σ H => tb D σ H ∧ ∀ Cv σ' H', E' Cv none H' → σ'.length = n → ∃ C, Cv = .ref C ∧ th C D σ' H'
theorem ps_tryH {body : List Stmt} {h₀ : ExceptHandler} {hs : List ExceptHandler} {pos : Pos} {tb : TS} {th : TH} {E' : XK} (hst : X.stack = X.env :: X.outer) (hfr : X.env.frame = some X.env.locals) (hex : X.ex = [])
    (hb : ∀ pn xe, Passes (CX1 X.prog X.w) (X.tried pn xe) E' → PSs (X.tried pn xe) body tb) (hh : PH X (h₀ :: hs) th) :
    PS X (.Try body (h₀ :: hs) [] [] pos) (tTryH E' X.N.length tb th) := by
  intro pins s σ H D I h
  obtain ⟨h1, h2⟩ := h
  refine wpAny_Try_except (wpAny_mono (hb _ _ passT [] s σ H D (inv_try I (Thrown X pins E')) h1) (fun fl s1 q => ?_) fun ev s1 q => ?_)
  · have q := sp_untry q
    cases fl with
    | next =>
      obtain ⟨σ', H', I', q⟩ := q
      exact wpAny_execs_nil ⟨σ', H', I', q⟩
    | brk => exact q
    | cont => exact q
    | ret u => exact q
  · obtain ⟨e, Cv, H', σ', H0, sc, rfl, hE, I0, ⟨os, bare, un, hok, B, a0, fl, br⟩⟩ := q
    have hlen : σ'.length = X.N.length := I0.len
    obtain ⟨C, rfl, hth⟩ := h2 Cv σ' H' hE hlen
    have hfr' : X.A.frames = some (X.env :: X.outer) := by rw [← hst]; exact I.ok.frames
    have fl0 := fl
    rw [hst] at fl
    refine wpAny_looks_onW hfr' hfr fl fun h₄ held₄ sl₄ => ?_
    refine wpAny_landsW held₄ fun h₅ fl₅ sl₅ => ?_
    have nox : ∀ b, b ∉ X.ex := fun b z => by rw [hex] at z; cases z
    have neL : ∀ b o, X.s₀.heap.get? b = some o → b ≠ X.env.locals := fun b o q => Nat.ne_of_lt (Nat.lt_of_lt_of_le (Heap.lt_size q) I0.ok.above)
    refine hh pins { s1 with heap := h₅ } σ' H' D e C ⟨B, a0, by rw [hst]; exact fl₅, fun h' st sl => inv_fly (s' := s1) I0 os bare un hok br st ((sl₄.trans sl₅).trans sl), fun b o q hbf => ?_, fun b u q => ?_, fun p hp => ?_⟩ hlen hth
    · obtain ⟨o1, e1⟩ := I0.base.there b o q (nox b)
      exact br.any b o1 e1 fun z => (List.mem_cons.mp (I0.stkSub b z)).elim (neL b o q) hbf
    · obtain ⟨o, _, e2⟩ := br.trk b u q
      exact ⟨o, e2⟩
    · obtain ⟨a1, a2, a3, a4, a5⟩ := I0.pin p hp
      exact br.any p.1 p.2 a1 fun z => (List.mem_cons.mp (I0.stkSub p.1 z)).elim a3 a4
/-- isinstance(e, c) of an own exception -/
inductive ClsV : V → Value → Prop where
  | own (a : Addr) : ClsV (.ref a) (.ref a)
  | ty (T : String) : ClsV (.ty T) (.type T)
def rIsX (K : PySem.W.Frag) : List V → Hp → VK → Prop := fun xs H Q => ∃ e C c u b, xs = [.ref e, c] ∧ ClsV c u ∧ H e = some (.ext (AtC e C)) ∧ ExcQ K C ∧ PySem.W.kitOne K (.ref C) u = some b ∧ Q (.bl b) H
theorem call_isX : CallR X (.builtin "isinstance") (rIsX X.K) := by
  intro pins s σ H xs us Q I r h
  obtain ⟨e, C, c, u, b, rfl, hc, he, q, hk, hq⟩ := h
  obtain ⟨u1, u2, rfl, r1, r2⟩ := vals2 r
  cases (show u1 = Value.ref e from r1)
  obtain ⟨p, _, _⟩ := (show ObjOk X.prog X.w H s.heap e (.ext (AtC e C)) from I.hok e _ he)
  have eu : u2 = u := by
    cases hc with
    | own a => exact r2
    | ty T => exact r2
  subst eu
  exact PySem.W.kia_one (kitx_exc q) I.kIn p hk (fun z => nomatch z) fun tk => ⟨.bl b, H, I.tok _, rfl, hq⟩
end
end L11

set_option Elab.async false
set_option linter.all false
set_option maxRecDepth 100000
set_option maxHeartbeats 4000000
namespace L12
open PySem PySem.Spec PyProof.Rows L2 L3 L4 L5 L6 L7 L8 L9 L10 L11
theorem bt_ValueError : bootBuiltins "ValueError" = some (.type "ValueError") := by decide +kernel
section
variable {X : Cx}
theorem vals_bls : ∀ {bs : List Bool} {its : List Value}, Vals (bs.map V.bl) its → its = bs.map Value.bool
  | [], _, h => by cases h; rfl
  | b :: bs, _, h => by
    cases h with
    | cons r rr => rw [vals_bls rr, show _ = Value.bool b from r]; rfl
theorem reads_bls (h : Heap) : ∀ bs : List Bool, ∃ as, ReadsAll h (bs.map Value.bool) (bs.map PyData.bool) as
  | [] => ⟨_, .nil⟩
  | b :: bs => let ⟨_, r⟩ := reads_bls h bs; ⟨_, .cons (.bool b) r⟩
theorem all_bls : ∀ bs : List Bool, (bs.map PyData.bool).all Shape.bool.has = true
  | [] => rfl
  | b :: bs => by rw [List.map_cons, List.all_cons, all_bls bs]; rfl
/-- xs.count(b) of bools -/
def rCountB (K : PySem.W.Frag) : V → List V → Hp → VK → Prop := fun x xs H Q => ∃ (a : Addr) (bs : List Bool) (c : Bool), x = .ref a ∧ xs = [.bl c] ∧ SqL K H a (bs.map V.bl) ∧ Q (.int (countIn (.bool c) (bs.map PyData.bool))) H
theorem mt_countB : MtR X "list.count" (rCountB X.K) := by
  intro pins s σ H x xs v us Q I rx rv h
  obtain ⟨a, bs, c, rfl, rfl, hS, hq⟩ := h
  cases (show v = Value.ref a from rx)
  obtain ⟨its, r, p, _⟩ := I.list hS
  have e := vals_bls r
  subst e
  cases rv with
  | cons r1 rr =>
    cases rr
    cases (show _ = Value.bool c from r1)
    obtain ⟨as, ra⟩ := reads_bls s.heap bs
    exact count_list_bools p.isList ra (all_bls bs) ⟨.int _, H, I.tok _, ⟨_, rfl⟩, hq⟩
end
/-- two readings of one function -/
theorem _root_.L2.FnOk.via {P : Program} {w : World} {K : PySem.W.Frag} {mg : Str → Option Value} {base : Heap} {CX : CXT} {k : Nat} {f : Addr} {fd : FuncData} {ps : List Str} {sp1 sp2 sp : Sp} (F1 : FnOk P w K mg base CX k f fd ps sp1)
    (F2 : FnOk P w K mg base CX k f fd ps sp2) (h : ∀ vs H Q E, sp vs H Q E → sp1 vs H Q E ∨ sp2 vs H Q E) : FnOk P w K mg base CX k f fd ps sp where
  len := fun vs H Q E q => (h vs H Q E q).elim (F1.len vs H Q E) (F2.len vs H Q E)
  run := fun A outer s H args us vs Q E hr he hb hv q => (h vs H Q E q).elim (F1.run A outer s H args us vs Q E hr he hb hv) (F2.run A outer s H args us vs Q E hr he hb hv)
/-- a kind that there is none of -/
def spb (C : Addr) (n : Nat) : Sp := fun vs H Q E => ∃ k rest, vs = .int k :: rest ∧ rest.length = n ∧ ¬ TF.Kind k ∧ ∀ H', Same H H' → E (.ref C) none H'
theorem rest0 {rest : List V} (h : rest.length = 0) : rest = [] := List.length_eq_zero_iff.mp h
theorem rest1 {rest : List V} (h : rest.length = 1) : ∃ a, rest = [a] := List.length_eq_one_iff.mp h
theorem rest2 {rest : List V} (h : rest.length = 2) : ∃ a b, rest = [a, b] := by
  match rest, h with
  | [a, b], _ => exact ⟨a, b, rfl⟩
instance {k : Int} : Decidable (TF.Kind k) := by unfold TF.Kind; infer_instance
theorem not_kind {k : Int} (h : ¬ TF.Kind k) : inV (.int k) [.int (-2), .int (-1), .int 2, .int 3] = false := by
  have h1 : k ≠ -2 := fun e => h (.inl e)
  have h2 : k ≠ -1 := fun e => h (.inr (.inl e))
  have h3 : k ≠ 2 := fun e => h (.inr (.inr (.inl e)))
  have h4 : k ≠ 3 := fun e => h (.inr (.inr (.inr e)))
  have e : ∀ a : Int, k ≠ a → eqV (.int a) (.int k) = false := fun a z => by
    show (a == k) = false
    exact beq_eq_false_iff_ne.mpr (Ne.symm z)
  unfold inV
  simp only [List.any_cons, List.any_nil, e _ h1, e _ h2, e _ h3, e _ h4, Bool.or_false]
/-- which refusal is due: 0 a kind, 1 by nought, 2 no unit -/
def out8 (wh : Nat) (k : Int) (x y : P2) : Option Nat :=
  if ¬ TF.Kind k then some 0 else if wh = 2 ∧ y = (0, 0) ∨ wh = 10 ∧ x = (0, 0) then some 1 else if (wh = 8 ∨ wh = 9) ∧ (TF.nm k x).natAbs ≠ 1 then some 2 else none
def word8 : Option Nat → Str
  | none => "done"
  | some 0 => "kind"
  | some 1 => "nought"
  | some _ => "unit"
end L12

set_option Elab.async false
set_option linter.all false
set_option maxRecDepth 100000
set_option maxHeartbeats 4000000
namespace L13
open PySem PySem.Spec PyProof.Rows L2 L3 L4 L5 L6 L7 L8 L9 L10 L11 L12
section
variable {X : Cx} {pins : List (Addr × Obj)} {k : Nat} {f : Addr} {fd : FuncData} {ps : List Str} {sp : Sp} {x : Str} {p pos bpos tpos : Pos} {e : Expr} {es : List Expr} {t : TA}
/-- what the clauses find, behind a call that is the whole body: the locals are as they were -/
def ThrownAt (X : Cx) (pins : List (Addr × Obj)) (σ : L2.St) (E' : XK) (ev : Value) (s' : Shared) : Prop :=
  ∃ e Cv H' H0 sc, ev = .ref e ∧ E' Cv none H' ∧ Inv X pins σ H0 sc ∧ Cau X.prog X.w X.stack H0 sc e Cv H' s'
def tTryC (sp : Sp) (t : TA) (th : TH) : TS := fun D σ H => ∃ E' : XK, (t σ H fun vs H1 => sp vs H1 (fun _ H' => D.nx σ H') E') ∧ ∀ Cv H', E' Cv none H' → ∃ C, Cv = .ref C ∧ th C D σ H'
theorem ps_tryC {h₀ : ExceptHandler} {hs : List ExceptHandler} {th : TH} (F : FnOk X.prog X.w X.K X.mg X.base (CX1 X.prog X.w) k f fd ps sp) (hr : Room k X.A) (hg : Gl X x) (hm : X.mg x = some (.ref f)) (hk : PySem.W.keepIn X.K (.ref f) = true) (hb : Binds X.K fd ps [])
    (hst : X.stack = X.env :: X.outer) (hfr : X.env.frame = some X.env.locals) (hex : X.ex = [])
    (ha : ∀ pn xe, PA (X.tried pn xe) (e :: es) t) (hh : PH X (h₀ :: hs) th)
    (hdb : (x == ("__debug__" : Str)) = false := by decide) (he : starEach (e :: es) X.env = (false, eval e X.env) :: starEach es X.env := by rfl) (hpl : (backTo pos (starEach es X.env)).any (·.1) = false := by rfl)
    (hsw : swapsWith (.Call (.Name x p) (e :: es) [] pos) none bpos.line X.env = pure false := by rfl) :
    PS X (.Try [.Expr (.Call (.Name x p) (e :: es) [] pos) bpos] (h₀ :: hs) [] [] tpos) (tTryC sp t th) := by
  intro pins s σ H D I h
  obtain ⟨E', h1, h2⟩ := h
  have I' : Inv (X.tried (X.pn ++ pins) (ThrownAt X pins σ E')) [] σ H s := inv_try I (ThrownAt X pins σ E')
  have body : wpAny (model X.prog X.w) X.A (execs [.Expr (.Call (.Name x p) (e :: es) [] pos) bpos] X.env) (SP (X.tried (X.pn ++ pins) (ThrownAt X pins σ E')) [] D) (ThrownAt X pins σ E') s := by
    refine wpAny_execs_cons (thn (wpAny_Expr_any (Q := SP (X.tried (X.pn ++ pins) (ThrownAt X pins σ E')) [] D) ?_ I.quiet hsw) fun f s1 q => ?_)
    · refine wpAny_Call_Name_kw (ld_glob (X := X.tried (X.pn ++ pins) (ThrownAt X pins σ E')) I' hg hm ?_ hdb)
      refine PySem.W.callWith_K (h₀ := X.base) I.ok.mod.kin hk (thn (ha (X.pn ++ pins) (ThrownAt X pins σ E') pos [] s σ H _ I' h1) fun us s1 ⟨vs, H1, I1, r, q⟩ => ⟨I1.kIn, ?_⟩) he hpl
      have hl : us.length = ps.length := by rw [← r.length]; exact F.len _ _ _ _ q
      have hbs : BindsTo s1 fd ⟨us, []⟩ (ps.zip us) := by
        have z := hb s1 us I1.kIn (by rw [List.append_nil]; exact hl)
        rw [List.append_nil] at z
        exact z
      refine wpAny_call (codeAny_mono (F.run X.A X.stack s1 H1 ⟨us, []⟩ us vs _ E' hr I1.env0 hbs r q) fun r s' hq => ?_)
      cases r with
      | error ev =>
        obtain ⟨e, C, H', rfl, c, hE⟩ := hq
        exact ⟨e, C, H', H1, s1, rfl, hE, inv_untry I1, c⟩
      | ok fl =>
        cases fl with
        | ret u =>
          obtain ⟨v, H', I2, _, q2⟩ := I1.after hq
          exact ⟨σ, H', I2, q2⟩
        | next => exact False.elim hq
        | brk => exact False.elim hq
        | cont => exact False.elim hq
    · cases f with
      | next => exact wpAny_execs_nil q
      | ret v => exact q
      | brk => exact q
      | cont => exact q
  refine wpAny_Try_except (wpAny_mono body (fun fl s1 q => ?_) fun ev s1 q => ?_)
  · have q := sp_untry q
    cases fl with
    | next =>
      obtain ⟨σ', H', I', q⟩ := q
      exact wpAny_execs_nil ⟨σ', H', I', q⟩
    | brk => exact q
    | cont => exact q
    | ret u => exact q
  · obtain ⟨e, Cv, H', H0, sc, rfl, hE, I0, ⟨os, bare, un, hok, B, a0, fl, br⟩⟩ := q
    obtain ⟨C, rfl, hth⟩ := h2 Cv H' hE
    have hfr' : X.A.frames = some (X.env :: X.outer) := by rw [← hst]; exact I.ok.frames
    rw [hst] at fl
    refine wpAny_looks_onW hfr' hfr fl fun h₄ held₄ sl₄ => ?_
    refine wpAny_landsW held₄ fun h₅ fl₅ sl₅ => ?_
    have nox : ∀ b, b ∉ X.ex := fun b z => by rw [hex] at z; cases z
    have neL : ∀ b o, X.s₀.heap.get? b = some o → b ≠ X.env.locals := fun b o q => Nat.ne_of_lt (Nat.lt_of_lt_of_le (Heap.lt_size q) I0.ok.above)
    refine hh pins { s1 with heap := h₅ } σ H' D e C ⟨B, a0, by rw [hst]; exact fl₅, fun h' st sl => inv_fly (s' := s1) I0 os bare un hok br st ((sl₄.trans sl₅).trans sl), fun b o q hbf => ?_, fun b u q => ?_, fun p hp => ?_⟩ I0.len hth
    · obtain ⟨o1, e1⟩ := I0.base.there b o q (nox b)
      exact br.any b o1 e1 fun z => (List.mem_cons.mp (I0.stkSub b z)).elim (neL b o q) hbf
    · obtain ⟨o, _, e2⟩ := br.trk b u q
      exact ⟨o, e2⟩
    · obtain ⟨a1, a2, a3, a4, a5⟩ := I0.pin p hp
      exact br.any p.1 p.2 a1 fun z => (List.mem_cons.mp (I0.stkSub p.1 z)).elim a3 a4
end
end L13

set_option Elab.async false
set_option linter.all false
set_option maxRecDepth 100000
set_option maxHeartbeats 4000000
namespace L14
open PySem PySem.Spec PyProof.Rows L2 L3 L4 L5 L6 L7 L8 L9 L10 L11 L12 L13
/-! ### a dict constant: the basic unit of each kind -/
structure BasD (K : PySem.W.Frag) (a : Addr) : Prop where
  ex : ∃ (n : Nat) (t1 t2 t3 t4 : Tok) (b1 b2 b3 b4 : Addr), K.lookup a = some ⟨.type "dict", none, .dict #[⟨hashInt (-2), .int (-2) t1, .ref b1⟩, ⟨hashInt (-1), .int (-1) t2, .ref b2⟩, ⟨hashInt 2, .int 2 t3, .ref b3⟩, ⟨hashInt 3, .int 3 t4, .ref b4⟩] n, #[]⟩ ∧
    (∀ H : Hp, SqT K H b1 [.int (-1), .int 0]) ∧ (∀ H : Hp, SqT K H b2 [.int 0, .int 1]) ∧ (∀ H : Hp, SqT K H b3 [.int 1, .int 1]) ∧ (∀ H : Hp, SqT K H b4 [.int 2, .int 1])
section
variable {X : Cx} {o i : Expr} {td ty : TE} {pos : Pos}
theorem BasD.dict {K : PySem.W.Frag} {a : Addr} (B : BasD K a) {P : Program} {w : World} {h : Heap} (hK : K.In h) : ∃ b1 b2 b3 b4 : Addr, h.DictOf (mixKind P w) a [(.inl (-2), .ref b1), (.inl (-1), .ref b2), (.inl 2, .ref b3), (.inl 3, .ref b4)] ∧
    (∀ H : Hp, SqT K H b1 [.int (-1), .int 0]) ∧ (∀ H : Hp, SqT K H b2 [.int 0, .int 1]) ∧ (∀ H : Hp, SqT K H b3 [.int 1, .int 1]) ∧ (∀ H : Hp, SqT K H b4 [.int 2, .int 1]) := by
  obtain ⟨n, t1, t2, t3, t4, b1, b2, b3, b4, e, h1, h2, h3, h4⟩ := B.ex
  refine ⟨b1, b2, b3, b4, ⟨_, _, _, hK _ _ e, ⟨rfl, rfl, rfl⟩, rfl, fun en he => ?_, .cons (mixKind_int P w _ _) rfl (.cons (mixKind_int P w _ _) rfl (.cons (mixKind_int P w _ _) rfl (.cons (mixKind_int P w _ _) rfl .nil))), show ([.inl (-2), .inl (-1), .inl 2, .inl 3] : List Key).Nodup by decide⟩, h1, h2, h3, h4⟩
  simp only [List.mem_toArray, List.mem_cons, List.not_mem_nil, or_false] at he
  rcases he with rfl | rfl | rfl | rfl
  · exact ⟨.inl (-2), mixKind_int P w _ _, rfl⟩
  · exact ⟨.inl (-1), mixKind_int P w _ _, rfl⟩
  · exact ⟨.inl 2, mixKind_int P w _ _, rfl⟩
  · exact ⟨.inl 3, mixKind_int P w _ _, rfl⟩
def tBas (K : PySem.W.Frag) (td ty : TE) : TE := fun σ H Q => td σ H fun x H1 => ty σ H1 fun y H2 => ∃ a k, x = .ref a ∧ y = .int k ∧ BasD K a ∧ TF.Kind k ∧ ∀ v, NumV K H2 v (TF.bu k) → Q v H2
theorem pe_bas (ho : PE X o td) (hi : PE X i ty) (hs : NoSl i) : PE X (.Subscript o i pos) (tBas X.K td ty) := by
  intro pins s σ H Q I h
  refine subD_of PySem.F.slot_dict_getitem.lookup hs (thn (ho pins s σ H _ I h) fun u s1 ⟨x, H1, I1, rx, q1⟩ => thn (hi pins s1 σ H1 _ I1 q1) fun iv s2 ⟨y, H2, I2, ry, a, k, ex, ey, B, hk, q2⟩ => ?_)
  subst ex ey
  obtain rfl : u = Value.ref a := rx
  obtain ⟨t, rfl⟩ : ∃ t, iv = Value.int k t := ry
  obtain ⟨b1, b2, b3, b4, d, h1, h2, h3, h4⟩ := B.dict (P := X.prog) (w := X.w) I2.kIn
  refine ⟨d.mapOf.typeIs, ?_⟩
  have key : ∃ b, valueAt ([(.inl (-2), .ref b1), (.inl (-1), .ref b2), (.inl 2, .ref b3), (.inl 3, .ref b4)] : List (Key × Value)) (.inl k) = some (.ref b) ∧ NumV X.K H2 (.ref b) (TF.bu k) := by
    rcases hk with rfl | rfl | rfl | rfl
    · exact ⟨b1, rfl, _, rfl, h1 _⟩
    · exact ⟨b2, rfl, _, rfl, h2 _⟩
    · exact ⟨b3, rfl, _, rfl, h3 _⟩
    · exact ⟨b4, rfl, _, rfl, h4 _⟩
  obtain ⟨b, hv, hn⟩ := key
  exact wpAny_getItem_of (mixKind_int X.prog X.w k t) d.mapOf hv ⟨.ref b, H2, I2.tok _, rfl, q2 _ hn⟩
end
/-! ### the division with factors, bounds by the second number -/
structure EucG (k : Int) (x y : P2) (M t : Nat) (u0 u1 u2 l0 l1 l2 : P2) : Prop where
  hM : M ≤ 2 ^ 46
  hy : Bd M y
  ht : t ≤ 241
  z0 : t = 0 → l0 = y
  eu : u0 = TF.add (TF.mul k u1 x) (TF.mul k u2 y)
  el : l0 = TF.add (TF.mul k l1 x) (TF.mul k l2 y)
  dv : ∀ d, TF.Goes k d u0 → TF.Goes k d l0 → TF.Goes k d x ∧ TF.Goes k d y
  nl : 4 ^ t * (TF.nm k l0).natAbs ≤ 3 ^ t * (TF.nm k y).natAbs
  pre : 0 < t → 4 ^ (t - 1) ≤ 3 ^ (t - 1) * (TF.nm k y).natAbs
  bu : Bd (2 ^ 500) u0
  bv : 0 < t → Bd (2 ^ t * M) u0
  bl : Bd (2 ^ t * M) l0
  c1 : Bd (2 ^ (792 * t)) u1
  c2 : Bd (2 ^ (792 * t)) u2
  c3 : Bd (2 ^ (792 * t)) l1
  c4 : Bd (2 ^ (792 * t)) l2
theorem EucG.step {k : Int} (hk : TF.Kind k) {x y : P2} {M t : Nat} {u0 u1 u2 l0 l1 l2 : P2} (E : EucG k x y M t u0 u1 u2 l0 l1 l2) (hl : l0 ≠ (0, 0)) :
    DivOk k u0 l0 ∧ FiN l1 ∧ FiN l2 ∧ FiN l0 ∧ EucG k x y M (t + 1) l0 l1 l2 (TF.rest k u0 l0) (TF.sub u1 (TF.mul k (TF.quo k u0 l0) l1)) (TF.sub u2 (TF.mul k (TF.quo k u0 l0) l2)) := by
  have hn : TF.nm k l0 ≠ 0 := fun h => hl ((TF.nm_zero hk).mp h)
  have hN : (TF.nm k y).natAbs ≤ 2 ^ 94 := by
    refine Nat.le_trans (E.hy.nm hk) ?_
    have := Nat.mul_le_mul E.hM E.hM
    have e : (2 : Nat) ^ 94 = 4 * (2 ^ 46 * 2 ^ 46) := by decide
    omega
  have ht := turns_few (Nat.le_trans E.nl (Nat.mul_le_mul_left _ hN)) (by omega)
  have hm : 2 ^ t * M ≤ 2 ^ 286 := by
    refine Nat.le_trans (Nat.mul_le_mul_left _ E.hM) ?_
    rw [← Nat.pow_add]
    exact Nat.pow_le_pow_right (by decide) (by omega)
  have b1 := E.bl.mono hm
  have d : DivOk k u0 l0 := ⟨hk, E.bu.mono (Nat.pow_le_pow_right (by decide) (by decide)), b1.mono (Nat.pow_le_pow_right (by decide) (by decide)), hl⟩
  have hq : Bd (2 ^ 789) (TF.quo k u0 l0) := by
    have h := E.bu.mul hk b1.conj
    have e : 4 * (2 ^ 500 * 2 ^ 286) = 2 ^ 788 := by rw [← Nat.pow_add, show (4 : Nat) = 2 ^ 2 by rfl, ← Nat.pow_add]
    have e2 : 2 ^ 789 = 2 ^ 788 * 2 := Nat.pow_succ 2 788
    have e3 : 1 ≤ 2 ^ 788 := Nat.one_le_two_pow
    have h1 := TF.rnd_bd (p := (TF.mul k u0 (TF.conj l0)).1) hn
    have h2 := TF.rnd_bd (p := (TF.mul k u0 (TF.conj l0)).2) hn
    have h3 := h.1
    have h4 := h.2
    rw [e] at h3 h4
    unfold TF.quo Bd
    dsimp only
    rw [e2]
    generalize (2 : Nat) ^ 788 = m at *
    omega
  have coef : ∀ {a b : P2}, Bd (2 ^ (792 * t)) a → Bd (2 ^ (792 * t)) b → Bd (2 ^ (792 * (t + 1))) (TF.sub a (TF.mul k (TF.quo k u0 l0) b)) := fun {a b} ha hb => by
    refine (ha.sub (hq.mul hk hb)).mono ?_
    have e1 : 792 * (t + 1) = 792 * t + 792 := by omega
    rw [e1, Nat.pow_add]
    have e2 : 4 * (2 ^ 789 * 2 ^ (792 * t)) = 2 ^ 791 * 2 ^ (792 * t) := by
      rw [← Nat.mul_assoc]
      congr 1
    have e3 : (2 : Nat) ^ 792 = 2 * 2 ^ 791 := by rw [Nat.pow_succ, Nat.mul_comm]
    have e4 : 2 ^ (792 * t) ≤ 2 ^ 791 * 2 ^ (792 * t) := Nat.le_mul_of_pos_left _ (Nat.two_pow_pos _)
    rw [e2, Nat.mul_comm (2 ^ (792 * t)), e3, Nat.mul_assoc]
    generalize 2 ^ 791 * 2 ^ (792 * t) = m at *
    omega
  have up : ∀ {a : P2}, Bd (2 ^ (792 * t)) a → Bd (2 ^ (792 * (t + 1))) a := fun ha => ha.mono (Nat.pow_le_pow_right (by decide) (by omega))
  have fi : ∀ {a : P2}, Bd (2 ^ (792 * t)) a → FiN a := fun ha => ha.fi (n := 792 * t + 1) (Nat.pow_lt_pow_right (by decide) (by omega)) (by omega)
  refine ⟨d, fi E.c3, fi E.c4, d.fy, ⟨E.hM, E.hy, by omega, fun z => (by omega), E.el, ?_, fun z g1 g2 => ?_, ?_, fun _ => ?_, b1.mono (Nat.pow_le_pow_right (by decide) (by decide)), fun _ => E.bl.mono pw1, ?_, up E.c3, up E.c4, coef E.c1 E.c3, coef E.c2 E.c4⟩⟩
  · have e1 := E.eu
    have e2 := E.el
    unfold TF.rest
    generalize TF.quo k u0 l0 = q
    subst e1 e2
    apply TF.ext <;> simp only [TF.mul, TF.add, TF.sub] <;> grind
  · refine E.dv z ?_ g1
    rw [← TF.quo_rest k u0 l0]
    exact TF.goes_add (TF.goes_mul _ g1) g2
  · exact nl_step (TF.rest_small hk u0 hl) E.nl
  · exact Nat.le_trans (Nat.le_mul_of_pos_right _ (by omega)) E.nl
  · exact (rest_bd hk u0 hl E.bl).mono pw2
theorem EucG.start {k : Int} (hk : TF.Kind k) {x y : P2} {M : Nat} (hM : M ≤ 2 ^ 46) (hx : Bd (2 ^ 500) x) (hy : Bd M y) : EucG k x y M 0 x (1, 0) (0, 0) y (0, 0) (1, 0) := by
  refine ⟨hM, hy, by decide, fun _ => rfl, ?_, ?_, fun d h1 h2 => ⟨h1, h2⟩, Nat.le_refl _, fun z => (by omega), hx, fun z => (by omega), by simpa using hy, ⟨by decide, by decide⟩, ⟨by decide, by decide⟩, ⟨by decide, by decide⟩, ⟨by decide, by decide⟩⟩
  · rw [TF.one_mul, TF.zero_mul]
    apply TF.ext <;> simp [TF.add]
  · rw [TF.one_mul, TF.zero_mul]
    apply TF.ext <;> simp [TF.add]
/-- how large the greatest common divisor may be -/
def GcdB (k : Int) (M : Nat) (y g : P2) : Prop := ∃ t, 0 < t ∧ Bd (2 ^ t * M) g ∧ 4 ^ (t - 1) ≤ 3 ^ (t - 1) * (TF.nm k y).natAbs
theorem EucG.gcdB {k : Int} {x y : P2} {M t : Nat} {u0 u1 u2 l0 l1 l2 : P2} (E : EucG k x y M t u0 u1 u2 l0 l1 l2) (hl : l0 = (0, 0)) (hy : y ≠ (0, 0)) : GcdB k M y u0 := by
  have h : 0 < t := Nat.pos_of_ne_zero fun z => hy ((E.z0 z).symm.trans hl)
  exact ⟨t, h, E.bv h, E.pre h⟩
theorem GcdB.bd {k : Int} {p : Nat} {y g : P2} (h : GcdB k p y g) (hN : (TF.nm k y).natAbs ≤ 4 * (p * p)) : Bd (64 * p ^ 6) g := by
  obtain ⟨t, h0, hb, h1⟩ := h
  obtain ⟨s, rfl⟩ : ∃ s, t = s + 1 := ⟨t - 1, by omega⟩
  rw [Nat.add_sub_cancel] at h1
  have h2 := TF.pow_few2 h1 hN
  refine hb.mono ?_
  have h3 := Nat.mul_le_mul_right (2 * p) h2
  have e1 : 2 ^ (s + 1) * p = 2 ^ s * (2 * p) := by rw [Nat.pow_succ, Nat.mul_assoc]
  have e2 : 32 * p ^ 5 * (2 * p) = 64 * p ^ 6 := by
    rw [Nat.pow_succ p 5]
    generalize p ^ 5 = q
    rw [Nat.mul_mul_mul_comm]
  rw [e1, ← e2]
  exact h3
/-! ### a number being parted -/
structure PartS (k : Int) (x rest : P2) (ps : List P2) (M : Nat) : Prop where
  prod : TF.mul k rest (TF.prodL k ps) = x
  crit : ∀ q ∈ ps, TF.Crit k q
  ne : rest ≠ (0, 0)
  bd : Bd M rest
  hM : M * TF.size k rest ^ 14 ≤ 2 ^ 13 * TF.size k x ^ 14
  bp : ∀ q ∈ ps, Bd (2 ^ 1000) q
  small : ∀ q ∈ ps, TF.size k q < 2 ^ 60
  len : 2 ^ ps.length * TF.size k rest ≤ TF.size k x
  dvd : TF.size k rest ∣ TF.size k x
theorem PartS.start {k : Int} {x : P2} (hx : Bd 5000 x) (h0 : x ≠ (0, 0)) : PartS k x x [] 5000 := by
  refine ⟨by show TF.mul k x (1, 0) = x; exact TF.mul_one k x, fun q hq => (nomatch hq), h0, hx, Nat.mul_le_mul_right _ (by decide), fun q hq => (nomatch hq), fun q hq => (nomatch hq), ?_, Nat.dvd_refl _⟩
  show 2 ^ 0 * _ ≤ _
  rw [Nat.pow_zero, Nat.one_mul]
  exact Nat.le_refl _
theorem PartS.szpos {k : Int} (hk : TF.Kind k) {x rest : P2} {ps : List P2} {M : Nat} (P : PartS k x rest ps M) : 0 < TF.size k rest := TF.nm_pos hk P.ne
theorem PartS.bits {k : Int} (hk : TF.Kind k) {x rest : P2} {ps : List P2} {M : Nat} (P : PartS k x rest ps M) (hS : TF.size k x < 2 ^ 27) : Bd (2 ^ 391) rest := by
  refine P.bd.mono ?_
  have h1 : M ≤ M * TF.size k rest ^ 14 := Nat.le_mul_of_pos_right _ (Nat.pow_pos (P.szpos hk))
  have h2 : TF.size k x ^ 14 ≤ (2 ^ 27) ^ 14 := Nat.pow_le_pow_left (Nat.le_of_lt hS) 14
  have h3 := Nat.le_trans (Nat.le_trans h1 P.hM) (Nat.mul_le_mul_left _ h2)
  exact Nat.le_trans h3 (by decide)
theorem quo_mul {k : Int} (hk : TF.Kind k) {x g : P2} (hg : TF.Goes k g x) (hx : x ≠ (0, 0)) : TF.mul k (TF.quo k x g) g = x := by
  have g0 : g ≠ (0, 0) := fun z => by
    subst z
    exact hx (TF.goes_zero.mp hg)
  have h := TF.quo_rest k x g
  rw [TF.rest_zero_of_goes hk g0 hg] at h
  refine Eq.trans ?_ h
  apply TF.ext <;> simp [TF.add]
theorem quo_bd {k : Int} (hk : TF.Kind k) {x g : P2} {m n : Nat} (hg : TF.Goes k g x) (hx : x ≠ (0, 0)) (bx : Bd m x) (bg : Bd n g) : Bd (4 * (m * n)) (TF.quo k x g) := by
  have e := quo_mul hk hg hx
  generalize TF.quo k x g = q at *
  have g0 : g ≠ (0, 0) := fun z => by
    subst z
    exact hx (TF.goes_zero.mp hg)
  have h := bx.mul hk bg.conj
  have e2 : TF.mul k x (TF.conj g) = TF.mul k q (TF.nm k g, 0) := by rw [← e, TF.mul_assoc, TF.mul_conj]
  rw [e2] at h
  have hp := TF.nm_pos hk g0
  obtain ⟨h1, h2⟩ := h
  simp only [TF.mul] at h1 h2
  have e3 : q.1 * TF.nm k g + k * q.2 * 0 = q.1 * TF.nm k g := by simp
  have e4 : q.1 * 0 + q.2 * TF.nm k g = q.2 * TF.nm k g := by simp
  rw [e3, Int.natAbs_mul] at h1
  rw [e4, Int.natAbs_mul] at h2
  exact ⟨Nat.le_trans (Nat.le_mul_of_pos_right _ hp) h1, Nat.le_trans (Nat.le_mul_of_pos_right _ hp) h2⟩
theorem PartS.step {k : Int} (hk : TF.Kind k) {x rest : P2} {ps : List P2} {M : Nat} (P : PartS k x rest ps M) (hS : TF.size k x < 2 ^ 27) {p : Nat} (hp : 2 ≤ p) (hps : p < 2 ^ 27) {g : P2} (hc : TF.Crit k g) (hg : TF.Goes k g rest) (bg : Bd (64 * p ^ 6) g) (hle : p ≤ TF.size k g) :
    PartS k x (TF.quo k rest g) (ps ++ [g]) (M * p ^ 14) ∧ TF.size k (TF.quo k rest g) < TF.size k rest := by
  have e := quo_mul hk hg P.ne
  have hb := quo_bd hk hg P.ne P.bd bg
  generalize TF.quo k rest g = q at *
  have q0 : q ≠ (0, 0) := fun z => by
    subst z
    rw [TF.zero_mul] at e
    exact P.ne e.symm
  have es : TF.size k rest = TF.size k q * TF.size k g := by
    unfold TF.size
    rw [← Int.natAbs_mul, ← TF.nm_mul, e]
  have sp := P.szpos hk
  have qp : 0 < TF.size k q := TF.nm_pos hk q0
  have gle : TF.size k g ≤ TF.size k x := by
    refine Nat.le_trans ?_ (Nat.le_of_dvd ?_ P.dvd)
    · rw [es]; exact Nat.le_mul_of_pos_left _ qp
    · have := P.len
      have h := Nat.two_pow_pos ps.length
      have := Nat.mul_pos h sp
      omega
  refine ⟨⟨?_, fun r hr => ?_, q0, hb.mono ?_, ?_, fun r hr => ?_, fun r hr => ?_, ?_, ?_⟩, ?_⟩
  · rw [TF.prodL_append, ← P.prod, ← e]
    have : TF.prodL k [g] = g := TF.mul_one k g
    rw [this, TF.mul_assoc, TF.mul_comm k g]
  · rcases List.mem_append.mp hr with z | z
    · exact P.crit r z
    · rw [List.mem_singleton.mp z]; exact hc
  · have h8 : 256 ≤ p ^ 8 := Nat.le_trans (show 256 ≤ 2 ^ 8 by decide) (Nat.pow_le_pow_left hp 8)
    have h1 := Nat.mul_le_mul_left (M * p ^ 6) h8
    have e1 : M * p ^ 6 * p ^ 8 = M * p ^ 14 := by rw [Nat.mul_assoc, ← Nat.pow_add]
    have e2 : 4 * (M * (64 * p ^ 6)) = M * p ^ 6 * 256 := by
      generalize p ^ 6 = a
      rw [Nat.mul_left_comm M 64 a, ← Nat.mul_assoc]
      exact Nat.mul_comm _ _
    rw [e2, ← e1]
    exact h1
  · refine Nat.le_trans ?_ P.hM
    rw [Nat.mul_assoc, ← Nat.mul_pow]
    refine Nat.mul_le_mul_left _ (Nat.pow_le_pow_left ?_ 14)
    rw [es, Nat.mul_comm]
    exact Nat.mul_le_mul_left _ hle
  · rcases List.mem_append.mp hr with z | z
    · exact P.bp r z
    · rw [List.mem_singleton.mp z]
      refine bg.mono ?_
      have h6 : p ^ 6 ≤ (2 ^ 27) ^ 6 := Nat.pow_le_pow_left (Nat.le_of_lt hps) 6
      have := Nat.mul_le_mul_left 64 h6
      refine Nat.le_trans this ?_
      have e : 64 * (2 ^ 27) ^ 6 = 2 ^ 168 := by decide
      rw [e]
      exact Nat.pow_le_pow_right (by decide) (by decide)
  · rcases List.mem_append.mp hr with z | z
    · exact P.small r z
    · rw [List.mem_singleton.mp z]
      exact Nat.lt_of_le_of_lt gle (Nat.lt_trans hS (by decide))
  · rw [List.length_append, List.length_singleton, Nat.pow_succ, Nat.mul_assoc]
    refine Nat.le_trans (Nat.mul_le_mul_left _ ?_) P.len
    rw [es, Nat.mul_comm]
    exact Nat.mul_le_mul_left _ (Nat.le_trans hp hle)
  · exact Nat.dvd_trans ⟨_, es⟩ P.dvd
  · rw [es]
    have := Nat.mul_le_mul_left (TF.size k q) (Nat.le_trans hp hle)
    omega
theorem PartS.done {k : Int} (hk : TF.Kind k) {x rest : P2} {ps : List P2} {M : Nat} (P : PartS k x rest ps M) (hS : TF.size k x < 2 ^ 27) (h1 : TF.size k rest = 1) : Parted k x rest ps := by
  refine ⟨h1, P.crit, P.prod, (P.bits hk hS).mono (Nat.pow_le_pow_right (by decide) (by decide)), P.bp, ?_, P.small⟩
  have h := P.len
  rw [h1, Nat.mul_one] at h
  refine Nat.le_of_not_lt fun z => ?_
  have := Nat.pow_le_pow_right (show 0 < 2 by decide) (show 27 ≤ ps.length by omega)
  omega
theorem no_prime_one {n S : Nat} (hn : 0 < n) (hd : n ∣ S) (h : ∀ q, TF.PrimeN q → q ∣ S → ¬ q ∣ n) : n = 1 := by
  refine Classical.byContradiction fun z => ?_
  obtain ⟨p, hp, hpn⟩ := TF.prime_div n n (Nat.le_refl _) (by omega)
  exact h p hp (Nat.dvd_trans hpn hd) hpn
theorem bd_size {k : Int} (hk : TF.Kind k) {x : P2} (hx : Bd 5000 x) : TF.size k x < 2 ^ 27 := Nat.lt_of_le_of_lt (hx.nm hk) (by decide)
end L14

set_option Elab.async false
set_option linter.all false
set_option maxRecDepth 100000
set_option maxHeartbeats 4000000
namespace L15
open PySem PySem.Spec PyProof.Rows L2 L3 L4 L5 L6 L7 L8 L9 L10 L11 L12 L13 L14
/-! ### [elt for x in range(a) if c] -/
def tLCI (fx : List Nat) (ta : TA) (tc : TT) (te : TE) : TE := fun σ H Q => ta σ H fun vs H1 => ∃ n : Nat, vs = [.int n] ∧ n < sizeLine ∧ ∃ (vals : List V) (W : Nat → List V → Hp → Prop), vals.length = fx.length ∧
  (∀ (j i : Nat) (v : V), fx[j]? = some i → vals[j]? = some v → σ[i]? = some (some v)) ∧ (∀ (i : Nat) xs Hc D ys zs, Hc D = some (.lst ys) → W i xs Hc → W i xs (upd Hc D (.lst zs))) ∧ (∀ H2, Same H1 H2 → W 0 [] H2) ∧
  (∀ (i : Nat) xs Hc, i < n → Same H1 Hc → W i xs Hc → tc (some (.int i) :: vals.map some) Hc fun b H' => Same Hc H' ∧ if b = true then te (some (.int i) :: vals.map some) H' fun v H'' => Same H' H'' ∧ W (i + 1) (xs ++ [v]) H'' else W (i + 1) xs H') ∧
  (∀ p xs H', Same H1 H' → H1 p = none → H' p = some (.lst xs) → W n xs H' → Q (.ref p) H')
section
variable {X : Cx}
theorem comp_runI {elt iter : Expr} {x : Str} {px pos : Pos} {sc : Scope} {c : Expr} {tc : TT} {te : TE} {cl : List (Str × Addr)} {Nc : List Str} {fx : List Nat} (hc : X.calm = true) (hex : X.ex = []) (ok : CompOk X sc cl x Nc fx)
    (hcd : ∀ s₀ H₀ C fp pn, PT (X.comp sc cl C Nc s₀ H₀ fp pn) c tc) (he : ∀ s₀ H₀ C fp pn, PE (X.comp sc cl C Nc s₀ H₀ fp pn) elt te) {pins : List (Addr × Obj)} {σ : L2.St} {H1 : Hp} {s2 : Shared} {it : Addr} {n : Nat} {Q : VK} {vals : List V} {W : Nat → List V → Hp → Prop} (I : Inv X pins σ H1 s2) (hn : n < sizeLine)
    (st : IsRangeIter s2.heap it (0 + ((0 : Nat) : Int) * 1) ((n : Int) - ((0 : Nat) : Int)) 1) (hit : FpOk X pins H1 it) (hl : vals.length = fx.length) (hv : ∀ (j i : Nat) (v : V), fx[j]? = some i → vals[j]? = some v → σ[i]? = some (some v))
    (hst : ∀ (i : Nat) xs Hc D ys zs, Hc D = some (.lst ys) → W i xs Hc → W i xs (upd Hc D (.lst zs))) (h0 : ∀ H2, Same H1 H2 → W 0 [] H2)
    (step : ∀ (i : Nat) xs Hc, i < n → Same H1 Hc → W i xs Hc → tc (some (.int i) :: vals.map some) Hc fun b H' => Same Hc H' ∧ if b = true then te (some (.int i) :: vals.map some) H' fun v H'' => Same H' H'' ∧ W (i + 1) (xs ++ [v]) H'' else W (i + 1) xs H')
    (fin : ∀ p xs H', Same H1 H' → H1 p = none → H' p = some (.lst xs) → W n xs H' → Q (.ref p) H') :
    wpAny (model X.prog X.w) X.A (newList []) (fun acc s₃ => wpAny (model X.prog X.w) X.A (newFunctionEnv sc X.env.globals cl [] X.env.qual none .none (some X.env)) (fun cenv s₄ =>
      codeAny (model X.prog X.w) X.A (.compStart (.ListComp elt [⟨.Name x px, iter, [c], 0⟩] sc pos) 0 (.ref it) acc { cenv with scope := relabel sc X.env }) (compPost (model X.prog X.w) X.A X.xe none (EP X pins σ Q) acc cenv.locals) s₄) X.xe s₃) X.xe s2 := by
  refine wpAny_newObj_type (wpAny_newFunctionEnv ok.ncell (by intro y hy; simp at hy) (fun h₁ hns₁ hsb₁ => ?_) ok.kind)
  dsimp only at hns₁ hsb₁ ⊢
  generalize hH2 : s2.heap.push { cls := .type "list", dict := none, data := .seq ([] : List Value).toArray } = H2 at hns₁ hsb₁ ⊢
  have hC : H2.objs.size = s2.heap.objs.size + 1 := by rw [← hH2, Heap.size_push]
  have hDC : s2.heap.objs.size ≠ H2.objs.size := by rw [hC]; exact Nat.ne_of_lt (Nat.lt_succ_self _)
  have hCle : s2.heap.objs.size ≤ H2.objs.size := by rw [hC]; exact Nat.le_succ _
  have below : ∀ b, b < s2.heap.objs.size → b ≠ H2.objs.size ∧ b ≠ s2.heap.objs.size := fun b hb => ⟨by rw [hC]; exact Nat.ne_of_lt (Nat.lt_succ_of_lt hb), Nat.ne_of_lt hb⟩
  have old : ∀ b o, s2.heap.get? b = some o → h₁.get? b = some o := fun b o e => hsb₁.extBut b o (below b (Heap.lt_size e)).1 (Heap.get?_push_of_some _ (hH2 ▸ Heap.get?_push_of_some _ e))
  have hacc : h₁.get? s2.heap.objs.size = some { cls := .type "list", data := .seq ([] : List Value).toArray } := hsb₁.extBut _ _ hDC (Heap.get?_push_of_some _ (hH2 ▸ Heap.get?_push_size _ rfl))
  have fD : H1 s2.heap.objs.size = none := I.hok.fresh (Nat.le_refl _)
  have fC : H1 H2.objs.size = none := I.hok.fresh hCle
  have itlt : it < s2.heap.objs.size := Heap.lt_size st
  have hok1 : HOk X.prog X.w (upd H1 s2.heap.objs.size (.lst [])) h₁ := I.hok.laid old (Nat.le_refl _) ⟨Nat.zero_le _, [], 0, .nil, hacc⟩
  have I0 := comp_start (tk := s2.toks + ([] : List (Str × Value)).length) (C := H2.objs.size) (fp := [it]) (H3 := upd H1 s2.heap.objs.size (.lst [])) ok I hCle hns₁ (by rw [upd_ne hDC.symm]; exact fC) (Un.laid old (Nat.le_refl _) fD) old
    (fun b o e nb => by rw [upd_ne (below b (Heap.lt_size e)).2]; exact nb) hok1 (fun b hb => by obtain rfl := List.mem_singleton.mp hb; exact hit) hex hl hv (fun b hb => by obtain rfl := List.mem_singleton.mp hb; exact itlt)
  have st1 : IsRangeIter h₁ it (0 + ((0 : Nat) : Int) * 1) ((n : Int) - ((0 : Nat) : Int)) 1 := old _ _ st
  have WR := Walks.range (prog := X.prog) (w := X.w) (I.ok.hd hc) it 0 1 n
  have hitc : ∀ {pns : List (Addr × Obj)} {Hc : Hp}, Hc it = none → (∀ p ∈ pns, p.1 ≠ it) → FpOk (X.comp sc cl H2.objs.size Nc s2 H1 [it] (X.pn ++ pins)) pns Hc it := fun {pns Hc} h1 h2 =>
    ⟨h1, (below it itlt).1, fun z => (List.mem_cons.mp (I.stkSub it z)).elim hit.2.1 hit.2.2.1, .inl (List.mem_singleton.mpr rfl), fun y c e => hit.2.2.2.2.1 y c (ok.sub _ _ e), fun p hp => (List.mem_append.mp hp).elim (fun z => hit.2.2.2.2.2 p z) (h2 p)⟩
  have loop : ∀ s₃ : Shared, s₃ = { s2 with heap := h₁, toks := s2.toks + ([] : List (Str × Value)).length } →
      codeAny (model X.prog X.w) X.A (.compLoop (.ListComp elt [⟨.Name x px, iter, [c], 0⟩] sc pos) 0 (.ref it) (.ref s2.heap.objs.size) (compEnvC sc cl H2.objs.size X.env))
        (compPost (model X.prog X.w) X.A X.xe none (EP X pins σ Q) (.ref s2.heap.objs.size) H2.objs.size) s₃ := by
    rintro s₃ rfl
    refine codeAny_compLoop_tests (fun k s => ∃ (i : Nat) (o : Option V) (xs : List V) (Hc : Hp), k = n - i ∧ i ≤ n ∧ xs.length ≤ i ∧ Inv (X.comp sc cl H2.objs.size Nc s2 H1 [it] (X.pn ++ pins)) [] (o :: vals.map some) Hc s ∧ IsRangeIter s.heap it (0 + (i : Int) * 1) ((n : Int) - (i : Int)) 1 ∧ Hc it = none ∧ Hc s2.heap.objs.size = some (.lst xs) ∧ Same H1 Hc ∧ W i xs Hc) ?_ n
      ⟨0, none, [], _, rfl, Nat.zero_le _, Nat.le_refl _, I0, st1, by rw [upd_ne (below it itlt).2]; exact hit.1, upd_same, Same.up fD, h0 _ (Same.up fD)⟩
    rintro k s3 ⟨i, o, xs, Hc, rfl, hi, hxl, Ic, st3, fi, hD, sm, w⟩
    by_cases hlt : i < n
    · refine WR.item i s3 _ _ hlt st3 fun v h' tk hv' st' kk => ?_
      obtain ⟨t, rfl⟩ := hv'
      obtain ⟨f0, f1, f2, f3, f4, f5⟩ := hitc (pns := []) fi (fun _ z => nomatch z)
      have I4 : Inv (X.comp sc cl H2.objs.size Nc s2 H1 [it] (X.pn ++ pins)) [] (o :: vals.map some) Hc { s3 with heap := h', toks := tk } := Ic.turned (fun b o hb e => kk b o (by simpa using hb) e) f0 f1 f3 f4 f5
      have I4p := I4.pinned (fp := [it]) (fun b hb => by obtain rfl := List.mem_singleton.mp hb; exact hitc fi (fun _ z => nomatch z)) (fun b hb => by
        obtain rfl := List.mem_singleton.mp hb
        exact ⟨_, st', fun v z => by
          have z' : Data.fields _ = Data.cell v := z
          cases z'⟩)
      show wpAny _ _ (assign (.Name x px) _ _) _ _ _
      refine wpAny_assign_Name (store_ok (X := X.comp sc cl H2.objs.size Nc s2 H1 [it] (X.pn ++ pins)) (v := .int (0 + (i : Int) * 1)) I4p ok.nd ok.head (.inl (lookup_relabel_local ok.loc)) ⟨t, rfl⟩ (fun s5 I5 => ?_) (.inr (lookup_relabel_local ok.loc)))
      have ei : (0 + (i : Int) * 1) = (i : Int) := by omega
      have I5' : Inv (X.comp sc cl H2.objs.size Nc s2 H1 [it] (X.pn ++ pins)) ([] ++ pinsAt [it] h') (some (.int (i : Int)) :: vals.map some) Hc s5 := by
        have z := I5
        rw [ei] at z
        exact z
      refine wpAny_tests_one (wpAny_mono (hcd s2 H1 H2.objs.size [it] (X.pn ++ pins) _ s5 _ Hc _ I5' (step i xs Hc hlt sm w)) (fun b s5' q5 => ?_) (fun _ _ z => z.elim))
      obtain ⟨Hb, Ib, smb, qb⟩ := q5
      cases b with
      | false =>
        rw [if_neg Bool.false_ne_true] at qb ⊢
        have pinb := Ib.pin (it, _) (List.mem_append_right _ (mem_pinsAt (List.mem_singleton.mpr rfl) st'))
        exact ⟨n - (i + 1), by omega, i + 1, _, xs, _, rfl, hlt, by omega, Ib.unpinned (pins := []), pinb.1, pinb.2.1, smb _ _ hD, fun b u e => smb _ _ (sm _ _ e), qb⟩
      | true =>
        rw [if_pos rfl] at qb ⊢
        refine wpAny_mono (he s2 H1 H2.objs.size [it] (X.pn ++ pins) _ s5' _ Hb _ Ib qb) (fun u s6 q6 => ?_) (fun _ _ z => z.elim)
        obtain ⟨y, H6, I6, r6, sm6, w6⟩ := q6
        have hD6 := sm6 _ _ (smb _ _ hD)
        refine wpAny_mono (mt_append (X := X.comp sc cl H2.objs.size Nc s2 H1 [it] (X.pn ++ pins)) _ s6 _ H6 (.ref s2.heap.objs.size) [y] (.ref s2.heap.objs.size) [u] (fun v H7 => v = .non ∧ H7 = upd H6 s2.heap.objs.size (.lst (xs ++ [y]))) I6 rfl (.cons r6 .nil) ⟨_, xs, y, rfl, rfl, hD6, by omega, rfl, rfl⟩) (fun u7 s7 q7 => ?_) (fun _ _ z => z.elim)
        obtain ⟨v7, H7, I7, r7, rfl, rfl⟩ := q7
        have pin7 := I7.pin (it, _) (List.mem_append_right _ (mem_pinsAt (List.mem_singleton.mpr rfl) st'))
        refine ⟨n - (i + 1), by omega, i + 1, _, xs ++ [y], _, rfl, hlt, by rw [List.length_append, List.length_singleton]; omega, I7.unpinned (pins := []), ?_, pin7.2.1, upd_same, ?_, hst _ _ _ _ _ _ hD6 w6⟩
        · exact pin7.1
        · intro b u e
          rw [upd_ne (ne_of_none e fD)]
          exact sm6 _ _ (smb _ _ (sm _ _ e))
    · have e : i = n := by omega
      subst e
      refine WR.done s3 _ _ st3 fun h' tk kk => ?_
      obtain ⟨f0, f1, f2, f3, f4, f5⟩ := hitc (pns := []) fi (fun _ z => nomatch z)
      have I4 : Inv (X.comp sc cl H2.objs.size Nc s2 H1 [it] (X.pn ++ pins)) [] (o :: vals.map some) Hc { s3 with heap := h', toks := tk } := Ic.turned (fun b o hb e => kk b o (by simpa using hb) e) f0 f1 f3 f4 f5
      obtain ⟨m4, hn4, _⟩ := id I4.loc
      refine ⟨m4, hn4, fun h'' sb => ?_⟩
      have kp : ∀ b o, b ≠ H2.objs.size → h'.get? b = some o → h''.get? b = some o := fun b o hb e => (sb.2 b hb).trans e
      have hokc : HOk X.prog X.w Hc h'' := fun b u e => by
        refine (I4.hok b u e).stay (fun c v hc q => kp c v ?_ q) (fun _ q => q) fun _ _ q => q
        have hfc : Hc H2.objs.size = none := I4.free
        rintro rfl
        rcases hc with z | z
        · rw [← z, hfc] at e; cases e
        · rw [hfc] at z; cases z
      have un4 : Un (frs X.stack) [it] H1 Hc s2.heap h' := I4.base
      have neC : ∀ b o, s2.heap.get? b = some o → b ≠ H2.objs.size := fun b o e => (below b (Heap.lt_size e)).1
      have un5 : Un (frs X.stack) [it] H1 Hc s2.heap h'' := ⟨fun b o e nb hb hx => kp b o (neC b o e) (un4.keep b o e nb hb hx), fun b o e nb hb hx => by
        obtain ⟨sl, e1⟩ := un4.slot b o e nb hb hx
        exact ⟨sl, kp b _ (neC b o e) e1⟩, un4.free, fun b o e hx => by
        obtain ⟨o', e1⟩ := un4.there b o e hx
        exact ⟨o', kp b _ (neC b o e) e1⟩, un4.tups, un4.frzs, un4.tbls⟩
      have I9 : Inv X pins σ Hc { s3 with heap := h'', toks := tk } := I.call' (s' := { s3 with heap := h'', toks := tk }) (ch := [it]) I4.os un5 hokc I4.bare (fun b hb => by
        obtain rfl := List.mem_singleton.mp hb
        exact ⟨hit.2.2.2.1, hit.2.1, hit.2.2.2.2.1, hit.2.2.2.2.2⟩)
      exact ⟨.ref s2.heap.objs.size, Hc, I9, rfl, fin _ xs Hc sm fD hD w⟩
  exact codeAny_compStart_list (loop _ rfl) (WR.self 0 _ _ _ st1 (loop _ rfl))
theorem pe_lcrI {elt a : Expr} {x : Str} {px p rpos pos : Pos} {sc : Scope} {ta : TA} {c : Expr} {tc : TT} {te : TE} {cl : List (Str × Addr)} {Nc : List Str} {fx : List Nat} (hg : Gl X "range") (hm : X.mg "range" = none) (hc : X.calm = true) (hex : X.ex = [])
    (ha : PA X [a] ta) (ok : CompOk X sc cl x Nc fx) (hcd : ∀ s₀ H₀ C fp pn, PT (X.comp sc cl C Nc s₀ H₀ fp pn) c tc) (he : ∀ s₀ H₀ C fp pn, PE (X.comp sc cl C Nc s₀ H₀ fp pn) elt te) (hs : starEach [a] X.env = [(false, eval a X.env)] := by rfl)
    (hfs : ∀ v, foldedSetIterable (.Call (.Name "range" p) [a] [] rpos) X.env v = pure v := by intro _; rfl) :
    PE X (.ListComp elt [⟨.Name x px, .Call (.Name "range" p) [a] [] rpos, [c], 0⟩] sc pos) (tLCI fx ta tc te) := by
  intro pins s σ H Q I h
  rw [eval_ListComp]
  refine wpAny_comprehension_free (use := none) rfl hfs ok.clos ok.kind ok.names ?_
  show wpAny _ _ (eval (.Call (.Name "range" p) [a] [] rpos) X.env) _ _ s
  refine Call_ (ld_blt I hg hm boot_range (PyProof.Rows.callWith_type1 (thn (ha rpos pins s σ H _ I h) fun us s1 ⟨vs, H1, I1, r1, q1⟩ => ?_) hs rfl))
  obtain ⟨n, e, hn, vals, W, hl, hv, hst, h0, step, fin⟩ := q1
  subst e
  obtain ⟨u, rfl, t, rfl⟩ := vals1 r1
  have hs16 : sizeLine = 16777216 := sizeLine_eq
  refine call_range_1 ?_
  refine wpAny_pyIter_range (IsRange.new ..) (small_one (by omega) (by omega) (by omega) (by omega)) ?_
  have Ia : ∀ tk, Inv X pins σ H1 { s1 with heap := s1.heap.push { cls := .type "range", data := .fields #[.int 0 s1.toks, .int n t, .int 1 (s1.toks + 1)] }, toks := tk } := fun tk => I1.kept fun b o e => Heap.get?_push_of_some _ e
  dsimp only
  refine comp_runI hc hex ok hcd he (W := W) (n := n) ?_ hn ?_ ?_ hl hv hst h0 step fin
  · exact (Ia 0).kept fun b o e => Heap.get?_push_of_some _ e
  · have e1 : (0 : Int) + ((0 : Nat) : Int) * 1 = 0 := by simp
    have e2 : (n : Int) - ((0 : Nat) : Int) = Builtin.Range.rangeSize 0 n 1 := by rw [rangeSize_one]; split <;> omega
    rw [e1, e2]
    exact Heap.get?_push_size _ rfl
  · exact (Ia 0).fpOk (Nat.le_refl _) (I1.hok.fresh (by rw [Heap.size_push]; exact Nat.le_succ _))
end
/-! ### an expression behind which one word is kept -/
section
variable {X : Cx} {e : Expr} {t : TE}
def tJE (t : TE) : TE := fun σ H Q => ∃ J : VK, (∀ v H', J v H' → Q v H') ∧ t σ H J
theorem pe_J (h : PE X e t) : PE X e (tJE t) := by
  intro pins s σ H Q I q
  obtain ⟨J, hJ, q⟩ := q
  exact thn (h pins s σ H _ I q) fun v s1 ⟨x, H1, I1, r1, q1⟩ => ⟨x, H1, I1, r1, hJ _ _ q1⟩
end
theorem sz0 : 0 ≤ sizeLine := Nat.zero_le _
theorem ne_t {m n : P2} (h : (if true = true then !decide (m = n) else decide (m = n)) = true) : m ≠ n := by simpa using h
theorem ne_f {m n : P2} (h : (if true = true then !decide (m = n) else decide (m = n)) = false) : m = n := by simpa using h
theorem pw_fi {k : Int} (hk : TF.Kind k) {b : P2} (hb : Bd 2 b) {n : Nat} (hn : n ≤ 3000) : FiN (TF.pw k b n) := by
  have h := pwF_bd hk hb (sign_bd (.inl rfl)) n
  have e : (8 : Nat) ^ n = 2 ^ (3 * n) := by rw [show (8 : Nat) = 2 ^ 3 by rfl, ← Nat.pow_mul]
  rw [e] at h
  exact h.fi (n := 3 * n + 1) (Nat.pow_lt_pow_right (by decide) (by omega)) (by omega)
theorem bu_fi {k : Int} (hk : TF.Kind k) : FiN (TF.bu k) := (bu_bd hk).fi (n := 10) (by decide) (by decide)
theorem bi_of {k : Int} (hk : TF.Kind k) {y : P2} (h : TF.mul k y (TF.bu k) = (1, 0)) : y = TF.bi k := by
  refine TF.mul_cancel hk (TF.unit_ne_zero (TF.bu_unit hk)) ?_
  rw [TF.bu_bi hk, TF.mul_comm, h]
theorem turn_one {k : Int} {x : P2} (hu : TF.Unit k x) : TF.mul k (TF.nm k x * (TF.conj x).1, TF.nm k x * (TF.conj x).2) x = (1, 0) := by
  have e : TF.mul k (TF.nm k x * (TF.conj x).1, TF.nm k x * (TF.conj x).2) x = TF.mul k (TF.nm k x, 0) (TF.mul k x (TF.conj x)) := by
    generalize TF.nm k x = n
    apply TF.ext <;> simp only [TF.mul, TF.conj] <;> grind
  rw [e, TF.mul_conj]
  have hn : TF.nm k x = 1 ∨ TF.nm k x = -1 := by
    have : (TF.nm k x).natAbs = 1 := hu
    omega
  rcases hn with z | z <;> rw [z] <;> simp [TF.mul]
theorem unit_fi {k : Int} {x : P2} (hu : TF.Unit k x) : Fi (TF.nm k x) := fi_of (n := 1) (by rw [show (TF.nm k x).natAbs = 1 from hu]; decide) (by decide)
theorem reach_fi {k : Int} {x : P2} {n : Nat} (R : TF.Reach k x n) (hx : Bd (2 ^ 3000) x) {m : Nat} (hm : m ≤ n) : FiN (TF.pw k (TF.bu k) m) := by
  obtain ⟨h1, h2⟩ := R.few m hm
  obtain ⟨h3, h4⟩ := hx
  have e : (2 : Nat) ^ 3004 = 2 ^ 3000 * 16 := by rw [show (16 : Nat) = 2 ^ 4 by rfl, ← Nat.pow_add]
  have e1 : 1 ≤ 2 ^ 3000 := Nat.one_le_two_pow
  have hb : Bd (2 ^ 3000 * 8) (TF.pw k (TF.bu k) m) := by
    unfold Bd
    generalize (2 : Nat) ^ 3000 = B at *
    omega
  refine hb.fi (n := 3004) ?_ (by decide)
  rw [e]
  generalize (2 : Nat) ^ 3000 = B at *
  omega
theorem reach_neg {k : Int} (hk : TF.Kind k) (hn : k < 0) {x : P2} (hu : TF.Unit k x) : ∃ n, TF.Reach k x n ∧ Told k x 1 n := by
  have un : ∀ n : Nat, TF.unitOf k 1 n = TF.pw k (TF.bu k) n := fun n => by
    unfold TF.unitOf
    rw [if_neg (by omega), Int.natAbs_natCast, TF.one_mul]
  rcases hk with rfl | rfl | rfl | rfl
  · obtain ⟨n, h, R⟩ := TF.reach_m2 hu
    exact ⟨n, R, .inl rfl, (un n).trans R.at_, fun z => absurd z (by decide), fun _ => ⟨rfl, by omega, by omega⟩⟩
  · obtain ⟨n, h, R⟩ := TF.reach_m1 hu
    exact ⟨n, R, .inl rfl, (un n).trans R.at_, fun _ => ⟨rfl, by omega, by omega⟩, fun z => absurd z (by decide)⟩
  · exact absurd hn (by decide)
  · exact absurd hn (by decide)
end L15

namespace TF
/-- the figures of a number, as code points -/
def dig (n : Nat) : List Nat := (Nat.toDigits 10 n).map Char.toNat
theorem digitChar10 : ∀ d, d < 10 → (Nat.digitChar d).toNat = 48 + d := by decide
theorem dig_lt {n : Nat} (h : n < 10) : dig n = [48 + n] := by
  unfold dig
  rw [Nat.toDigits_of_lt_base h, List.map_singleton, digitChar10 n h]
theorem dig_step {n d : Nat} (hn : 0 < n) (hd : d < 10) : dig (10 * n + d) = dig n ++ [48 + d] := by
  unfold dig
  rw [← Nat.toDigits_append_toDigits (by decide) hn hd, List.map_append, Nat.toDigits_of_lt_base hd, List.map_singleton, digitChar10 d hd]
theorem dig_div {n : Nat} (h : 10 ≤ n) : dig n = dig (n / 10) ++ [48 + n % 10] := by
  have e : n = 10 * (n / 10) + n % 10 := by omega
  conv => lhs; rw [e]
  exact dig_step (by omega) (by omega)
theorem dig_ind {P : Nat → Prop} (h0 : ∀ n, n < 10 → P n) (h1 : ∀ n, 10 ≤ n → P (n / 10) → P n) : ∀ n, P n := by
  intro n
  induction n using Nat.strongRecOn with
  | ind n ih =>
    by_cases h : n < 10
    · exact h0 n h
    · exact h1 n (by omega) (ih (n / 10) (by omega))
def isFig (c : Nat) : Bool := decide (48 ≤ c) && decide (c ≤ 57)
theorem dig_fig : ∀ n, ∀ c ∈ dig n, isFig c = true := by
  refine dig_ind (fun n h c hc => ?_) (fun n h ih c hc => ?_)
  · rw [dig_lt h] at hc
    rw [List.mem_singleton.mp hc]
    simp [isFig]
    omega
  · rw [dig_div h] at hc
    rcases List.mem_append.mp hc with z | z
    · exact ih c z
    · rw [List.mem_singleton.mp z]
      simp [isFig]
      omega
theorem dig_ne (n : Nat) : dig n ≠ [] := by
  by_cases h : n < 10
  · rw [dig_lt h]; simp
  · rw [dig_div (by omega)]; simp
def val (l : List Nat) : Nat := l.foldl (fun w c => 10 * w + (c - 48)) 0
theorem val_snoc (l : List Nat) (c : Nat) : val (l ++ [c]) = 10 * val l + (c - 48) := by
  unfold val
  rw [List.foldl_append]
  rfl
theorem val_dig : ∀ n, val (dig n) = n := by
  refine dig_ind (fun n h => ?_) (fun n h ih => ?_)
  · rw [dig_lt h]
    show 10 * 0 + (48 + n - 48) = n
    omega
  · rw [dig_div h, val_snoc, ih]
    omega
theorem dig_head : ∀ n, 0 < n → (dig n).head? ≠ some 48 := by
  refine dig_ind (fun n h h0 => ?_) (fun n h ih h0 => ?_)
  · rw [dig_lt h]
    simp
    omega
  · rw [dig_div h]
    have := ih (by omega)
    cases hd : dig (n / 10) with
    | nil => exact absurd hd (dig_ne _)
    | cons c l => rw [hd] at this; simpa using this
theorem dig_len : ∀ (k n : Nat), n < 10 ^ (k + 1) → (dig n).length ≤ k + 1
  | 0, n, h => by
    rw [dig_lt (by simpa using h)]
    simp
  | k + 1, n, h => by
    by_cases h10 : n < 10
    · rw [dig_lt h10]; simp
    · rw [dig_div (by omega), List.length_append, List.length_singleton]
      have := dig_len k (n / 10) (by rw [Nat.pow_succ] at h; omega)
      omega
/-- a whole number by its figures -/
def figs (l : List Nat) : Bool := !l.isEmpty && !(decide (l.head? = some 48) && decide (l ≠ [48])) && l.all isFig
theorem figs_dig (n : Nat) : figs (dig n) = true := by
  have h1 := dig_ne n
  have h2 : (dig n).all isFig = true := List.all_eq_true.mpr (dig_fig n)
  unfold figs
  rw [h2]
  by_cases h0 : n = 0
  · subst h0; decide
  · have := dig_head n (by omega)
    simp [h1, this]
def partF (below : Bool) (l : List Nat) : Option Int := if figs l && !(below && decide (l = [48])) then some (if below then -(val l : Int) else val l) else none
theorem part_dig (n : Nat) (below : Bool) (h : below = true → n ≠ 0) : partF below (dig n) = some (if below then -(n : Int) else n) := by
  unfold partF
  rw [figs_dig, val_dig]
  cases below with
  | false => rfl
  | true =>
    have h1 : dig n ≠ [48] := fun z => by
      have := congrArg val z
      rw [val_dig] at this
      exact h rfl this
    simp [h1]
def cutL (c : Nat) (l : List Nat) : List Nat := l.takeWhile (· ≠ c)
def cutR (c : Nat) (l : List Nat) : List Nat := (l.dropWhile (· ≠ c)).drop 1
/-- what a line says -/
def readF (l : List Nat) : Option P2 :=
  if l.getLast? = some 119 then
    (let fb := decide (l.head? = some 45)
     let u := if fb then l.drop 1 else l
     let sb := u.contains 45
     let sep := if sb then 45 else 43
     match partF fb (cutL sep u), partF sb (cutR sep u).dropLast with
     | some a, some b => some (a, b)
     | _, _ => none)
  else none
def sgn (b : Int) : Nat := if b < 0 then 45 else 43
def bodyF (a b : Int) : List Nat := dig a.natAbs ++ sgn b :: dig b.natAbs
def lineF (a b : Int) : List Nat := (if a < 0 then [45] else []) ++ (bodyF a b ++ [119])
theorem no_fig {c : Nat} (hc : isFig c = false) (n : Nat) : c ∉ dig n := fun z => by
  have := dig_fig n c z
  rw [hc] at this
  cases this
theorem cutL_at {c : Nat} {x y : List Nat} (h : c ∉ x) : cutL c (x ++ c :: y) = x := by
  unfold cutL
  rw [List.takeWhile_append_of_pos (fun a ha => by simp; rintro rfl; exact h ha)]
  simp
theorem cutR_at {c : Nat} {x y : List Nat} (h : c ∉ x) : cutR c (x ++ c :: y) = y := by
  unfold cutR
  rw [List.dropWhile_append_of_pos (fun a ha => by simp; rintro rfl; exact h ha)]
  simp
/-- the whole of a line with a tail behind the figures -/
theorem read_tail {a b : Int} {t : List Nat} (ht : 45 ∉ t ∨ b < 0) : readF ((if a < 0 then [45] else []) ++ (bodyF a b ++ t)) =
    if ((if a < 0 then [45] else []) ++ (bodyF a b ++ t)).getLast? = some 119 then (match partF (decide (b < 0)) (dig b.natAbs ++ t).dropLast with | some y => some (a, y) | none => none) else none := by
  have e45 : ∀ n, 45 ∉ dig n := no_fig (by decide)
  have e43 : ∀ n, 43 ∉ dig n := no_fig (by decide)
  unfold readF
  by_cases hl : ((if a < 0 then [45] else []) ++ (bodyF a b ++ t)).getLast? = some 119
  case neg => rw [if_neg hl, if_neg hl]
  case pos =>
    rw [if_pos hl, if_pos hl]
    have hfb : decide (((if a < 0 then [45] else []) ++ (bodyF a b ++ t)).head? = some 45) = decide (a < 0) := by
      by_cases h : a < 0
      · simp [h]
      · simp only [h, if_false, List.nil_append, decide_false]
        unfold bodyF
        cases hd : dig a.natAbs with
        | nil => exact absurd hd (dig_ne _)
        | cons c l =>
          have hc := dig_fig a.natAbs c (by rw [hd]; simp)
          simp only [List.cons_append, List.head?_cons, Option.some.injEq, decide_eq_false_iff_not]
          rintro rfl
          exact absurd hc (by decide)
    have hu : (if decide (a < 0) = true then ((if a < 0 then [45] else []) ++ (bodyF a b ++ t)).drop 1 else (if a < 0 then [45] else []) ++ (bodyF a b ++ t)) = bodyF a b ++ t := by
      by_cases h : a < 0
      · simp [h]
      · simp [h]
    have eb : bodyF a b ++ t = dig a.natAbs ++ sgn b :: (dig b.natAbs ++ t) := by simp [bodyF]
    have hsb : (bodyF a b ++ t).contains 45 = decide (b < 0) := by
      rw [eb]
      by_cases h : b < 0
      · simp [sgn, h]
      · have h3 : 45 ∉ t := ht.resolve_right h
        simp [sgn, h, e45, h3]
    simp only [hfb, hu, hsb]
    have hsep : (if decide (b < 0) = true then 45 else 43) = sgn b := by
      by_cases h : b < 0 <;> simp [sgn, h]
    rw [hsep, eb]
    have hns : sgn b ∉ dig a.natAbs := by
      unfold sgn
      split
      · exact e45 _
      · exact e43 _
    rw [cutL_at hns, cutR_at hns, part_dig a.natAbs (decide (a < 0)) (fun h => by have := of_decide_eq_true h; omega)]
    have ea : (if decide (a < 0) = true then -(a.natAbs : Int) else (a.natAbs : Int)) = a := by
      by_cases h : a < 0
      · simp only [h, decide_true, if_true]; omega
      · simp only [h, decide_false, Bool.false_eq_true, if_false]; omega
    rw [ea]
    cases partF (decide (b < 0)) (dig b.natAbs ++ t).dropLast <;> rfl
theorem last_tail {h m : List Nat} {c : Nat} : (h ++ (m ++ [c])).getLast? = some c := by
  rw [← List.append_assoc]
  simp
theorem read_line (a b : Int) : readF (lineF a b) = some (a, b) := by
  unfold lineF
  rw [read_tail (.inl (by decide)), if_pos last_tail, List.dropLast_concat, part_dig b.natAbs (decide (b < 0)) (fun h => by have := of_decide_eq_true h; omega)]
  by_cases h : b < 0
  · simp only [h, decide_true, if_true]
    congr 2
    omega
  · simp only [h, decide_false, Bool.false_eq_true, if_false]
    congr 2
    omega
theorem part_bad {below : Bool} {l : List Nat} {c : Nat} (h : c ∈ l) (hc : isFig c = false) : partF below l = none := by
  have : l.all isFig = false := by
    rw [List.all_eq_false]
    exact ⟨c, h, by rw [hc]; decide⟩
  unfold partF figs
  rw [this]
  simp
theorem line_app (a b : Int) (t : List Nat) : lineF a b ++ t = (if a < 0 then [45] else []) ++ (bodyF a b ++ (119 :: t)) := by
  unfold lineF
  simp [List.append_assoc]
theorem read_behind (a b : Int) (t : List Nat) (h : t = [119] ∨ t = [32] ∨ t = [49] ∨ t = [43, 49, 119]) : readF (lineF a b ++ t) = none := by
  rw [line_app]
  rcases h with rfl | rfl | rfl | rfl
  · rw [read_tail (.inl (by decide))]
    rw [part_bad (c := 119) (by simp) (by decide)]
    exact ite_self _
  · rw [read_tail (.inl (by decide)), if_neg]
    rw [show ([119, 32] : List Nat) = [119] ++ [32] by rfl, ← List.append_assoc (bodyF a b), last_tail]
    decide
  · rw [read_tail (.inl (by decide)), if_neg]
    rw [show ([119, 49] : List Nat) = [119] ++ [49] by rfl, ← List.append_assoc (bodyF a b), last_tail]
    decide
  · rw [read_tail (.inl (by decide))]
    rw [part_bad (c := 119) (by simp) (by decide)]
    exact ite_self _
theorem read_cut (a b : Int) : readF (lineF a b).dropLast = none := by
  have e : (lineF a b).dropLast = (if a < 0 then [45] else []) ++ (bodyF a b ++ []) := by
    unfold lineF
    rw [← List.append_assoc, List.dropLast_concat, List.append_nil]
  rw [e, read_tail (.inl (by decide)), if_neg]
  rw [List.append_nil]
  intro z
  have hm := List.mem_of_getLast? z
  have h1 : (119 : Nat) ∉ dig a.natAbs := no_fig (by decide) _
  have h2 : (119 : Nat) ∉ dig b.natAbs := no_fig (by decide) _
  unfold bodyF sgn at hm
  split at hm <;> split at hm <;> simp [h1, h2] at hm
end TF

set_option Elab.async false
set_option linter.all false
set_option maxRecDepth 100000
set_option maxHeartbeats 4000000
namespace L16
open PySem PySem.Spec PyProof.Rows
open PySem.Builtin.Str (occurrences subAt strSub)
/-- a text by its code points -/
abbrev S (l : List Nat) : Str := ⟨l.toArray⟩
theorem S_cps (l : List Nat) : (S l).cps.toList = l := rfl
theorem S_len (l : List Nat) : (S l).length = l.length := by simp [Str.length]
theorem S_app (a b : List Nat) : S a ++ S b = S (a ++ b) := by
  show Str.mk (a.toArray ++ b.toArray) = _
  simp
theorem S_inj {a b : List Nat} (h : S a = S b) : a = b := by
  have := congrArg (fun s : Str => s.cps.toList) h
  simpa using this
theorem S_of (x : Str) : S x.cps.toList = x := rfl
/-! ### what the methods say of code points -/
theorem ends_one (l : List Nat) (c : Nat) : Txt.endswith (S l) (S [c]) = decide (l.getLast? = some c) := by
  unfold Txt.endswith
  rw [StrLaws.subAt_eq, S_len, S_len]
  rcases List.eq_nil_or_concat l with rfl | ⟨m, d, rfl⟩
  · simp
  · simp [Bool.beq_eq_decide_eq]
theorem starts_one (l : List Nat) (c : Nat) : Txt.startswith (S l) (S [c]) = decide (l.head? = some c) := by
  unfold Txt.startswith
  rw [StrLaws.subAt_eq, S_len, S_len]
  cases l with
  | nil => simp
  | cons d l => simp [Bool.beq_eq_decide_eq]
theorem in_one (l : List Nat) (c : Nat) : (!(occurrences (S l) (S [c]) 0 (S l).length 1).isEmpty) = l.contains c := by
  have := StrLaws.found_one (S l) c
  rw [this]
  simp
theorem part_one (l : List Nat) (c : Nat) (h : c ∈ l) : Txt.partition (S l) (S [c]) = (S (TF.cutL c l), S [c], S (TF.cutR c l)) := by
  unfold Txt.partition
  rcases StrLaws.occ_head (S l) ⟨#[c]⟩ 1 (Nat.le_refl 1) with ⟨_, hn⟩ | ⟨i, r, h0, hi, hn⟩
  · exfalso
    obtain ⟨j, hj⟩ := List.getElem?_of_mem h
    exact hn j ((StrLaws.subAt_one (S l) c j).mpr hj)
  · rw [show occurrences (S l) (S [c]) 0 (S l).length 1 = i :: r from h0]
    have hm : l[i]? = some c := (StrLaws.subAt_one (S l) c i).mp hi
    have hk : ∀ k, k < i → l[k]? ≠ some c := fun k hk e => hn k hk ((StrLaws.subAt_one (S l) c k).mpr e)
    have e1 : TF.cutR c l = l.drop (i + 1) := by
      unfold TF.cutR
      have := dropWhile_at hm hk
      have e : (fun x => decide (x ≠ c)) = (fun x => x != c) := by
        funext x
        by_cases hx : x = c <;> simp [hx]
      rw [show (l.dropWhile (· ≠ c)) = l.dropWhile (fun x => x != c) by rw [← e], this]
      rfl
    have e2 : TF.cutL c l = l.take i := by
      unfold TF.cutL
      clear e1 h0 hi hn h
      induction l generalizing i with
      | nil => simp at hm
      | cons d l ih =>
        cases i with
        | zero =>
          have : d = c := by simpa using hm
          subst this
          simp
        | succ i =>
          have h1 : d ≠ c := fun e => hk 0 (by omega) (by simp [e])
          rw [List.takeWhile_cons_of_pos (by simpa using h1), ih i (by simpa using hm) (fun k hk' => by have := hk (k + 1) (by omega); simpa using this)]
          rfl
    rw [e1, e2]
    have f1 : strSub (S l) 0 i = S (l.take i) := by
      rw [← S_of (strSub (S l) 0 i), StrLaws.strSub_toList]
      simp
    have f2 : strSub (S l) (i + (S [c]).length) (S l).length = S (l.drop (i + 1)) := by
      rw [← S_of (strSub (S l) (i + (S [c]).length) (S l).length), StrLaws.strSub_toList, S_len, S_len]
      congr 2
      exact List.take_of_length_le (by simp)
    show (strSub (S l) 0 i, S [c], strSub (S l) (i + (S [c]).length) (S l).length) = _
    rw [f1, f2]
theorem part_none (l : List Nat) (c : Nat) (h : c ∉ l) : Txt.partition (S l) (S [c]) = (S (TF.cutL c l), S [], S (TF.cutR c l)) := by
  unfold Txt.partition
  rcases StrLaws.occ_head (S l) ⟨#[c]⟩ 1 (Nat.le_refl 1) with ⟨h0, _⟩ | ⟨i, r, h0, hi, hn⟩
  · rw [show occurrences (S l) (S [c]) 0 (S l).length 1 = [] from h0]
    have e1 : TF.cutL c l = l := by
      unfold TF.cutL
      have := List.takeWhile_append_of_pos (p := fun x => decide (x ≠ c)) (l₁ := l) (l₂ := []) (fun x hx => by
        have : x ≠ c := fun e => h (e ▸ hx)
        simpa using this)
      simpa using this
    have e2 : TF.cutR c l = [] := by
      unfold TF.cutR
      have := dropWhile_none h
      have e : (fun x => decide (x ≠ c)) = (fun x => x != c) := by
        funext x
        by_cases hx : x = c <;> simp [hx]
      rw [show (l.dropWhile (· ≠ c)) = l.dropWhile (fun x => x != c) by rw [← e], this]
      rfl
    rw [e1, e2]
    rfl
  · exact absurd (List.mem_of_getElem? ((StrLaws.subAt_one (S l) c i).mp hi)) h
theorem slice_1 (l : List Nat) (h : l ≠ []) : Txt.slice (S l) (some 1) none = S (l.drop 1) := by
  show StrLaws.sliceText (S l) (some 1) none = _
  cases l with
  | nil => exact absurd rfl h
  | cons d l =>
    rw [StrLaws.sliceText_from ⟨by decide, by simp; omega⟩]
    simp
theorem slice_m1 (l : List Nat) (h : l ≠ []) : Txt.slice (S l) none (some (-1)) = S l.dropLast := by
  show StrLaws.sliceText (S l) none (some (-1)) = _
  rw [StrLaws.sliceText_to_neg (by decide) (by rw [S_len]; have := List.length_pos_iff.mpr h; omega)]
  rw [List.dropLast_eq_take]
  have hl := List.length_pos_iff.mpr h
  rw [S_len, S_cps, List.drop_zero]
  congr 3
  omega
theorem slice_m1n : Txt.slice (S []) none (some (-1)) = S [] := by decide
/-! ### the ten figures -/
def figL : List Nat := [48, 49, 50, 51, 52, 53, 54, 55, 56, 57]
theorem figs_eq : Str.ofString "0123456789" = S figL := by decide +kernel
theorem fig_in (c : Nat) : figL.contains c = TF.isFig c := by
  unfold figL TF.isFig
  by_cases h : 48 ≤ c ∧ c ≤ 57
  · have : c = 48 ∨ c = 49 ∨ c = 50 ∨ c = 51 ∨ c = 52 ∨ c = 53 ∨ c = 54 ∨ c = 55 ∨ c = 56 ∨ c = 57 := by omega
    rcases this with rfl | rfl | rfl | rfl | rfl | rfl | rfl | rfl | rfl | rfl <;> decide
  · have e : (decide (48 ≤ c) && decide (c ≤ 57)) = false := by
      rw [Bool.and_eq_false_iff]
      by_cases h1 : 48 ≤ c
      · right; exact decide_eq_false (fun z => h ⟨h1, z⟩)
      · left; exact decide_eq_false h1
    rw [e]
    simp only [List.contains_eq_any_beq, List.any_cons, List.any_nil, Bool.or_false, Bool.or_eq_false_iff, beq_eq_false_iff_ne]
    omega
theorem fig_at {c : Nat} (h : TF.isFig c = true) : ∃ r, occurrences (S figL) (S [c]) 0 (S figL).length 1 = (c - 48) :: r := by
  have : c = 48 ∨ c = 49 ∨ c = 50 ∨ c = 51 ∨ c = 52 ∨ c = 53 ∨ c = 54 ∨ c = 55 ∨ c = 56 ∨ c = 57 := by
    unfold TF.isFig at h
    rw [Bool.and_eq_true, decide_eq_true_iff, decide_eq_true_iff] at h
    omega
  rcases this with rfl | rfl | rfl | rfl | rfl | rfl | rfl | rfl | rfl | rfl <;> exact ⟨[], by decide +kernel⟩
/-! ### the text of an int -/
theorem nat_text (n : Nat) : Str.ofString (Nat.repr n) = S (TF.dig n) := by
  rw [Str.ofString_eq_toList, Nat.repr_eq_ofList_toDigits, String.toList_ofList]
  rfl
theorem int_text (a : Int) : Str.ofString (toString a) = S ((if a < 0 then [45] else []) ++ TF.dig a.natAbs) := by
  cases a with
  | ofNat n =>
    rw [if_neg (by simp)]
    exact nat_text n
  | negSucc n =>
    rw [if_pos (Int.negSucc_lt_zero n)]
    show Str.ofString ("-" ++ Nat.repr (n + 1)) = _
    rw [Str.ofString_eq_toList, String.toList_append, List.map_append, show (Nat.repr (n + 1)).toList = Nat.toDigits 10 (n + 1) by rw [Nat.repr_eq_ofList_toDigits, String.toList_ofList]]
    rfl
/-! ### joining signs -/
theorem joined : ∀ l : List Nat, Txt.join (S []) (l.map fun c => S [c]) = S l := by
  intro l
  unfold Txt.join
  rw [StrLaws.glued_eq_join]
  exact join_ones l
theorem join_ok {l : List Nat} (h : l.length ≤ 1000) : JoinOk (S []) (l.map fun c => S [c]) = true := by
  unfold JoinOk
  rw [StrLaws.joinFits (B := 1) (fun y hy => ?_) ?_]
  · rfl
  · rw [List.length_map]
    show l.length * 1 + l.length * 0 ≤ 16777216
    omega
  · obtain ⟨c, _, rfl⟩ := List.mem_map.mp hy
    exact Nat.le_refl _
end L16

set_option Elab.async false
set_option linter.all false
set_option maxRecDepth 100000
set_option maxHeartbeats 4000000
/-! ### sep.join(reversed(xs)): the iterator that walks a list from its end -/
namespace LJ
open PySem PySem.Builtin
theorem rev_len : typeLookup (.type "list_reverseiterator") "__len__" = pure none := by
  rw [typeLookup_type, builtinLookup_eq_fast]
  kernel_rfl
theorem rev_hint : typeLookup (.type "list_reverseiterator") "__length_hint__" = pure (some (.builtin "list_reverseiterator.__length_hint__")) := by
  rw [typeLookup_type, builtinLookup_eq_fast]
  kernel_rfl
section
variable {pr : Program} {wd : World} {B : Around} {X : Value → Shared → Prop} {u : Shared} {J : Addr} {ow mv : List Addr} {R : Array GenState → Array GenState → Prop} {m : Nat} {Gv : Nat → Value → Prop} {At : Nat → Shared → Prop}
/-- a new list takes all of it -/
theorem gather (V : WalksS pr wd B.in1 J ow mv R m Gv At) (ty : ∀ i v, At i v → v.TypeIs (.ref J) "list_reverseiterator") (a0 : At 0 u) (low : ∀ b ∈ ow, b < u.heap.objs.size) (hJ : J ∈ ow) (hm : m ≤ sizeLine)
    {Y : List Value → Shared → Prop} (fin : ∀ v xs, Moved mv R u v → ItemsOf Gv xs m → Y xs.toList v) : wpAny (model pr wd) B (collect (.ref J)) Y X u := by
  have off : u.heap.objs.size ∉ ow := fun z => absurd (low _ z) (Nat.lt_irrefl _)
  have nJ : u.heap.objs.size ≠ J := by
    rintro z
    rw [z] at off
    exact off hJ
  have a1 := V.frame 0 u (u.heap.push { cls := .type "list", data := .seq ([] : List Value).toArray }) u.toks a0 (Nat.le_refl _) fun b _ o q => Heap.get?_push_of_some _ q
  have t1 := ty 0 _ a1
  have same : Builtin.List.listSameRef (.ref u.heap.objs.size) (.ref J) = false := by simp [Builtin.List.listSameRef, nJ]
  unfold collect
  refine wpAny_bind (wpAny_runValue (codeAny_builtin F.entry_proto_collect ?_))
  rw [Around.under_plainId F.plain_proto_collect]
  refine wpAny_bind (wpAny_newObj_type (wpAny_pure ⟨plainId_quiet F.plain_list_iadd _, codeAny_builtin F.entry_list_iadd ?_⟩))
  rw [Around.under_plainId F.plain_list_iadd]
  show wpAny (model pr wd) B.in1 (Builtin.List.listExtendWith (.ref u.heap.objs.size) (.ref J) (.ref u.heap.objs.size)) _ X _
  unfold Builtin.List.listExtendWith Builtin.List.listLengthHint
  refine wpAny_bind (wpAny_typeOf t1 ?_)
  rw [if_neg (by rw [same]; decide)]
  refine wpAny_bind (V.self 0 _ _ _ a1 (wpAny_bind (wpAny_holding (wpAny_bind (wpAny_specialOf t1 rev_len ?_)))))
  show wpAny (model pr wd) B.in1 (specialOf (Value.ref J) (Str.ofString "__length_hint__") >>= _) _ X _
  refine wpAny_bind (wpAny_specialOf t1 rev_hint ?_)
  generalize nm : ("list_reverseiterator.__length_hint__" : String) = id0
  wp_delta
  rw [show splitId id0 = some ("list_reverseiterator", "__length_hint__") from by subst nm; decide +kernel]
  subst nm
  refine wpAny_bind (wpAny_isInstance (b := true) t1 (by rw [isSubtype_type]; kernel_rfl) (wpAny_pure ?_))
  rw [if_neg (by decide)]
  refine wpAny_pure ⟨plainId_quiet F.plain_extend_loop _, codeAny_extend_loopS V hm _ off _ m 0 _ _ _ rfl (Nat.zero_le _) a1 (Heap.get?_push_size _ rfl) (ItemsOf.nil Gv) fun v xs k mo ob it => ?_⟩
  exact wpAny_bind (wpAny_load ob (wpAny_pure (fin v xs (Moved.drop_new (o := { cls := .type "list", data := .seq ([] : List Value).toArray }) (tk := u.toks) mo (Nat.le_refl _)) it)))
theorem join_back {sep : Str} {tk : Tok} {Y : Value → Shared → Prop} (V : WalksS pr wd B.in1.in1 J ow mv R m Gv At) (ty : ∀ i v, At i v → v.TypeIs (.ref J) "list_reverseiterator") (a0 : At 0 u) (low : ∀ b ∈ ow, b < u.heap.objs.size) (hJ : J ∈ ow) (hm : m ≤ sizeLine)
    (txt : ∀ i v, Gv i v → ∃ y t, v = Value.str y t)
    (fin : ∀ v (ps : List (Str × Tok)), Moved mv R u v → ItemsOf Gv (strValues ps).toArray m → JoinOk sep (ps.map (·.1)) = true ∧ ∀ t' k, Y (.str (Txt.join sep (ps.map (·.1))) t') { v with toks := k }) :
    wpAny (model pr wd) B (call (.builtin "str.join") [.str sep tk, .ref J]) Y X u := by
  refine wpAny_call (codeAny_call_builtin F.slot_str_join.plain F.entry_str_join (F.slot_str_join.check _ _ _ _ _ _ _ _ (typeIs_str _ _ _) (F.args_str_join_2 _ _) ?_))
  rw [join_tree_other]
  refine wpAny_bind (wpAny_typeOf (ty 0 u a0) ?_)
  show wpAny (model pr wd) B.in1 ((pyIter (.ref J)).tryCatch _ >>= fun it => collect it >>= fun items => joinTail sep items) _ X u
  refine wpAny_bind (wpAny_tryCatch (V.of_in1.self 0 u _ _ a0 (wpAny_bind (gather V ty a0 low hJ hm fun v xs mo it => ?_))))
  obtain ⟨ps, hps⟩ := exists_strValues xs.toList fun y hy => by
    obtain ⟨i, hi, rfl⟩ := Array.mem_iff_getElem.mp (Array.mem_toList_iff.mp hy)
    exact txt i _ (it.2 i _ (Array.getElem?_eq_getElem hi))
  obtain ⟨ok, post⟩ := fin v ps mo (by rw [hps]; simpa using it)
  have fits := ok
  unfold JoinOk at fits
  rw [Bool.not_eq_true'] at fits
  have made : Gives (joinTail sep (strValues ps)) (joinMade sep ps) := by
    have z := gives_joinTail sep ps fits
    rcases ps with _ | ⟨p1, _ | ⟨p2, r⟩⟩
    · exact z
    · exact z
    · exact z
  rw [← hps]
  exact made pr wd B (wants Y X) v (post_join ps ⟨joinFit_length fits, post⟩)
end
end LJ

set_option Elab.async false
set_option linter.all false
set_option maxRecDepth 100000
set_option maxHeartbeats 4000000
namespace L17
open PySem PySem.Spec PyProof.Rows L2 L3 L4 L5 L6 L7 L8 L9 L10 L11 L12 L13 L14 L15 L16
open PySem.Builtin.Str (occurrences)
/-! ### [elt for x in s], s a text -/
def tLCS (fx : List Nat) (ti : TE) (te : TE) : TE := fun σ H Q => ti σ H fun y H1 => ∃ z : Str, y = .str z ∧ z.cps.all (· < 128) = true ∧ z.cps.size < sizeLine ∧ ∃ (vals : List V) (W : Nat → List V → Hp → Prop), vals.length = fx.length ∧
  (∀ (j i : Nat) (v : V), fx[j]? = some i → vals[j]? = some v → σ[i]? = some (some v)) ∧ (∀ (i : Nat) xs Hc D ys zs, Hc D = some (.lst ys) → W i xs Hc → W i xs (upd Hc D (.lst zs))) ∧ (∀ H2, Same H1 H2 → W 0 [] H2) ∧
  (∀ (i c : Nat) xs Hc, z.cps[i]? = some c → Same H1 Hc → W i xs Hc → te (some (.str ⟨#[c]⟩) :: vals.map some) Hc fun v H' => Same Hc H' ∧ W (i + 1) (xs ++ [v]) H') ∧
  (∀ p xs H', Same H1 H' → H1 p = none → H' p = some (.lst xs) → W z.cps.size xs H' → Q (.ref p) H')
section
variable {X : Cx}
theorem comp_runS {elt iter : Expr} {x : Str} {px pos : Pos} {sc : Scope} {te : TE} {cl : List (Str × Addr)} {Nc : List Str} {fx : List Nat} (hc : X.calm = true) (hex : X.ex = []) (ok : CompOk X sc cl x Nc fx)
    (he : ∀ s₀ H₀ C fp pn, PE (X.comp sc cl C Nc s₀ H₀ fp pn) elt te) {pins : List (Addr × Obj)} {σ : L2.St} {H1 : Hp} {s2 : Shared} {it : Addr} {z : Str} {tz : Tok} {n : Nat} {Q : VK} {vals : List V} {W : Nat → List V → Hp → Prop} (I : Inv X pins σ H1 s2) (hn : n < sizeLine) (hz : z.cps.size = n)
    (st : s2.heap.IsStrIter it "str_ascii_iterator" z tz 0) (hit : FpOk X pins H1 it) (hl : vals.length = fx.length) (hv : ∀ (j i : Nat) (v : V), fx[j]? = some i → vals[j]? = some v → σ[i]? = some (some v))
    (hst : ∀ (i : Nat) xs Hc D ys zs, Hc D = some (.lst ys) → W i xs Hc → W i xs (upd Hc D (.lst zs))) (h0 : ∀ H2, Same H1 H2 → W 0 [] H2)
    (step : ∀ (i c : Nat) xs Hc, z.cps[i]? = some c → Same H1 Hc → W i xs Hc → te (some (.str ⟨#[c]⟩) :: vals.map some) Hc fun v H' => Same Hc H' ∧ W (i + 1) (xs ++ [v]) H')
    (fin : ∀ p xs H', Same H1 H' → H1 p = none → H' p = some (.lst xs) → W n xs H' → Q (.ref p) H') :
    wpAny (model X.prog X.w) X.A (newList []) (fun acc s₃ => wpAny (model X.prog X.w) X.A (newFunctionEnv sc X.env.globals cl [] X.env.qual none .none (some X.env)) (fun cenv s₄ =>
      codeAny (model X.prog X.w) X.A (.compStart (.ListComp elt [⟨.Name x px, iter, [], 0⟩] sc pos) 0 (.ref it) acc { cenv with scope := relabel sc X.env }) (compPost (model X.prog X.w) X.A X.xe none (EP X pins σ Q) acc cenv.locals) s₄) X.xe s₃) X.xe s2 := by
  refine wpAny_newObj_type (wpAny_newFunctionEnv ok.ncell (by intro y hy; simp at hy) (fun h₁ hns₁ hsb₁ => ?_) ok.kind)
  dsimp only at hns₁ hsb₁ ⊢
  generalize hH2 : s2.heap.push { cls := .type "list", dict := none, data := .seq ([] : List Value).toArray } = H2 at hns₁ hsb₁ ⊢
  have hC : H2.objs.size = s2.heap.objs.size + 1 := by rw [← hH2, Heap.size_push]
  have hDC : s2.heap.objs.size ≠ H2.objs.size := by rw [hC]; exact Nat.ne_of_lt (Nat.lt_succ_self _)
  have hCle : s2.heap.objs.size ≤ H2.objs.size := by rw [hC]; exact Nat.le_succ _
  have below : ∀ b, b < s2.heap.objs.size → b ≠ H2.objs.size ∧ b ≠ s2.heap.objs.size := fun b hb => ⟨by rw [hC]; exact Nat.ne_of_lt (Nat.lt_succ_of_lt hb), Nat.ne_of_lt hb⟩
  have old : ∀ b o, s2.heap.get? b = some o → h₁.get? b = some o := fun b o e => hsb₁.extBut b o (below b (Heap.lt_size e)).1 (Heap.get?_push_of_some _ (hH2 ▸ Heap.get?_push_of_some _ e))
  have hacc : h₁.get? s2.heap.objs.size = some { cls := .type "list", data := .seq ([] : List Value).toArray } := hsb₁.extBut _ _ hDC (Heap.get?_push_of_some _ (hH2 ▸ Heap.get?_push_size _ rfl))
  have fD : H1 s2.heap.objs.size = none := I.hok.fresh (Nat.le_refl _)
  have fC : H1 H2.objs.size = none := I.hok.fresh hCle
  have itlt : it < s2.heap.objs.size := let ⟨_, e0, _⟩ := st; Heap.lt_size e0
  have hok1 : HOk X.prog X.w (upd H1 s2.heap.objs.size (.lst [])) h₁ := I.hok.laid old (Nat.le_refl _) ⟨Nat.zero_le _, [], 0, .nil, hacc⟩
  have I0 := comp_start (tk := s2.toks + ([] : List (Str × Value)).length) (C := H2.objs.size) (fp := [it]) (H3 := upd H1 s2.heap.objs.size (.lst [])) ok I hCle hns₁ (by rw [upd_ne hDC.symm]; exact fC) (Un.laid old (Nat.le_refl _) fD) old
    (fun b o e nb => by rw [upd_ne (below b (Heap.lt_size e)).2]; exact nb) hok1 (fun b hb => by obtain rfl := List.mem_singleton.mp hb; exact hit) hex hl hv (fun b hb => by obtain rfl := List.mem_singleton.mp hb; exact itlt)
  have st1 : h₁.IsStrIter it "str_ascii_iterator" z tz 0 := let ⟨o0, e0, r0⟩ := st; ⟨o0, old _ _ e0, r0⟩
  have WR := Walks.strAscii (prog := X.prog) (w := X.w) (I.ok.hd hc) it z tz
  rw [hz] at WR
  have hitc : ∀ {pns : List (Addr × Obj)} {Hc : Hp}, Hc it = none → (∀ p ∈ pns, p.1 ≠ it) → FpOk (X.comp sc cl H2.objs.size Nc s2 H1 [it] (X.pn ++ pins)) pns Hc it := fun {pns Hc} h1 h2 =>
    ⟨h1, (below it itlt).1, fun z => (List.mem_cons.mp (I.stkSub it z)).elim hit.2.1 hit.2.2.1, .inl (List.mem_singleton.mpr rfl), fun y c e => hit.2.2.2.2.1 y c (ok.sub _ _ e), fun p hp => (List.mem_append.mp hp).elim (fun z => hit.2.2.2.2.2 p z) (h2 p)⟩
  have loop : ∀ s₃ : Shared, s₃ = { s2 with heap := h₁, toks := s2.toks + ([] : List (Str × Value)).length } →
      codeAny (model X.prog X.w) X.A (.compLoop (.ListComp elt [⟨.Name x px, iter, [], 0⟩] sc pos) 0 (.ref it) (.ref s2.heap.objs.size) (compEnvC sc cl H2.objs.size X.env))
        (compPost (model X.prog X.w) X.A X.xe none (EP X pins σ Q) (.ref s2.heap.objs.size) H2.objs.size) s₃ := by
    rintro s₃ rfl
    refine codeAny_compLoop_list (fun k s => ∃ (i : Nat) (o : Option V) (xs : List V) (Hc : Hp), k = n - i ∧ i ≤ n ∧ xs.length = i ∧ Inv (X.comp sc cl H2.objs.size Nc s2 H1 [it] (X.pn ++ pins)) [] (o :: vals.map some) Hc s ∧ s.heap.IsStrIter it "str_ascii_iterator" z tz i ∧ Hc it = none ∧ Hc s2.heap.objs.size = some (.lst xs) ∧ Same H1 Hc ∧ W i xs Hc) ?_ n
      ⟨0, none, [], _, rfl, Nat.zero_le _, rfl, I0, st1, by rw [upd_ne (below it itlt).2]; exact hit.1, upd_same, Same.up fD, h0 _ (Same.up fD)⟩
    rintro k s3 ⟨i, o, xs, Hc, rfl, hi, hxl, Ic, st3, fi, hD, sm, w⟩
    by_cases hlt : i < n
    · refine WR.item i s3 _ _ hlt st3 fun v h' tk hv' st' kk => ?_
      obtain ⟨c, t, hci, rfl⟩ := hv'
      obtain ⟨oi, ei, ci, di⟩ := id st'
      obtain ⟨f0, f1, f2, f3, f4, f5⟩ := hitc (pns := []) fi (fun _ z => nomatch z)
      have I4 : Inv (X.comp sc cl H2.objs.size Nc s2 H1 [it] (X.pn ++ pins)) [] (o :: vals.map some) Hc { s3 with heap := h', toks := tk } := Ic.turned (fun b o hb e => kk b o (by simpa using hb) e) f0 f1 f3 f4 f5
      have I4p := I4.pinned (fp := [it]) (fun b hb => by obtain rfl := List.mem_singleton.mp hb; exact hitc fi (fun _ z => nomatch z)) (fun b hb => by
        obtain rfl := List.mem_singleton.mp hb
        exact ⟨_, ei, fun v y => by rw [di] at y; cases y⟩)
      show wpAny _ _ (assign (.Name x px) _ _) _ _ _
      refine wpAny_assign_Name (store_ok (X := X.comp sc cl H2.objs.size Nc s2 H1 [it] (X.pn ++ pins)) (v := .str ⟨#[c]⟩) I4p ok.nd ok.head (.inl (lookup_relabel_local ok.loc)) ⟨t, rfl⟩ (fun s5 I5 => ?_) (.inr (lookup_relabel_local ok.loc)))
      have I5' : Inv (X.comp sc cl H2.objs.size Nc s2 H1 [it] (X.pn ++ pins)) ([] ++ pinsAt [it] h') (some (.str ⟨#[c]⟩) :: vals.map some) Hc s5 := I5
      refine wpAny_mono (he s2 H1 H2.objs.size [it] (X.pn ++ pins) _ s5 _ Hc _ I5' (step i c xs Hc hci sm w)) (fun u s6 q6 => ?_) (fun _ _ z => z.elim)
      obtain ⟨y, H6, I6, r6, sm6, w6⟩ := q6
      have hD6 := sm6 _ _ hD
      refine wpAny_mono (mt_append (X := X.comp sc cl H2.objs.size Nc s2 H1 [it] (X.pn ++ pins)) _ s6 _ H6 (.ref s2.heap.objs.size) [y] (.ref s2.heap.objs.size) [u] (fun v H7 => v = .non ∧ H7 = upd H6 s2.heap.objs.size (.lst (xs ++ [y]))) I6 rfl (.cons r6 .nil) ⟨_, xs, y, rfl, rfl, hD6, by omega, rfl, rfl⟩) (fun u7 s7 q7 => ?_) (fun _ _ z => z.elim)
      obtain ⟨v7, H7, I7, r7, rfl, rfl⟩ := q7
      have pin7 := I7.pin (it, _) (List.mem_append_right _ (mem_pinsAt (List.mem_singleton.mpr rfl) ei))
      refine ⟨n - (i + 1), by omega, i + 1, _, xs ++ [y], _, rfl, hlt, by rw [List.length_append, hxl]; rfl, I7.unpinned (pins := []), ?_, pin7.2.1, upd_same, ?_, hst _ _ _ _ _ _ hD6 w6⟩
      · exact ⟨oi, pin7.1, ci, di⟩
      · intro b u e
        rw [upd_ne (ne_of_none e fD)]
        exact sm6 _ _ (sm _ _ e)
    · have e : i = n := by omega
      subst e
      refine WR.done s3 _ _ st3 fun h' tk kk => ?_
      obtain ⟨f0, f1, f2, f3, f4, f5⟩ := hitc (pns := []) fi (fun _ z => nomatch z)
      have I4 : Inv (X.comp sc cl H2.objs.size Nc s2 H1 [it] (X.pn ++ pins)) [] (o :: vals.map some) Hc { s3 with heap := h', toks := tk } := Ic.turned (fun b o hb e => kk b o (by simpa using hb) e) f0 f1 f3 f4 f5
      obtain ⟨m4, hn4, _⟩ := id I4.loc
      refine ⟨m4, hn4, fun h'' sb => ?_⟩
      have kp : ∀ b o, b ≠ H2.objs.size → h'.get? b = some o → h''.get? b = some o := fun b o hb e => (sb.2 b hb).trans e
      have hokc : HOk X.prog X.w Hc h'' := fun b u e => by
        refine (I4.hok b u e).stay (fun c v hc q => kp c v ?_ q) (fun _ q => q) fun _ _ q => q
        have hfc : Hc H2.objs.size = none := I4.free
        rintro rfl
        rcases hc with z | z
        · rw [← z, hfc] at e; cases e
        · rw [hfc] at z; cases z
      have un4 : Un (frs X.stack) [it] H1 Hc s2.heap h' := I4.base
      have neC : ∀ b o, s2.heap.get? b = some o → b ≠ H2.objs.size := fun b o e => (below b (Heap.lt_size e)).1
      have un5 : Un (frs X.stack) [it] H1 Hc s2.heap h'' := ⟨fun b o e nb hb hx => kp b o (neC b o e) (un4.keep b o e nb hb hx), fun b o e nb hb hx => by
        obtain ⟨sl, e1⟩ := un4.slot b o e nb hb hx
        exact ⟨sl, kp b _ (neC b o e) e1⟩, un4.free, fun b o e hx => by
        obtain ⟨o', e1⟩ := un4.there b o e hx
        exact ⟨o', kp b _ (neC b o e) e1⟩, un4.tups, un4.frzs, un4.tbls⟩
      have I9 : Inv X pins σ Hc { s3 with heap := h'', toks := tk } := I.call' (s' := { s3 with heap := h'', toks := tk }) (ch := [it]) I4.os un5 hokc I4.bare (fun b hb => by
        obtain rfl := List.mem_singleton.mp hb
        exact ⟨hit.2.2.2.1, hit.2.1, hit.2.2.2.2.1, hit.2.2.2.2.2⟩)
      exact ⟨.ref s2.heap.objs.size, Hc, I9, rfl, fin _ xs Hc sm fD hD w⟩
  exact codeAny_compStart_list (loop _ rfl) (WR.self 0 _ _ _ st1 (loop _ rfl))
theorem pe_lcS {elt iter : Expr} {x : Str} {px pos : Pos} {sc : Scope} {ti te : TE} {cl : List (Str × Addr)} {Nc : List Str} {fx : List Nat} (hc : X.calm = true) (hex : X.ex = [])
    (hi : PE X iter ti) (ok : CompOk X sc cl x Nc fx) (he : ∀ s₀ H₀ C fp pn, PE (X.comp sc cl C Nc s₀ H₀ fp pn) elt te)
    (hfs : ∀ v, foldedSetIterable iter X.env v = pure v := by intro _; rfl) :
    PE X (.ListComp elt [⟨.Name x px, iter, [], 0⟩] sc pos) (tLCS fx ti te) := by
  intro pins s σ H Q I h
  rw [eval_ListComp]
  refine wpAny_comprehension_free (use := none) rfl hfs ok.clos ok.kind ok.names ?_
  show wpAny _ _ (eval iter X.env) _ _ s
  refine thn (hi pins s σ H _ I h) fun v s1 ⟨y, H1, I1, r1, q1⟩ => ?_
  obtain ⟨z, e, ha, hn, vals, W, hl, hv, hst, h0, step, fin⟩ := q1
  subst e
  obtain ⟨t, rfl⟩ := r1
  refine wpAny_pyIter_ascii ha ?_
  refine comp_runS hc hex ok he (z := z) (tz := t) (W := W) (n := z.cps.size) ?_ hn rfl ?_ ?_ hl hv hst h0 step fin
  · exact I1.kept (t' := s1.toks) fun b o e => Heap.get?_push_of_some _ e
  · exact ⟨_, Heap.get?_push_size _ rfl, rfl, rfl⟩
  · exact I1.fpOk (Nat.le_refl _) (I1.hok.fresh (Nat.le_refl _))
end

section
variable {X : Cx} {e : Expr} {te : TE}
/-! ### methods of a text -/
theorem mt_ends : MtR X "str.endswith" (fun x xs H Q => ∃ i j, x = .str i ∧ xs = [.str j] ∧ Q (.bl (Txt.endswith i j)) H) := by
  intro pins s σ H x xs v us Q I rx rv h
  obtain ⟨i, j, rfl, rfl, q⟩ := h
  obtain ⟨t, rfl⟩ := rx
  obtain ⟨u, rfl, t', rfl⟩ := rv.one
  exact call_gives F.slot_str_endswith (typeIs_str _ _ _) F.entry_str_endswith (F.args_str_endswith_2 _ _) (gives_str_endswith i j t t') ⟨.bl _, H, I, rfl, q⟩
theorem mt_starts : MtR X "str.startswith" (fun x xs H Q => ∃ i j, x = .str i ∧ xs = [.str j] ∧ Q (.bl (Txt.startswith i j)) H) := by
  intro pins s σ H x xs v us Q I rx rv h
  obtain ⟨i, j, rfl, rfl, q⟩ := h
  obtain ⟨t, rfl⟩ := rx
  obtain ⟨u, rfl, t', rfl⟩ := rv.one
  exact call_gives F.slot_str_startswith (typeIs_str _ _ _) F.entry_str_startswith (F.args_str_startswith_2 _ _) (gives_str_startswith i j t t') ⟨.bl _, H, I, rfl, q⟩
theorem mt_index : MtR X "str.index" (fun x xs H Q => ∃ i j n r, x = .str i ∧ xs = [.str j] ∧ occurrences i j 0 i.length 1 = n :: r ∧ Q (.int (n : Int)) H) := by
  intro pins s σ H x xs v us Q I rx rv h
  obtain ⟨i, j, n, r, rfl, rfl, ho, q⟩ := h
  obtain ⟨t, rfl⟩ := rx
  obtain ⟨u, rfl, t', rfl⟩ := rv.one
  exact SC.index ho ⟨.int n, H, I.tok _, ⟨_, rfl⟩, q⟩
theorem mt_part : MtR X "str.partition" (fun x xs H Q => ∃ i j, x = .str i ∧ xs = [.str j] ∧ (j.length == 0) = false ∧ i.length ≤ sizeLine ∧ ∀ p H', Same H H' → H' p = some (.tup [.str (Txt.partition i j).1, .str (Txt.partition i j).2.1, .str (Txt.partition i j).2.2]) → Q (.ref p) H') := by
  intro pins s σ H x xs v us Q I rx rv h
  obtain ⟨i, j, rfl, rfl, hj, hi, q⟩ := h
  obtain ⟨t, rfl⟩ := rx
  obtain ⟨u, rfl, t', rfl⟩ := rv.one
  refine call_meets F.slot_str_partition (typeIs_str _ _ _) F.entry_str_partition (F.args_str_partition_2 _ _) (meets_str_partition i j t t' hj hi) ?_
  have hf : H s.heap.objs.size = none := I.hok.fresh (Nat.le_refl _)
  have key : ∀ (a b c : Str) (ta tb tc : Tok) (k : Nat), (Txt.partition i j).1 = a → (Txt.partition i j).2.1 = b → (Txt.partition i j).2.2 = c →
      EP X pins σ Q (.ref s.heap.objs.size) { s with toks := k, heap := s.heap.push { cls := .type "tuple", data := .seq [.str a ta, .str b tb, .str c tc].toArray } } := by
    rintro a b c ta tb tc k rfl rfl rfl
    refine ⟨.ref s.heap.objs.size, upd H s.heap.objs.size (.tup [.str (Txt.partition i j).1, .str (Txt.partition i j).2.1, .str (Txt.partition i j).2.2]), I.laid (t' := k) (fun b u e => Heap.get?_push_of_some _ e) (Nat.le_refl _) ?_, rfl, q _ _ (Same.up hf) upd_same⟩
    exact ⟨(by show 3 ≤ sizeLine; decide), _, .cons ⟨ta, rfl⟩ (.cons ⟨tb, rfl⟩ (.cons ⟨tc, rfl⟩ .nil)), ⟨_, Heap.get?_push_size _ rfl, rfl, _, rfl⟩⟩
  unfold Txt.partition at key
  cases ho : occurrences i j 0 i.length 1 with
  | nil => rw [ho] at key; exact key _ _ _ _ _ _ _ rfl rfl rfl
  | cons n r => rw [ho] at key; exact key _ _ _ _ _ _ _ rfl rfl rfl
/-- s[lo:hi] of a text -/
theorem sl_str : SlR X (fun x lo hi H Q => ∃ z, x = .str z ∧ z.length ≤ sizeLine ∧ Q (.str (Txt.slice z lo hi)) H) := by
  intro pins s σ H x v vl vu lo hi sl Q I rx hs pl pu h
  obtain ⟨z, rfl, hz, q⟩ := h
  obtain ⟨t, rfl⟩ := rx
  have fin : ∀ t' k, EP X pins σ Q (.str (Txt.slice z lo hi) t') { s with toks := k } := fun t' k => ⟨.str _, H, I.tok _, ⟨_, rfl⟩, q⟩
  refine ⟨"str", _, F.slot_str_getitem.lookup, typeIs_str _ _ _, ?_⟩
  cases pl with
  | none =>
    cases pu with
    | none => exact wpAny_getItem_str_slice (l := none) (u := none) (st := none) hs rfl (post_val_or_str ⟨Nat.le_trans (Txt.slice_le z _ _) hz, fin⟩)
    | int j tj => exact wpAny_getItem_str_slice (l := none) (u := some (j, tj)) (st := none) hs rfl (post_val_or_str ⟨Nat.le_trans (Txt.slice_le z _ _) hz, fin⟩)
  | int i ti =>
    cases pu with
    | none => exact wpAny_getItem_str_slice (l := some (i, ti)) (u := none) (st := none) hs rfl (post_val_or_str ⟨Nat.le_trans (Txt.slice_le z _ _) hz, fin⟩)
    | int j tj => exact wpAny_getItem_str_slice (l := some (i, ti)) (u := some (j, tj)) (st := none) hs rfl (post_val_or_str ⟨Nat.le_trans (Txt.slice_le z _ _) hz, fin⟩)
/-! ### for x in s -/
def Its (z : Str) : It := ⟨fun i _ => i < z.cps.size, fun i H x H' => H' = H ∧ ∃ c, z.cps[i]? = some c ∧ x = .str ⟨#[c]⟩, fun i _ => z.cps.size ≤ i⟩
theorem turn_str {P : Program} {w : World} {K : PySem.W.Frag} {tg : Expr} (it : Addr) (z : Str) (tz : Tok) : Turn P w K tg (Its z) [it] it (fun i h => i ≤ z.cps.size ∧ h.IsStrIter it "str_ascii_iterator" z tz i) where
  mem := by simp
  obj := fun i h st b hb => by
    have e : b = it := by simpa using hb
    subst e
    obtain ⟨_, o, e, c, d⟩ := st
    exact ⟨o, e, fun v y => by rw [d] at y; cases y⟩
  keep := fun i h h' st k => let ⟨hi, o, e, r⟩ := st; ⟨hi, o, k it (by simp) o e, r⟩
  item := by
    intro X hP hw hK hc i pins s σ H E I hf st hg
    subst hP hw hK
    obtain ⟨f0, f1, f2, f3, f4, f5⟩ := hf it (by simp)
    have W := Walks.strAscii (prog := X.prog) (w := X.w) (I.ok.hd hc) it z tz
    refine W.item i s _ _ hg st.2 fun v h' tk hv st' kk => ?_
    obtain ⟨c, t, hci, rfl⟩ := hv
    have I1 : Inv X pins σ H { s with heap := h', toks := tk } := I.turned (fun b o hb e => kk b o (by simpa using hb) e) f0 f1 f3 f4 f5
    obtain ⟨o, e, co, d⟩ := id st'
    exact ⟨_, rfl, go_of (s := { s with heap := h', toks := tk }) e co d (by decide) ⟨.str ⟨#[c]⟩, H, I1, ⟨t, rfl⟩, ⟨rfl, c, hci, rfl⟩, ⟨hg, st'⟩, fun b hb => (hf b hb).1⟩⟩
  done := by
    intro X hP hw hK hc i pins s σ H E I hf st hg
    subst hP hw hK
    obtain ⟨f0, f1, f2, f3, f4, f5⟩ := hf it (by simp)
    have W := Walks.strAscii (prog := X.prog) (w := X.w) (I.ok.hd hc) it z tz
    have hi : i = z.cps.size := Nat.le_antisymm st.1 hg
    subst hi
    exact W.done s _ _ st.2 fun h' tk kk => ⟨rfl, I.turned (fun b o hb e => kk b o (by simpa using hb) e) f0 f1 f3 f4 f5⟩
  self := fun _ _ _ _ _ st h => wpAny_pyIter_striter_ascii st.2 h
def iStr (tl : TE) : TI := fun σ H R => tl σ H fun x H1 => ∃ z, x = .str z ∧ z.cps.all (· < 128) = true ∧ R (Its z) H1
theorem pi_str {tg : Expr} (hl : PE X e te) : PI X tg e (iStr te) := by
  intro pins s σ H R I h
  refine thn (hl pins s σ H _ I h) fun v s1 ⟨x, H1, I1, r1, q1⟩ => ?_
  obtain ⟨z, e, ha, q⟩ := q1
  subst e
  obtain ⟨t, rfl⟩ := r1
  refine wpAny_pyIter_ascii ha ?_
  refine ⟨s1.heap.objs.size, [s1.heap.objs.size], _, _, H1, rfl, I1.kept (t' := s1.toks) fun b o e => Heap.get?_push_of_some _ e, turn_str _ z t, ⟨Nat.zero_le _, _, Heap.get?_push_size _ rfl, rfl, rfl⟩, fun b hb => ?_, q⟩
  obtain rfl := List.mem_singleton.mp hb
  exact I1.fpOk (Nat.le_refl _) (I1.hok.fresh (Nat.le_refl _))
theorem for_str {z : Str} {g : TG} {tb : TS} {D : Ends} {σ : L2.St} {H : Hp} (Pv : Nat → L2.St → Hp → Prop) (h0 : Pv 0 σ H)
    (hs : ∀ i c σ H, z.cps[i]? = some c → Pv i σ H → g (.str ⟨#[c]⟩) σ H fun σ2 H2 => tb { D with nx := Pv (i + 1), ct := Pv (i + 1), bk := D.nx } σ2 H2) (hd : ∀ σ H, Pv z.cps.size σ H → D.nx σ H) :
    ∃ W : Nat → Nat → L2.St → Hp → Prop, (∃ m, W 0 m σ H) ∧ ∀ i m σ H, W i m σ H →
      ((Its z).stop i H ∧ D.nx σ H) ∨ ((Its z).go i H ∧ ∃ N : L2.St → Hp → Prop, (∀ σ' H', N σ' H' → ∃ m', m' < m ∧ W (i + 1) m' σ' H') ∧ ∀ x H', (Its z).yld i H x H' → g x σ H' fun σ2 H2 => tb { D with nx := N, ct := N, bk := D.nx } σ2 H2) := by
  refine ⟨fun i m σ H => m = z.cps.size - i ∧ i ≤ z.cps.size ∧ Pv i σ H, ⟨z.cps.size, by simp, Nat.zero_le _, h0⟩, ?_⟩
  rintro i m σ H ⟨rfl, hi, p⟩
  by_cases hlt : i < z.cps.size
  · refine .inr ⟨hlt, Pv (i + 1), fun σ' H' p' => ⟨z.cps.size - (i + 1), by omega, rfl, hlt, p'⟩, fun x H' y => ?_⟩
    obtain ⟨e, c, hc, ex⟩ := y
    subst e ex
    exact hs i c σ _ hc p
  · have e : i = z.cps.size := by omega
    subst e
    exact .inl ⟨Nat.le_refl _, hd σ H p⟩
/-! ### all(bools) -/
theorem call_allB (hc : X.calm = true) : CallR X (.builtin "all") (fun xs H Q => ∃ (a : Addr) (bs : List Bool), xs = [.ref a] ∧ SqL X.K H a (bs.map V.bl) ∧ Q (.bl (bs.all id)) H) := by
  intro pins s σ H xs us Q I r h
  obtain ⟨a, bs, rfl, hS, q⟩ := h
  obtain ⟨u, rfl, r1⟩ := vals1 r
  cases (show u = Value.ref a from r1)
  obtain ⟨its, rv, p, _⟩ := I.list hS
  have e := vals_bls rv
  subst e
  have hd := I.ok.hd hc
  refine call_all_walk (wpAny_pyIter_list p.isList ?_)
  have hne : a ≠ s.heap.objs.size := Nat.ne_of_lt (let ⟨_, e0, _⟩ := p.isList; Heap.lt_size e0)
  refine ⟨s.heap.objs.size, _, _, _, _, _, fun i => bs.getD i true, rfl, Walks.list (A := X.A.in1) hd _ a hne _, ⟨⟨_, Heap.get?_push_size _ rfl, rfl, rfl⟩, p.isList.at fun o e => Heap.get?_push_of_some _ e⟩, ?_, fun h' tk kk => ?_⟩
  · intro i v s' Q' E' hP hQ
    have hP' : (bs.map Value.bool)[i]? = some v := by simpa using hP
    rw [List.getElem?_map] at hP'
    cases hb : bs[i]? with
    | none => rw [hb] at hP'; cases hP'
    | some b =>
      rw [hb] at hP'
      cases hP'
      refine wpAny_truthy_bool ?_
      have : bs.getD i true = b := by rw [List.getD_eq_getElem?_getD, hb]; rfl
      rw [← this]
      exact hQ
  · have e : (List.range (bs.map Value.bool).toArray.size).all (fun i => bs.getD i true) = bs.all id := by
      rw [List.size_toArray, List.length_map, Bool.eq_iff_iff, List.all_eq_true, List.all_eq_true]
      constructor
      · intro h b hb
        obtain ⟨i, hi, e⟩ := List.mem_iff_getElem.mp hb
        have := h i (List.mem_range.mpr hi)
        rw [List.getD_eq_getElem?_getD, List.getElem?_eq_getElem hi, e] at this
        exact this
      · intro h i hi
        have hi := List.mem_range.mp hi
        rw [List.getD_eq_getElem?_getD, List.getElem?_eq_getElem hi]
        exact h _ (List.getElem_mem hi)
    rw [e]
    refine ⟨.bl _, H, I.kept (t' := tk) fun b o eb => kk b o ?_ (Heap.get?_push_of_some _ eb), rfl, q⟩
    intro hm
    obtain rfl := List.mem_singleton.mp hm
    exact absurd (Heap.lt_size eb) (Nat.lt_irrefl _)
/-! ### f'..' -/
abbrev TJ := Str → L2.St → Hp → VK → Prop
def PJ (X : Cx) (es : List Expr) (t : TJ) : Prop := ∀ (pins : List (Addr × Obj)) (s : Shared) (σ : L2.St) (H : Hp) (Q : VK) (acc : Str), Inv X pins σ H s → t acc σ H Q →
  wpAny (model X.prog X.w) X.A (joinParts acc (evalEach es X.env)) (EP X pins σ Q) X.xe s
def jNil : TJ := fun acc _ H Q => acc.length ≤ sizeLine ∧ Q (.str acc) H
def jCons (te : TE) (t : TJ) : TJ := fun acc σ H Q => te σ H fun x H1 => ∃ y, x = .str y ∧ y.length ≤ sizeLine ∧ (acc ++ y).length ≤ sizeLine ∧ t (acc ++ y) σ H1 Q
theorem pj_nil : PJ X [] jNil := fun pins s σ H Q acc I h => joinParts_nil ⟨.str acc, H, I.tok _, ⟨_, rfl⟩, h.2⟩ h.1
theorem pj_val {es : List Expr} {t : TJ} {pos : Pos} (he : PE X e te) (hr : PJ X es t) : PJ X (.FormattedValue e (-1) none pos :: es) (jCons te t) := by
  intro pins s σ H Q acc I h
  refine joinParts_cons (FormattedValue_plain (thn (he pins s σ H _ I h) fun v s1 ⟨x, H1, I1, r1, y, ex, hy, ha, q⟩ => ?_))
  subst ex
  obtain ⟨t, rfl⟩ := r1
  exact formatField_str (fun t' tk => ⟨ha, hr pins { s1 with toks := tk } σ H1 Q (acc ++ y) (I1.tok _) q⟩) hy
theorem pj_lit {es : List Expr} {t : TJ} {x : Str} {k : Nat} {pos : Pos} (he : PE X (.Constant (.str x) k pos) te) (hr : PJ X es t) : PJ X (.Constant (.str x) k pos :: es) (jCons te t) := by
  intro pins s σ H Q acc I h
  refine joinParts_cons (thn (he pins s σ H _ I h) fun v s1 ⟨x, H1, I1, r1, y, ex, hy, ha, q⟩ => ?_)
  subst ex
  obtain ⟨t, rfl⟩ := r1
  exact ⟨ha, hr pins s1 σ H1 Q (acc ++ y) I1 q⟩
theorem pe_fstr {a b : Expr} {es : List Expr} {t : TJ} {pos : Pos} (h : PJ X (a :: b :: es) t) : PE X (.JoinedStr (a :: b :: es) pos) (fun σ H Q => t Str.empty σ H Q) :=
  fun pins s σ H Q I q => JoinedStr_many (h pins s σ H Q Str.empty I q)
/-! ### ''.join(reversed(xs)) -/
theorem boot_reversed : bootBuiltins "reversed" = some (.type "reversed") := by decide +kernel
theorem vals_at {cs : List Nat} {its : List Value} (r : Vals (cs.map fun c => V.str (S [c])) its) {i : Nat} {v : Value} (h : its[i]? = some v) : ∃ c t, cs[i]? = some c ∧ v = .str (S [c]) t := by
  have hl := r.length
  rw [List.length_map] at hl
  have hi : i < cs.length := by rw [hl]; exact (List.getElem?_eq_some_iff.mp h).1
  obtain ⟨u, hu, ru⟩ := r.get (i := i) (x := V.str (S [cs[i]])) (by rw [List.getElem?_map, List.getElem?_eq_getElem hi]; rfl)
  rw [h] at hu
  cases hu
  obtain ⟨t, rfl⟩ := ru
  exact ⟨cs[i], t, List.getElem?_eq_getElem hi, rfl⟩
theorem pe_joinRev {sep : Str} {k : Nat} {p cp apos rpos cpos : Pos} {t : TA} (hc : X.calm = true) (hg : Gl X "reversed") (hm : X.mg "reversed" = none) (ha : PA X [e] t)
    (hbase : attributeBase (.Constant (.str sep) k cp) "join" X.env (eval (.Constant (.str sep) k cp) X.env) = eval (.Constant (.str sep) k cp) X.env := by rfl)
    (hfew : ((backTo cpos (starEach [.Call (.Name "reversed" p) [e] [] rpos] X.env)).all (fun x => !x.1) && (backToKw cpos (keywordEach [] X.env)).all (fun x => x.1.isSome)
      && decide ([Expr.Call (.Name "reversed" p) [e] [] rpos].length + ([] : List Keyword).length + (if ([] : List Keyword).isEmpty then 0 else 1) < 30)) = true := by rfl)
    (hline : (apos.endLine == cpos.line) = true := by rfl)
    (hs : backTo cpos (starEach [.Call (.Name "reversed" p) [e] [] rpos] X.env) = [(false, eval (.Call (.Name "reversed" p) [e] [] rpos) X.env)] := by rfl)
    (hse : starEach [e] X.env = [(false, eval e X.env)] := by rfl) :
    PE X (.Call (.Attribute (.Constant (.str sep) k cp) "join" apos) [.Call (.Name "reversed" p) [e] [] rpos] [] cpos)
      (fun σ H Q => t σ H fun vs H1 => ∃ (a : Addr) (cs : List Nat), sep = S [] ∧ vs = [.ref a] ∧ SqL X.K H1 a (cs.map fun c => V.str (S [c])) ∧ cs.length ≤ 1000 ∧ Q (.str (S cs.reverse)) H1) := by
  intro pins s σ H Q I h
  refine wpAny_Call_method_late hbase hfew hline rfl (thn (pe_str pins s σ H (fun y H' => y = .str sep ∧ H' = H) I ⟨rfl, rfl⟩) fun v s1 ⟨x, H1, I1, r1, e1, e2⟩ => ?_)
  subst e1 e2
  obtain ⟨t1, rfl⟩ := r1
  refine ⟨"str", _, F.plainAttrs_str, F.slot_str_join, F.type_str_join, typeIs_str _ _ _, (fun _ e => nomatch e), ?_⟩
  rw [hs]
  refine Calls.callWith_builtin rfl (Calls.evalArgs_plain (Calls.spliced_cons ?_))
  refine Call_ (ld_blt I1 hg hm boot_reversed (PyProof.Rows.callWith_type1 (thn (ha rpos pins s1 σ H1 _ I1 h) fun us s2 ⟨vs, H2, I2, r2, a, cs, e0, e3, hS, hl, q⟩ => ?_) hse rfl))
  subst e0 e3
  obtain ⟨u, rfl, ru⟩ := vals1 r2
  cases (show u = Value.ref a from ru)
  obtain ⟨its, rv, pl, _⟩ := I2.list hS
  refine call_reversed_list pl.isList (Calls.spliced_nil ?_)
  have hd := I2.ok.hd hc
  have hlt : a < s2.heap.objs.size := let ⟨_, e0, _⟩ := pl.isList; Heap.lt_size e0
  have hlen : its.length = cs.length := by rw [← rv.length, List.length_map]
  have W := Walks.listRev (prog := X.prog) (w := X.w) (A := X.A.in1.in1) hd s2.heap.objs.size a (Nat.ne_of_lt hlt) its.toArray
  have e1 : (its.toArray.size : Int) - 1 - ((0 : Nat) : Int) = (its.toArray.size : Int) - 1 := by omega
  have hsl : sizeLine = 16777216 := sizeLine_eq
  refine LJ.join_back W.toS (fun i v st => st.2.1.typeIs) ⟨Nat.zero_le _, ⟨_, Heap.get?_push_size _ rfl, rfl, by rw [e1]; rfl⟩, pl.isList.at fun o e => Heap.get?_push_of_some _ e⟩ (fun b hb => ?_) (by simp) (by rw [List.size_toArray]; omega) (fun i v hv => ?_) fun v ps mo it => ?_
  · rw [Heap.size_push]
    rcases List.mem_cons.mp hb with z | z
    · rw [z]; exact Nat.lt_succ_self _
    · rw [List.mem_singleton.mp z]; exact Nat.lt_succ_of_lt hlt
  · obtain ⟨c, t, _, rfl⟩ := vals_at rv (show its[its.toArray.size - 1 - i]? = some v by simpa using hv)
    exact ⟨_, _, rfl⟩
  · have ep : ps.map (·.1) = cs.reverse.map fun c => S [c] := by
      have hpl : ps.length = its.length := by
        have := it.1
        simpa [strValues] using this
      apply List.ext_getElem?
      intro j
      by_cases hj : j < ps.length
      · have h1 := it.2 j (.str ps[j].1 ps[j].2) (by simp [strValues, hj])
        have h1' : its[its.length - 1 - j]? = some (.str ps[j].1 ps[j].2) := by simpa using h1
        obtain ⟨c, t, hcs, ev⟩ := vals_at rv h1'
        injection ev with ev1 _
        rw [List.getElem?_map, List.getElem?_map, List.getElem?_eq_getElem hj, List.getElem?_reverse (by omega)]
        rw [hlen] at hcs
        rw [hcs]
        show some ps[j].1 = some (S [c])
        rw [ev1]
      · rw [List.getElem?_eq_none (by rw [List.length_map]; omega), List.getElem?_eq_none (by rw [List.length_map, List.length_reverse]; omega)]
    rw [ep]
    refine ⟨join_ok (by rw [List.length_reverse]; exact hl), fun t' k => ?_⟩
    rw [joined]
    have I3 : Inv X pins σ H2 { s2 with heap := v.heap, toks := k } := I2.kept fun b o eb => mo.heap b o (fun z => by
      rw [List.mem_singleton.mp z] at eb
      exact absurd (Heap.lt_size eb) (Nat.lt_irrefl _)) (Heap.get?_push_of_some _ eb)
    have es : ({ v with toks := k } : Shared) = { s2 with heap := v.heap, toks := k } := by
      have g1 : v.gens = s2.gens := mo.gens
      have g2 : v.drawn = s2.drawn := mo.drawn
      have g3 : v.os = s2.os := mo.os
      cases v
      simp only at g1 g2 g3
      subst g1 g2 g3
      rfl
    rw [es]
    exact ⟨.str _, H2, I3, ⟨_, rfl⟩, q⟩
theorem bt_all : bootBuiltins "all" = some (.builtin "all") := by decide +kernel
end
end L17

set_option Elab.async false
set_option linter.all false
namespace Law
open PySem PyProof.Rows L2 L3 L4 L5 L6 L7 L8 L9 L10 L11 L12 L13 L14 L15 L16 L17
set_option maxRecDepth 100000
set_option maxHeartbeats 8000000
seal L2.PSs L2.PS L2.PE L2.PT L2.PW L2.PA L2.PI L2.PG L2.PO
def top (i : Nat) : Stmt := PySem.Challenge.pw_twofold_k07_lines.main.body.getD i (.Pass ⟨0, 0, 0, 0⟩)
abbrev s_figures_of : Stmt := top 8
theorem sc_figures_of : FnScope ["whole", "figures", "left"] ["whole"] (defScope s_figures_of) := ⟨rfl, rfl, rfl, by decide +kernel, rfl, by decide +kernel, by decide +kernel⟩
abbrev s_whole_of : Stmt := top 9
theorem sc_whole_of : FnScope ["figures", "whole", "figure"] ["figures"] (defScope s_whole_of) := ⟨rfl, rfl, rfl, by decide +kernel, rfl, by decide +kernel, by decide +kernel⟩
abbrev s_shown : Stmt := top 10
theorem sc_shown : FnScope ["one", "ahead", "first", "between", "second"] ["one"] (defScope s_shown) := ⟨rfl, rfl, rfl, by decide +kernel, rfl, by decide +kernel, by decide +kernel⟩
abbrev s_are_figures : Stmt := top 11
theorem sc_are_figures : FnScope ["text"] ["text"] (defScope s_are_figures) := ⟨rfl, rfl, rfl, by decide +kernel, rfl, by decide +kernel, by decide +kernel⟩
abbrev s_part_of : Stmt := top 12
theorem sc_part_of : FnScope ["below", "text", "whole"] ["below", "text"] (defScope s_part_of) := ⟨rfl, rfl, rfl, by decide +kernel, rfl, by decide +kernel, by decide +kernel⟩
abbrev s_read : Stmt := top 13
theorem sc_read : FnScope ["line", "first_below", "unsigned", "second_below", "halves"] ["line"] (defScope s_read) := ⟨rfl, rfl, rfl, by decide +kernel, rfl, by decide +kernel, by decide +kernel⟩
abbrev s_law_whole : Stmt := top 15
theorem sc_law_whole : FnScope ["_law_found"] ["_law_found"] (defScope s_law_whole) := ⟨rfl, rfl, rfl, by decide +kernel, rfl, by decide +kernel, by decide +kernel⟩
abbrev s_law_at : Stmt := top 16
theorem sc_law_at : FnScope ["_law_script", "_law_k"] ["_law_script", "_law_k"] (defScope s_law_at) := ⟨rfl, rfl, rfl, by decide +kernel, rfl, by decide +kernel, by decide +kernel⟩
abbrev s_law_part_by : Stmt := top 17
theorem sc_law_part_by : FnScope ["_law_cell"] ["_law_cell"] (defScope s_law_part_by) := ⟨rfl, rfl, rfl, by decide +kernel, rfl, by decide +kernel, by decide +kernel⟩
abbrev s_law_number_by : Stmt := top 18
theorem sc_law_number_by : FnScope ["_law_script", "_law_k"] ["_law_script", "_law_k"] (defScope s_law_number_by) := ⟨rfl, rfl, rfl, by decide +kernel, rfl, by decide +kernel, by decide +kernel⟩
abbrev s_law_is_number : Stmt := top 19
theorem sc_law_is_number : FnScope ["_law_found"] ["_law_found"] (defScope s_law_is_number) := ⟨rfl, rfl, rfl, by decide +kernel, rfl, by decide +kernel, by decide +kernel⟩
abbrev s_law : Stmt := top 20
theorem sc_law : FnScope ["_law_script", "_law_k", "_law_one", "_law_due", "_law_line", "_law_found", "_law_firsts", "_law_seconds", "_law_cell", "_law_bad", "_law_refused", "_law_under", "e"] ["_law_script"] (defScope s_law) := ⟨rfl, rfl, rfl, by decide +kernel, rfl, by decide +kernel, by decide +kernel⟩
structure Adr where
  f_figures_of : Addr
  d_figures_of : FuncData
  f_whole_of : Addr
  d_whole_of : FuncData
  f_shown : Addr
  d_shown : FuncData
  f_are_figures : Addr
  d_are_figures : FuncData
  f_part_of : Addr
  d_part_of : FuncData
  f_read : Addr
  d_read : FuncData
  f_law_whole : Addr
  d_law_whole : FuncData
  f_law_at : Addr
  d_law_at : FuncData
  f_law_part_by : Addr
  d_law_part_by : FuncData
  f_law_number_by : Addr
  d_law_number_by : FuncData
  f_law_is_number : Addr
  d_law_is_number : FuncData
  f_law : Addr
  d_law : FuncData
  k_FIGURES : Tok
  a_FoldError : Addr
  a_BadKind : Addr
  a_ByNought : Addr
  a_NoUnit : Addr
  a_NoLine : Addr
structure Txt (K : PySem.W.Frag) (mg : Str → Option Value) (t : Adr) : Prop where
  d_figures_of : Dn K mg "figures_of" s_figures_of t.f_figures_of t.d_figures_of ["whole"]
  d_whole_of : Dn K mg "whole_of" s_whole_of t.f_whole_of t.d_whole_of ["figures"]
  d_shown : Dn K mg "shown" s_shown t.f_shown t.d_shown ["one"]
  d_are_figures : Dn K mg "are_figures" s_are_figures t.f_are_figures t.d_are_figures ["text"]
  d_part_of : Dn K mg "part_of" s_part_of t.f_part_of t.d_part_of ["below", "text"]
  d_read : Dn K mg "read" s_read t.f_read t.d_read ["line"]
  d_law_whole : Dn K mg "_law_whole" s_law_whole t.f_law_whole t.d_law_whole ["_law_found"]
  d_law_at : Dn K mg "_law_at" s_law_at t.f_law_at t.d_law_at ["_law_script", "_law_k"]
  d_law_part_by : Dn K mg "_law_part_by" s_law_part_by t.f_law_part_by t.d_law_part_by ["_law_cell"]
  d_law_number_by : Dn K mg "_law_number_by" s_law_number_by t.f_law_number_by t.d_law_number_by ["_law_script", "_law_k"]
  d_law_is_number : Dn K mg "_law_is_number" s_law_is_number t.f_law_is_number t.d_law_is_number ["_law_found"]
  d_law : Dn K mg "law" s_law t.f_law t.d_law ["_law_script"]
  c_FIGURES : mg "FIGURES" = some (.str (S figL) t.k_FIGURES)
  x_FoldError : ExcC K mg "FoldError" t.a_FoldError
  x_BadKind : ExcC K mg "BadKind" t.a_BadKind
  x_ByNought : ExcC K mg "ByNought" t.a_ByNought
  x_NoUnit : ExcC K mg "NoUnit" t.a_NoUnit
  x_NoLine : ExcC K mg "NoLine" t.a_NoLine
  q_NoLine : ExcQ K t.a_NoLine
  m_NoLine_FoldError : PySem.W.exmOne K (.ref t.a_NoLine) (.ref t.a_FoldError) = some true
  i_NoLine_FoldError : PySem.W.kitOne K (.ref t.a_NoLine) (.ref t.a_FoldError) = some true
  m_NoLine_BadKind : PySem.W.exmOne K (.ref t.a_NoLine) (.ref t.a_BadKind) = some false
  i_NoLine_BadKind : PySem.W.kitOne K (.ref t.a_NoLine) (.ref t.a_BadKind) = some false
  m_NoLine_ByNought : PySem.W.exmOne K (.ref t.a_NoLine) (.ref t.a_ByNought) = some false
  i_NoLine_ByNought : PySem.W.kitOne K (.ref t.a_NoLine) (.ref t.a_ByNought) = some false
  m_NoLine_NoUnit : PySem.W.exmOne K (.ref t.a_NoLine) (.ref t.a_NoUnit) = some false
  i_NoLine_NoUnit : PySem.W.kitOne K (.ref t.a_NoLine) (.ref t.a_NoUnit) = some false
  m_NoLine_NoLine : PySem.W.exmOne K (.ref t.a_NoLine) (.ref t.a_NoLine) = some true
  i_NoLine_NoLine : PySem.W.kitOne K (.ref t.a_NoLine) (.ref t.a_NoLine) = some true
  i_NoLine_ValueError : PySem.W.kitOne K (.ref t.a_NoLine) (.type "ValueError") = some true
  b_ValueError : mg "ValueError" = none
  b_abs : mg "abs" = none
  b_all : mg "all" = none
  b_bool : mg "bool" = none
  b_int : mg "int" = none
  b_isinstance : mg "isinstance" = none
  b_len : mg "len" = none
  b_range : mg "range" = none
  b_reversed : mg "reversed" = none
  b_str : mg "str" = none
  b_tuple : mg "tuple" = none
section
variable {P : Program} {w : World} {K : PySem.W.Frag} {mg : Str → Option Value} {base : Heap} {t : Adr}
def sp_figures_of : Sp := fun vs H Q _ => ∃ i : Int, vs = [.int i] ∧ 0 ≤ i ∧ i.natAbs < 10 ^ 40 ∧ ∀ H', Same H H' → Q (.str (S (TF.dig i.natAbs))) H'
def oneV (c : Nat) : V := .str (S [c])
theorem fig_ix (l : Nat) : atI (S figL).cps.toList ((l : Int) % 10) = some (48 + l % 10) := by
  have h : ∀ d : Nat, d < 10 → atI figL (d : Int) = some (48 + d) := by decide
  have e : (l : Int) % 10 = ((l % 10 : Nat) : Int) := by omega
  rw [e]
  exact h _ (by omega)
theorem ok_figures_of {k : Nat} (T : Txt K mg t) : FnOk P w K mg base (CXL P w) (k + 1) t.f_figures_of t.d_figures_of ["whole"] (sp_figures_of) := by
  refine T.d_figures_of.F.okL sc_figures_of (fun vs H Q E h => ?_) (fun cdv A outer s H vs Q E hr h => ?_)
  · obtain ⟨i, rfl, h0, h1, q⟩ := h
    rfl
  · obtain ⟨i, rfl, h0, h1, q⟩ := h
    obtain ⟨n, rfl⟩ : ∃ n : Nat, i = (n : Int) := ⟨i.toNat, by omega⟩
    rw [Int.natAbs_natCast] at h1 q
    have hdl := TF.dig_len 39 n h1
    refine ⟨_, (pss_cons (ps_if (pt_cmpR op_eq (pv 0) pe_int nmEq) (pss_one (ps_ret pe_str)) pss_nil)
      (pss_cons (ps_set (i := 1) sc_figures_of.nd rfl (by first | exact Or.inl rfl | exact Or.inr rfl) (pe_lstS pa_nil))
      (pss_cons (ps_set (i := 2) sc_figures_of.nd rfl (by first | exact Or.inl rfl | exact Or.inr rfl) (pv 0))
      (pss_cons (ps_while PassesOwn.never (pt_cmpR op_gt (pv 2) pe_int nmGt) (pss_cons (ps_expr (pe_bm PySem.F.plainAttrs_list PySem.F.slot_list_append PySem.F.type_list_append mt_append (pv 1) (pa_cons (pe_ix ix_str (pe_glob (v := .str (S figL)) rfl T.c_FIGURES ⟨_, rfl⟩) (pe_op op_mod (pv 2) pe_int) (fun _ _ => by with_unfolding_all rfl)) pa_nil (hs := seS))))
      (pss_one (ps_set (i := 2) sc_figures_of.nd rfl (by first | exact Or.inl rfl | exact Or.inr rfl) (pe_op op_fdiv (pv 2) pe_int)))))
      (pss_one (ps_ret (pe_joinRev rfl rfl T.b_reversed (pa_cons (pv 1) pa_nil (hs := seN))))))))), ?_⟩
    refine ⟨_, rfl, rfl, _, rfl, if2 (fun c => ?_) (fun c => ?_)⟩
    · have hn : n = 0 := by
        have := V.int.inj (of_decide_eq_true c)
        omega
      subst hn
      have e : Str.ofString "0" = S (TF.dig 0) := by decide +kernel
      show Q (.str (Str.ofString "0")) H
      rw [e]
      exact q _ (Same.refl _)
    have hn : 0 < n := by
      refine Nat.pos_of_ne_zero fun z => of_decide_eq_false c ?_
      rw [z]
      rfl
    refine ⟨sz0, fun p H1 s1 hpn hp1 => ?_⟩
    refine ⟨_, rfl, fun l σ H2 => ∃ cs : List Nat, σ = [some (.int (n : Int)), some (.ref p), some (.int (l : Int))] ∧ Same H H2 ∧ H2 p = some (.lst (cs.map oneV)) ∧ TF.dig n = (if 0 < l then TF.dig l else []) ++ cs.reverse, ⟨n, [], rfl, s1, hp1, by rw [if_pos hn]; simp⟩, ?_⟩
    rintro l σ H2 ⟨cs, rfl, s2, hp2, he⟩
    have hcs : cs.length ≤ 40 := by
      have := congrArg List.length he
      rw [List.length_append, List.length_reverse] at this
      omega
    have hsl : sizeLine = 16777216 := sizeLine_eq
    refine ⟨_, rfl, _, _, rfl, rfl, _, rfl, if2 (fun c => ?_) (fun c => ?_)⟩
    · have hl : 0 < l := by
        have := of_decide_eq_true c
        omega
      rw [if_pos hl] at he
      refine ⟨fun σ' H' => ∃ m', m' < l ∧ ∃ cs : List Nat, σ' = [some (.int (n : Int)), some (.ref p), some (.int (m' : Int))] ∧ Same H H' ∧ H' p = some (.lst (cs.map oneV)) ∧ TF.dig n = (if 0 < m' then TF.dig m' else []) ++ cs.reverse, fun σ' H' h => h, ?_⟩
      refine ⟨_, rfl, .inl ⟨rfl, _, SqL.of hp2⟩, _, rfl, _, _, rfl, rfl, (by show (0 : Int) < 10; decide), _, _, _, rfl, rfl, (by show 10 ≤ sizeLine; decide), fig_ix l, p, _, _, rfl, rfl, hp2, (by rw [List.length_map]; omega), ?_⟩
      refine ⟨_, rfl, _, _, rfl, rfl, ⟨by decide, by decide⟩, l / 10, by omega, cs ++ [48 + l % 10], rfl, Same.updN s2 hpn, by rw [upd_same, List.map_append]; rfl, ?_⟩
      rw [he, List.reverse_append, List.reverse_singleton]
      by_cases h10 : 10 ≤ l
      · rw [if_pos (by omega), TF.dig_div h10]
        simp
      · rw [if_neg (by omega), TF.dig_lt (by omega)]
        have : l % 10 = l := by omega
        rw [this]
        simp
    · have hl : l = 0 := by
        have := of_decide_eq_false c
        omega
      subst hl
      rw [if_neg (by decide), List.nil_append] at he
      refine ⟨_, rfl, p, cs, (by decide +kernel), rfl, SqL.of hp2, by omega, ?_⟩
      rw [← he]
      exact q _ s2
def sp_whole_of : Sp := fun vs H Q _ => ∃ l : List Nat, vs = [.str (S l)] ∧ l.all TF.isFig = true ∧ l.length ≤ 100 ∧ Q (.int (TF.val l : Int)) H
theorem fig_ascii {l : List Nat} (h : l.all TF.isFig = true) : (S l).cps.all (· < 128) = true := by
  rw [List.all_eq_true] at h
  simp only [List.all_toArray, List.all_eq_true]
  intro c hc
  have := h c hc
  unfold TF.isFig at this
  rw [Bool.and_eq_true, decide_eq_true_iff, decide_eq_true_iff] at this
  rw [decide_eq_true_iff]
  omega
theorem val_take {l : List Nat} {i c : Nat} (h : l[i]? = some c) : TF.val (l.take (i + 1)) = 10 * TF.val (l.take i) + (c - 48) := by
  have e : l.take (i + 1) = l.take i ++ [c] := by
    rw [List.take_add_one, h]
    rfl
  rw [e, TF.val_snoc]
theorem ok_whole_of {k : Nat} (T : Txt K mg t) : FnOk P w K mg base (CXL P w) (k + 1) t.f_whole_of t.d_whole_of ["figures"] (sp_whole_of) := by
  refine T.d_whole_of.F.okL sc_whole_of (fun vs H Q E h => ?_) (fun cdv A outer s H vs Q E hr h => ?_)
  · obtain ⟨l, rfl, hf, hl, q⟩ := h
    rfl
  · obtain ⟨l, rfl, hf, hl, q⟩ := h
    refine ⟨_, (pss_cons (ps_set (i := 1) sc_whole_of.nd rfl (by first | exact Or.inl rfl | exact Or.inr rfl) pe_int)
      (pss_cons (ps_for PassesOwn.never rfl (pi_str (pv 0)) (pg_name (i := 2) sc_whole_of.nd rfl (by first | exact Or.inl rfl | exact Or.inr rfl)) (pss_one (ps_set (i := 1) sc_whole_of.nd rfl (by first | exact Or.inl rfl | exact Or.inr rfl) (pe_op op_add (pe_op op_mulF pe_int (pv 1)) (pe_bm PySem.F.plainAttrs_str PySem.F.slot_str_index PySem.F.type_str_index mt_index (pe_glob (v := .str (S figL)) rfl T.c_FIGURES ⟨_, rfl⟩) (pa_cons (pv 2) pa_nil (hs := seN)))))))
      (pss_one (ps_ret (pv 1))))), ?_⟩
    refine ⟨_, rfl, S l, rfl, fig_ascii hf, ?_⟩
    refine for_str (fun i σ H1 => ∃ o2, σ = [some (.str (S l)), some (.int (TF.val (l.take i) : Int)), o2] ∧ H1 = H) ⟨_, rfl, rfl⟩ ?_ ?_
    · rintro i c σ H1 hc ⟨o2, rfl, rfl⟩
      have hc' : l[i]? = some c := by simpa using hc
      have hfc : TF.isFig c = true := List.all_eq_true.mp hf c (List.mem_of_getElem? hc')
      obtain ⟨r, ho⟩ := fig_at hfc
      refine ⟨_, rfl, _, _, rfl, rfl, .of_left (by decide), rfl, _, rfl, _, _, _, _, rfl, rfl, ho, _, _, rfl, rfl, some (.str (S [c])), ?_, rfl⟩
      show [some (V.str (S l)), some (V.int (10 * (TF.val (l.take i) : Int) + ((c - 48 : Nat) : Int))), some (V.str (S [c]))] = _
      rw [val_take hc', Int.natCast_add, Int.natCast_mul]
      rfl
    · rintro σ H1 ⟨o2, rfl, rfl⟩
      have e : l.take (S l).cps.size = l := by simp
      rw [e]
      exact ⟨_, rfl, q⟩
def sp_shown (K : PySem.W.Frag) : Sp := fun vs H Q _ => ∃ x vx, vs = [vx] ∧ NumV K H vx x ∧ x.1.natAbs < 10 ^ 40 ∧ x.2.natAbs < 10 ^ 40 ∧ ∀ H', Same H H' → Q (.str (S (TF.lineF x.1 x.2))) H'
theorem minus_S : Str.ofString "-" = S [45] := by decide +kernel
theorem plus_S : Str.ofString "+" = S [43] := by decide +kernel
theorem w_S : Str.ofString "w" = S [119] := by decide +kernel
theorem nil_S : Str.ofString "" = S [] := by decide +kernel
theorem ok_shown {k : Nat} (T : Txt K mg t) : FnOk P w K mg base (CXL P w) (k + 2) t.f_shown t.d_shown ["one"] (sp_shown K) := by
  refine T.d_shown.F.okL sc_shown (fun vs H Q E h => ?_) (fun cdv A outer s H vs Q E hr h => ?_)
  · obtain ⟨x, vx, rfl, hx, h1, h2, q⟩ := h
    rfl
  · obtain ⟨x, vx, rfl, hx, h1, h2, q⟩ := h
    have l1 := TF.dig_len 39 _ h1
    have l2 := TF.dig_len 39 _ h2
    have hsl : sizeLine = 16777216 := sizeLine_eq
    refine ⟨_, (pss_cons (ps_set (i := 1) sc_shown.nd rfl (by first | exact Or.inl rfl | exact Or.inr rfl) (pe_J (pe_ifExp (pt_cmpR op_lt (pe_n0 (pv 0)) pe_int nmLt) pe_str pe_str)))
      (pss_cons (ps_set (i := 2) sc_shown.nd rfl (by first | exact Or.inl rfl | exact Or.inr rfl) (pe_call (ok_figures_of T) hr rfl T.d_figures_of.m T.d_figures_of.F.kp T.d_figures_of.b .nil passL (pa_cons (pe_callB call_abs rfl T.b_abs bt_abs (pa_cons (pe_n0 (pv 0)) pa_nil (hs := seS))) pa_nil (hs := seC))))
      (pss_cons (ps_set (i := 3) sc_shown.nd rfl (by first | exact Or.inl rfl | exact Or.inr rfl) (pe_J (pe_ifExp (pt_cmpR op_lt (pe_n1 (pv 0)) pe_int nmLt) pe_str pe_str)))
      (pss_cons (ps_set (i := 4) sc_shown.nd rfl (by first | exact Or.inl rfl | exact Or.inr rfl) (pe_call (ok_figures_of T) hr rfl T.d_figures_of.m T.d_figures_of.F.kp T.d_figures_of.b .nil passL (pa_cons (pe_callB call_abs rfl T.b_abs bt_abs (pa_cons (pe_n1 (pv 0)) pa_nil (hs := seS))) pa_nil (hs := seC))))
      (pss_one (ps_ret (pe_fstr (pj_val (pv 1) (pj_val (pv 2) (pj_val (pv 3) (pj_val (pv 4) (pj_lit pe_str pj_nil)))))))))))), ?_⟩
    refine ⟨fun v H1 => v = .str (S (if x.1 < 0 then [45] else [])) ∧ H1 = H, ?_, ?_⟩
    rotate_left
    · refine ⟨_, rfl, _, hx, _, _, rfl, rfl, _, rfl, if2 (fun c => ?_) (fun c => ?_)⟩
      · rw [if_pos (of_decide_eq_true c)]
        exact ⟨congrArg V.str minus_S, rfl⟩
      · rw [if_neg (of_decide_eq_false c)]
        exact ⟨congrArg V.str nil_S, rfl⟩
    rintro v H1 ⟨rfl, rfl⟩
    refine ⟨_, rfl, _, hx, _, rfl, _, rfl, by rw [abs_if]; omega, by rw [abs_if]; omega, fun H2 s2 => ?_⟩
    rw [abs_if, Int.natAbs_natCast]
    have hx2 := hx.same s2
    refine ⟨fun v H3 => v = .str (S [TF.sgn x.2]) ∧ H3 = H2, ?_, ?_⟩
    rotate_left
    · refine ⟨_, rfl, _, hx2, _, _, rfl, rfl, _, rfl, if2 (fun c => ?_) (fun c => ?_)⟩
      · unfold TF.sgn
        rw [if_pos (of_decide_eq_true c)]
        exact ⟨congrArg V.str minus_S, rfl⟩
      · unfold TF.sgn
        rw [if_neg (of_decide_eq_false c)]
        exact ⟨congrArg V.str plus_S, rfl⟩
    rintro v H3 ⟨rfl, rfl⟩
    refine ⟨_, rfl, _, hx2, _, rfl, _, rfl, by rw [abs_if]; omega, by rw [abs_if]; omega, fun H4 s4 => ?_⟩
    rw [abs_if, Int.natAbs_natCast]
    have la : ∀ (a b : List Nat), (S a ++ S b).length = a.length + b.length := fun a b => by rw [S_app, S_len, List.length_append]
    have l0 : (if x.1 < 0 then [45] else ([] : List Nat)).length ≤ 1 := by split <;> simp
    refine ⟨_, rfl, _, rfl, by rw [S_len]; omega, by show (S [] ++ S _).length ≤ _; rw [la]; simp; omega, ?_⟩
    have e0 : Str.empty ++ S (if x.1 < 0 then [45] else []) = S (if x.1 < 0 then [45] else []) := S_app [] _
    rw [e0]
    refine ⟨_, rfl, _, rfl, by rw [S_len]; omega, by rw [la]; omega, ?_⟩
    rw [S_app]
    refine ⟨_, rfl, _, rfl, by rw [S_len]; simp; omega, by rw [la, List.length_append]; simp; omega, ?_⟩
    rw [S_app]
    refine ⟨_, rfl, _, rfl, by rw [S_len]; omega, by rw [la, List.length_append, List.length_append]; simp; omega, ?_⟩
    rw [S_app]
    refine ⟨_, rfl, (by decide +kernel), ?_⟩
    rw [w_S]
    refine ⟨by rw [la, List.length_append, List.length_append, List.length_append]; simp; omega, ?_⟩
    rw [S_app]
    refine ⟨by rw [S_len, List.length_append, List.length_append, List.length_append, List.length_append]; simp; omega, ?_⟩
    have e : (if x.1 < 0 then [45] else []) ++ TF.dig x.1.natAbs ++ [TF.sgn x.2] ++ TF.dig x.2.natAbs ++ [119] = TF.lineF x.1 x.2 := by simp [TF.lineF, TF.bodyF]
    rw [e]
    exact q _ (s2.trans s4)
def Asc (l : List Nat) : Prop := (S l).cps.all (· < 128) = true ∧ l.length ≤ 100
def sp_are_figures : Sp := fun vs H Q _ => ∃ l : List Nat, vs = [.str (S l)] ∧ Asc l ∧ ∀ H', Same H H' → Q (.bl (TF.figs l)) H'
def scA : Scope := match (defBody s_are_figures).getD 1 (.Pass ⟨0, 0, 0, 0⟩) with
  | .Return (some (.Call _ [.ListComp _ _ sc _] _ _)) _ => sc
  | _ => defScope s_are_figures
theorem comp_are {f : Addr} {cdv : Value} {A : Around} {outer : List Env} {s : Shared} {H : Hp} {E : XK} : CompOk (cxOf (CXL P w) P w K mg base ["text"] "are_figures" (defScope s_are_figures) f cdv A outer s H E).nox scA [] "sign" ["sign"] [] where
  clos := by rfl
  sub := fun n c h => by cases h
  ncell := by decide +kernel
  kind := rfl
  names := by decide +kernel
  loc := by decide +kernel
  has := fun y h => by
    have key : ∀ kd : NameKind, (kd = .cell ∨ kd = .free) → (y, kd) ∈ ([(".0", .local), ("sign", .local), ("FIGURES", .globalImplicit)] : List (Str × NameKind)) → ∃ c, List.lookup y ([] : List (Str × Addr)) = some c := by
      intro kd hkd z
      simp only [List.mem_cons, Prod.mk.injEq, List.not_mem_nil, or_false] at z
      rcases z with ⟨rfl, rfl⟩ | ⟨rfl, rfl⟩ | ⟨rfl, rfl⟩ <;> (rcases hkd with z | z <;> cases z)
    rcases h with h | h
    · exact key _ (.inl rfl) (PySem.mem_of_lookup h)
    · exact key _ (.inr rfl) (PySem.mem_of_lookup h)
  nd := by decide +kernel
  head := rfl
  len := rfl
  slot := fun j i y h1 h2 => by cases h1
theorem str_eq {a b : List Nat} : decide (V.str (S a) = V.str (S b)) = decide (a = b) := by
  by_cases h : a = b
  · subst h; simp
  · rw [decide_eq_false h, decide_eq_false]
    intro z
    exact h (S_inj (V.str.inj z))
theorem zero_S : Str.ofString "0" = S [48] := by decide +kernel
theorem ok_are_figures {k : Nat} (T : Txt K mg t) : FnOk P w K mg base (CXL P w) (k + 1) t.f_are_figures t.d_are_figures ["text"] (sp_are_figures) := by
  refine T.d_are_figures.F.okL sc_are_figures (fun vs H Q E h => ?_) (fun cdv A outer s H vs Q E hr h => ?_)
  · obtain ⟨l, rfl, ha, q⟩ := h
    rfl
  · obtain ⟨l, rfl, ha, q⟩ := h
    have okC : CompOk (cxOf (CXL P w) P w K mg base ["text"] "are_figures" (defScope s_are_figures) t.f_are_figures cdv A outer s H E).nox scA [] "sign" ["sign"] [] := comp_are
    have hsl : sizeLine = 16777216 := sizeLine_eq
    have hl := ha.2
    refine ⟨_, (pss_cons (ps_J (ps_if (PW.pt (pw_or (pt_cmpR op_eq (pv 0) pe_str nmEq) (pw_or1 (PW.pt (pw_and (pt_cmpR op_eq (pe_ix ix_str (pv 0) pe_int (fun _ _ => by with_unfolding_all rfl)) pe_str nmEq) (pw_and1 (pt_cmpR op_ne (pv 0) pe_str nmNotEq))))))) (pss_one (ps_ret pe_bl)) pss_nil))
      (pss_one (ps_ret (pe_callB (call_allB rfl) rfl T.b_all bt_all (pa_cons (pe_lcS rfl rfl (pv 0) okC (fun _ _ _ _ _ => (pe_cmpR op_in_str (pv 0) (pe_glob (v := .str (S figL)) rfl T.c_FIGURES ⟨_, rfl⟩) (by with_unfolding_all rfl)))) pa_nil))))), ?_⟩
    refine ⟨fun σ H1 => σ = [some (.str (S l))] ∧ H1 = H ∧ l ≠ [] ∧ ¬ (l.head? = some 48 ∧ l ≠ [48]), ?_, ?_⟩
    rotate_left
    · have bad : (l = [] ∨ (l.head? = some 48 ∧ l ≠ [48])) → Q (.bl false) H := fun h1 => by
        have := q H (Same.refl _)
        unfold TF.figs at this
        rcases h1 with rfl | ⟨h1, h2⟩
        · exact this
        · rw [decide_eq_true h1, decide_eq_true h2] at this
          simpa using this
      refine ⟨_, rfl, rfl, _, rfl, if2 (fun c => ?_) (fun c => ?_)⟩
      · have e : l = [] := by
          have := of_decide_eq_true c
          rw [nil_S] at this
          exact S_inj (V.str.inj this)
        exact iteT (bad (.inl e))
      · have hne : l ≠ [] := fun e => of_decide_eq_false c (by rw [nil_S, e])
        cases l with
        | nil => exact absurd rfl hne
        | cons d r =>
          refine ⟨_, rfl, _, _, d, rfl, rfl, (by rw [S_len]; omega), (atI_nat (j := 0) rfl), rfl, _, rfl, if2 (fun c1 => ?_) (fun c1 => ?_)⟩
          · have e1 : d = 48 := by
              have := of_decide_eq_true c1
              rw [zero_S] at this
              have := S_inj (a := [d]) (V.str.inj this)
              simpa using this
            refine ⟨_, rfl, rfl, _, rfl, if2 (fun c2 => ?_) (fun c2 => ?_)⟩
            · refine bad (.inr ⟨by rw [e1]; rfl, fun z => ?_⟩)
              rw [z, zero_S] at c2
              simp at c2
            · refine ⟨rfl, rfl, hne, fun z => z.2 ?_⟩
              rw [zero_S] at c2
              have : V.str (S (d :: r)) = V.str (S [48]) := by simpa using c2
              exact S_inj (V.str.inj this)
          · refine iteF ⟨rfl, rfl, hne, fun z => of_decide_eq_false c1 ?_⟩
            have e1 : d = 48 := by simpa using z.1
            rw [zero_S, e1]
    rintro σ H1 ⟨rfl, rfl, h1, h2⟩
    refine ⟨_, rfl, S l, rfl, ha.1, (by show l.length < _; omega), [], fun i xs Hc => xs = (l.take i).map (fun c => V.bl (TF.isFig c)), rfl, (fun j i v e => by cases e), (fun i xs Hc D ys zs hD e => e), (fun _ _ => rfl), (fun i c xs Hc hc sc e => ?_), fun p xs H' s' hp hpl e => ?_⟩
    · have hc' : l[i]? = some c := by simpa using hc
      refine ⟨_, rfl, _, _, rfl, rfl, Same.refl _, ?_⟩
      have ei : (!(PySem.Builtin.Str.occurrences (S figL) (S [c]) 0 (S figL).length 1).isEmpty) = TF.isFig c := by rw [in_one, fig_in]
      have e : xs = (l.take i).map (fun c => V.bl (TF.isFig c)) := e
      subst e
      show (l.take i).map (fun c => V.bl (TF.isFig c)) ++ [V.bl (!(PySem.Builtin.Str.occurrences (S figL) (S [c]) 0 (S figL).length 1).isEmpty)] = (l.take (i + 1)).map (fun c => V.bl (TF.isFig c))
      rw [List.take_add_one, hc', List.map_append, ei]
      rfl
    · have el : l.take (S l).cps.size = l := by simp
      have e : xs = (l.take (S l).cps.size).map (fun c => V.bl (TF.isFig c)) := e
      rw [el] at e
      subst e
      refine ⟨p, l.map TF.isFig, rfl, SqL.of (by rw [hpl, List.map_map]; rfl), ?_⟩
      have := q H' s'
      unfold TF.figs at this
      have e1 : l.isEmpty = false := by
        cases l with
        | nil => exact absurd rfl h1
        | cons _ _ => rfl
      have e2 : (decide (l.head? = some 48) && decide (l ≠ [48])) = false := by
        rw [Bool.and_eq_false_iff]
        by_cases z : l.head? = some 48
        · right; exact decide_eq_false fun w => h2 ⟨z, w⟩
        · left; exact decide_eq_false z
      rw [e1, e2] at this
      have e3 : (l.map TF.isFig).all id = l.all TF.isFig := by rw [List.all_map]; rfl
      rw [e3]
      exact this
def sp_part_of (C : Addr) : Sp := fun vs H Q E => ∃ (b : Bool) (l : List Nat), vs = [.bl b, .str (S l)] ∧ Asc l ∧ (TF.partF b l = none → ∀ H', Same H H' → E (.ref C) none H') ∧ (∀ i, TF.partF b l = some i → ∀ H', Same H H' → Q (.int i) H')
theorem ok_part_of {k : Nat} (T : Txt K mg t) : FnOk P w K mg base (CXL P w) (k + 2) t.f_part_of t.d_part_of ["below", "text"] (sp_part_of t.a_NoLine) := by
  refine T.d_part_of.F.okX sc_part_of (fun vs H Q E h => ?_) (fun cdv A outer s H vs Q E hr h => ?_)
  · obtain ⟨b, l, rfl, ha, q1, q2⟩ := h
    rfl
  · obtain ⟨b, l, rfl, ha, q1, q2⟩ := h
    refine ⟨_, (pss_cons (ps_J (ps_if (PW.pt (pw_or (pt_not (pt_val (pe_call (ok_are_figures T) hr rfl T.d_are_figures.m T.d_are_figures.F.kp T.d_are_figures.b .nil passL (pa_cons (pv 1) pa_nil (hs := seN))))) (pw_or1 (PW.pt (pw_and (pt_val (pv 0)) (pw_and1 (pt_cmpR op_eq (pv 1) pe_str nmEq))))))) (pss_one (ps_raise T.x_NoLine rfl (pa_cons pe_str pa_nil))) pss_nil))
      (pss_cons (ps_set (i := 2) sc_part_of.nd rfl (by first | exact Or.inl rfl | exact Or.inr rfl) (pe_call (ok_whole_of T) hr rfl T.d_whole_of.m T.d_whole_of.F.kp T.d_whole_of.b .nil passL (pa_cons (pv 1) pa_nil (hs := seN))))
      (pss_one (ps_ret (pe_ifExp (pt_val (pv 0)) (pe_un un_neg (pv 2)) (pv 2)))))), ?_⟩
    refine ⟨fun σ H1 => σ = [some (.bl b), some (.str (S l)), none] ∧ Same H H1 ∧ TF.figs l = true ∧ ¬ (b = true ∧ l = [48]), ?_, ?_⟩
    rotate_left
    · refine ⟨_, rfl, _, rfl, ha, fun H1 s1 => ⟨_, rfl, ?_⟩⟩
      by_cases hf : TF.figs l = true
      · rw [hf]
        refine iteF ⟨_, rfl, _, rfl, if2 (fun c => ?_) (fun c => ?_)⟩
        · subst c
          refine ⟨_, rfl, rfl, _, rfl, if2 (fun c2 => ?_) (fun c2 => ?_)⟩
          · have e : l = [48] := by
              have := of_decide_eq_true c2
              rw [zero_S] at this
              exact S_inj (V.str.inj this)
            refine ⟨sz1, q1 ?_ H1 s1⟩
            subst e
            rfl
          · refine ⟨rfl, s1, rfl, fun z => of_decide_eq_false c2 ?_⟩
            rw [z.2, zero_S]
        · subst c
          exact iteF ⟨rfl, s1, rfl, fun z => by cases z.1⟩
      · have hf' : TF.figs l = false := by simpa using hf
        rw [hf']
        refine iteT ⟨sz1, q1 ?_ H1 s1⟩
        unfold TF.partF
        rw [hf']
        rfl
    rintro σ H1 ⟨rfl, s1, hf, hb⟩
    have hall : l.all TF.isFig = true := by
      unfold TF.figs at hf
      rw [Bool.and_eq_true] at hf
      exact hf.2
    have hp : TF.partF b l = some (if b then -(TF.val l : Int) else TF.val l) := by
      unfold TF.partF
      rw [hf]
      have : (b && decide (l = [48])) = false := by
        cases b with
        | false => rfl
        | true => exact decide_eq_false fun z => hb ⟨rfl, z⟩
      rw [this]
      rfl
    have q := q2 _ hp
    refine ⟨_, rfl, l, rfl, hall, ha.2, ?_⟩
    refine ⟨_, rfl, _, rfl, if2 (fun c => ?_) (fun c => ?_)⟩
    · rw [c] at q
      exact ⟨_, rfl, _, rfl, q _ s1⟩
    · rw [c] at q
      exact ⟨_, rfl, q _ s1⟩
def sp_read (K : PySem.W.Frag) (C : Addr) : Sp := fun vs H Q E => ∃ l : List Nat, vs = [.str (S l)] ∧ Asc l ∧ (TF.readF l = none → ∀ H', Same H H' → E (.ref C) none H') ∧ (∀ p, TF.readF l = some p → ∀ v H', Same H H' → NumV K H' v p → Q v H')
theorem Asc.sub {l m : List Nat} (h : Asc l) (hs : ∀ c ∈ m, c ∈ l) (hl : m.length ≤ l.length) : Asc m := by
  obtain ⟨h1, h2⟩ := h
  refine ⟨?_, by omega⟩
  simp only [List.all_toArray, List.all_eq_true] at h1 ⊢
  exact fun c hc => h1 c (hs c hc)
theorem ok_read {k : Nat} (T : Txt K mg t) : FnOk P w K mg base (CXL P w) (k + 3) t.f_read t.d_read ["line"] (sp_read K t.a_NoLine) := by
  refine T.d_read.F.okX sc_read (fun vs H Q E h => ?_) (fun cdv A outer s H vs Q E hr h => ?_)
  · obtain ⟨l, rfl, ha, q1, q2⟩ := h
    rfl
  · obtain ⟨l, rfl, ha, q1, q2⟩ := h
    have hsl : sizeLine = 16777216 := sizeLine_eq
    have hl := ha.2
    refine ⟨_, (pss_cons (ps_if (pt_not (pt_val (pe_bm PySem.F.plainAttrs_str PySem.F.slot_str_endswith PySem.F.type_str_endswith mt_ends (pv 0) (pa_cons pe_str pa_nil (hs := seK))))) (pss_one (ps_raise T.x_NoLine rfl (pa_cons pe_str pa_nil))) pss_nil)
      (pss_cons (ps_set (i := 1) sc_read.nd rfl (by first | exact Or.inl rfl | exact Or.inr rfl) (pe_bm PySem.F.plainAttrs_str PySem.F.slot_str_startswith PySem.F.type_str_startswith mt_starts (pv 0) (pa_cons pe_str pa_nil (hs := seK))))
      (pss_cons (ps_set (i := 2) sc_read.nd rfl (by first | exact Or.inl rfl | exact Or.inr rfl) (pe_J (pe_ifExp (pt_val (pv 1)) (pe_slice sl_str (pv 0) (po_some pe_int) po_none) (pv 0))))
      (pss_cons (ps_set (i := 3) sc_read.nd rfl (by first | exact Or.inl rfl | exact Or.inr rfl) (pe_cmpR op_in_str pe_str (pv 2) (by with_unfolding_all rfl)))
      (pss_cons (ps_set (i := 4) sc_read.nd rfl (by first | exact Or.inl rfl | exact Or.inr rfl) (pe_bm PySem.F.plainAttrs_str PySem.F.slot_str_partition PySem.F.type_str_partition mt_part (pv 2) (pa_cons (pe_J (pe_ifExp (pt_val (pv 3)) pe_str pe_str)) pa_nil)))
      (pss_one (ps_ret (pe_pair (pa_cons (pe_call (ok_part_of T) hr rfl T.d_part_of.m T.d_part_of.F.kp T.d_part_of.b .nil passX (pa_cons (pv 1) (pa_cons (pe_ix ix_tup (pv 4) pe_int (fun _ _ => by with_unfolding_all rfl)) pa_nil (hs := seS)) (hs := seN))) (pa_cons (pe_call (ok_part_of T) hr rfl T.d_part_of.m T.d_part_of.F.kp T.d_part_of.b .nil passX (pa_cons (pv 3) (pa_cons (pe_slice sl_str (pe_ix ix_tup (pv 4) pe_int (fun _ _ => by with_unfolding_all rfl)) po_none (po_some (pe_un un_neg pe_int))) pa_nil (hs := seS)) (hs := seN))) pa_nil (hs := seC)) (hs := seC)))))))))), ?_⟩
    refine ⟨_, rfl, rfl, _, _, rfl, rfl, _, rfl, ?_⟩
    rw [w_S, ends_one]
    by_cases hw : l.getLast? = some 119
    · rw [decide_eq_true hw]
      refine iteF ?_
      refine ⟨_, rfl, rfl, _, _, rfl, rfl, ?_⟩
      rw [minus_S, starts_one]
      generalize hfb : decide (l.head? = some 45) = fb
      have hne : l ≠ [] := fun z => by rw [z] at hw; cases hw
      refine ⟨fun v H1 => v = .str (S (if fb = true then l.drop 1 else l)) ∧ H1 = H, ?_, ?_⟩
      rotate_left
      · refine ⟨_, rfl, _, rfl, if2 (fun c => ?_) (fun c => ?_)⟩
        · refine ⟨_, rfl, _, rfl, _, rfl, (by rw [S_len]; omega), ?_, rfl⟩
          rw [c, if_pos rfl, slice_1 l hne]
        · refine ⟨_, rfl, ?_, rfl⟩
          rw [c]
          rfl
      rintro v H0 ⟨rfl, e0⟩
      have e0 := e0.symm
      subst e0
      generalize hu : (if fb = true then l.drop 1 else l) = u
      have hau : Asc u := by
        rw [← hu]
        refine ha.sub (fun c hc => ?_) ?_
        · split at hc
          · exact List.mem_of_mem_drop hc
          · exact hc
        · split
          · rw [List.length_drop]; omega
          · exact Nat.le_refl _
      have hul := hau.2
      refine ⟨_, rfl, _, _, rfl, rfl, ?_⟩
      rw [in_one]
      generalize hsb : u.contains 45 = sb
      refine ⟨_, rfl, rfl, fun v H1 => v = .str (S [if sb = true then 45 else 43]) ∧ H1 = H, ?_, ?_⟩
      rotate_left
      · refine ⟨_, rfl, _, rfl, if2 (fun c => ?_) (fun c => ?_)⟩
        · rw [c]
          first | exact ⟨rfl, rfl⟩ | exact ⟨congrArg V.str minus_S, rfl⟩
        · rw [c]
          first | exact ⟨rfl, rfl⟩ | exact ⟨congrArg V.str plus_S, rfl⟩
      rintro v H0 ⟨rfl, e0⟩
      have e0 := e0.symm
      subst e0
      generalize hsep : (if sb = true then 45 else 43) = sep
      refine ⟨_, _, rfl, rfl, rfl, (by rw [S_len]; omega), fun pt H1 s1 hpt => ?_⟩
      have hpart : (Txt.partition (S u) (S [sep])).1 = S (TF.cutL sep u) ∧ (Txt.partition (S u) (S [sep])).2.2 = S (TF.cutR sep u) := by
        by_cases hm : sep ∈ u
        · rw [part_one u sep hm]; exact ⟨rfl, rfl⟩
        · rw [part_none u sep hm]; exact ⟨rfl, rfl⟩
      rw [hpart.1, hpart.2] at hpt
      have hr : TF.readF l = (match TF.partF fb (TF.cutL sep u), TF.partF sb (TF.cutR sep u).dropLast with
          | some a, some b => some (a, b)
          | _, _ => none) := by
        unfold TF.readF
        rw [if_pos hw]
        simp only [hfb, hu, hsb, hsep]
        try (cases TF.partF fb (TF.cutL sep u) <;> cases TF.partF sb (TF.cutR sep u).dropLast <;> rfl)
      have aL : Asc (TF.cutL sep u) := hau.sub (fun c hc => (List.takeWhile_sublist _).subset hc) (List.takeWhile_sublist _).length_le
      have aR : Asc (TF.cutR sep u).dropLast := hau.sub (fun c hc => by
        have h1 := List.mem_of_mem_drop (List.dropLast_subset _ hc)
        exact (List.dropWhile_suffix _).subset h1) (by
        unfold TF.cutR
        have h1 := (List.dropWhile_suffix (l := u) (· ≠ sep)).length_le
        rw [List.length_dropLast, List.length_drop]
        omega)
      have sl : Txt.slice (S (TF.cutR sep u)) none (some (-1)) = S (TF.cutR sep u).dropLast := by
        by_cases z : TF.cutR sep u = []
        · rw [z]; exact slice_m1n
        · exact slice_m1 _ z
      have cutRl : (TF.cutR sep u).length ≤ sizeLine := by
        unfold TF.cutR
        have h1 := (List.dropWhile_suffix (l := u) (· ≠ sep)).length_le
        rw [List.length_drop]
        omega
      refine ⟨_, rfl, _, rfl, _, _, _, _, rfl, rfl, SqT.of hpt, rfl, fb, _, rfl, aL, fun hz H2 s2 => ?_, fun i hi H2 s2 => ?_⟩
      · refine q1 ?_ H2 (s1.trans s2)
        rw [hr, hz]
      · have hpt2 := s2 _ _ hpt
        refine ⟨_, rfl, _, rfl, _, _, _, _, rfl, rfl, SqT.of hpt2, rfl, _, rfl, _, rfl, _, rfl, (by rw [S_len]; exact cutRl), ?_⟩
        rw [show Txt.slice (S (TF.cutR sep u)) none (some (-1)) = _ from sl]
        refine ⟨sb, _, rfl, aR, fun hz H3 s3 => ?_, fun j hj H3 s3 => ?_⟩
        · refine q1 ?_ H3 ((s1.trans s2).trans s3)
          rw [hr, hi, hz]
        · refine ⟨_, _, rfl, fun v H4 s4 n4 => q2 (i, j) ?_ v H4 (((s1.trans s2).trans s3).trans s4) n4⟩
          rw [hr, hi, hj]
    · rw [decide_eq_false hw]
      refine iteT ⟨sz1, q1 ?_ H (Same.refl _)⟩
      unfold TF.readF
      rw [if_neg hw]
def sp_law_whole : Sp := fun vs H Q _ => ∃ i, vs = [.int i] ∧ Q (.bl true) H
theorem ok_law_whole {k : Nat} (T : Txt K mg t) : FnOk P w K mg base (CXL P w) (k + 1) t.f_law_whole t.d_law_whole ["_law_found"] (sp_law_whole) := by
  refine T.d_law_whole.F.okL sc_law_whole (fun vs H Q E h => ?_) (fun cdv A outer s H vs Q E hr h => ?_)
  · obtain ⟨n, rfl, q⟩ := h
    rfl
  · obtain ⟨n, rfl, q⟩ := h
    refine ⟨_, (pss_one (ps_ret (pe_and (pe_callB call_isinst rfl T.b_isinstance bt_isinstance (pa_cons (pv 0) (pa_cons (pe_bltn rfl T.b_int bt_int (v := .ty "int") rfl) pa_nil (hs := seN)) (hs := seN))) (pe_one (pe_not (pe_callB call_isinst rfl T.b_isinstance bt_isinstance (pa_cons (pv 0) (pa_cons (pe_bltn rfl T.b_bool bt_bool (v := .ty "bool") rfl) pa_nil (hs := seN)) (hs := seN)))))))), ?_⟩
    refine ⟨_, rfl, _, _, _, _, rfl, .int _, kit_int_int, _, rfl, iteT ?_⟩
    exact ⟨_, rfl, _, _, _, _, rfl, .int _, kit_int_bool, _, rfl, q⟩
def sp_law_at (K : PySem.W.Frag) : Sp := fun vs H Q _ => ∃ a k, ∃ ns : List Int, vs = [.ref a, .int k] ∧ SqL K H a (ns.map V.int) ∧ 0 ≤ k ∧ ∀ z, Q (.int z) H
theorem ok_law_at {k : Nat} (T : Txt K mg t) : FnOk P w K mg base (CXL P w) (k + 1) t.f_law_at t.d_law_at ["_law_script", "_law_k"] (sp_law_at K) := by
  refine T.d_law_at.F.okL sc_law_at (fun vs H Q E h => ?_) (fun cdv A outer s H vs Q E hr h => ?_)
  · obtain ⟨a, n, ns, rfl, hS, hn, q⟩ := h
    rfl
  · obtain ⟨a, n, ns, rfl, hS, hn, q⟩ := h
    refine ⟨_, (pss_cons (ps_if (pt_cmpR op_lt (pv 1) (pe_callB call_len_seq rfl T.b_len bt_len (pa_cons (pv 0) pa_nil (hs := seN))) nmLt) (pss_one (ps_ret (pe_ix ix_list (pv 0) (pv 1) (fun _ _ => by with_unfolding_all rfl)))) pss_nil)
      (pss_one (ps_ret pe_int))), ?_⟩
    refine ⟨_, rfl, _, rfl, _, _, rfl, .inl hS, _, _, rfl, rfl, _, rfl, if2 (fun c => ?_) (fun c => ?_)⟩
    · have hlt : n < ((ns.map V.int).length : Int) := of_decide_eq_true c
      obtain ⟨j, rfl⟩ : ∃ j : Nat, n = (j : Int) := ⟨n.toNat, by omega⟩
      have hj : j < ns.length := by rw [List.length_map] at hlt; omega
      exact ⟨_, rfl, _, rfl, _, _, _, _, rfl, rfl, hS, atI_nat (v := .int ns[j]) (by rw [List.getElem?_map, List.getElem?_eq_getElem hj]; rfl), q _⟩
    · exact q _
def sp_law_part_by : Sp := fun vs H Q _ => ∃ c, vs = [.int c] ∧ ∀ z H', z.natAbs ≤ 10 ^ 30 → Same H H' → Q (.int z) H'
theorem ok_law_part_by {k : Nat} (T : Txt K mg t) : FnOk P w K mg base (CXL P w) (k + 1) t.f_law_part_by t.d_law_part_by ["_law_cell"] (sp_law_part_by) := by
  refine T.d_law_part_by.F.okL sc_law_part_by (fun vs H Q E h => ?_) (fun cdv A outer s H vs Q E hr h => ?_)
  · obtain ⟨c, rfl, q⟩ := h
    rfl
  · obtain ⟨c, rfl, q⟩ := h
    refine ⟨_, (pss_cons (ps_if (pt_cmpR op_eq (pe_op op_mod (pv 0) pe_int) pe_int nmEq) (pss_one (ps_ret (pe_op op_mulF (pe_op op_mod (pe_op op_fdiv (pv 0) pe_int) (pe_op op_pow pe_int pe_int)) (pe_ix ix_list (pe_lstS (pa_cons pe_int (pa_cons (pe_un un_neg pe_int) pa_nil (hs := seU)) (hs := seK))) (pe_op op_mod (pe_op op_fdiv (pv 0) pe_int) pe_int) (fun _ _ => by with_unfolding_all rfl))))) pss_nil)
      (pss_one (ps_ret (pe_ix ix_list (pe_lstS (pa_cons (pe_op op_sub (pe_op op_mod (pe_op op_fdiv (pv 0) pe_int) pe_int) pe_int) (pa_cons pe_int (pa_cons (pe_op op_sub (pe_op op_pow pe_int pe_int) (pe_op op_mod (pv 0) pe_int)) (pa_cons (pe_op op_sub pe_int (pe_op op_mod (pe_op op_fdiv (pv 0) pe_int) pe_int)) pa_nil (hs := seB)) (hs := seB)) (hs := seK)) (hs := seB))) (pe_op op_mod (pv 0) pe_int) (fun _ _ => by with_unfolding_all rfl))))), ?_⟩
    refine ⟨_, rfl, _, _, rfl, rfl, (by show (0 : Int) < 7; decide), rfl, _, rfl, if2 (fun _ => ?_) (fun _ => ?_)⟩
    · refine ⟨_, rfl, _, _, rfl, rfl, ⟨by decide, by decide⟩, _, _, rfl, rfl, ⟨by decide, by decide, by decide⟩, _, _, rfl, rfl, (by show (0 : Int) < 10 ^ 30; decide), ?_⟩
      refine ⟨_, rfl, sz2, fun p H1 s1 _ hp => ?_⟩
      obtain ⟨v, e, hv⟩ := at2 (V.int 1) (V.int (-1)) (c / 7)
      refine ⟨_, rfl, _, _, rfl, rfl, ⟨by decide, by decide⟩, _, _, rfl, rfl, (by show (0 : Int) < 2; decide), _, _, _, _, rfl, rfl, SqL.of hp, e, ?_⟩
      have b : (c / 7 % (10 : Int) ^ (30 : Int).toNat) < 10 ^ 30 := Int.emod_lt_of_pos _ (by decide)
      have b0 : 0 ≤ (c / 7 % (10 : Int) ^ (30 : Int).toNat) := Int.emod_nonneg _ (by decide)
      rcases hv with rfl | rfl
      · exact ⟨_, _, rfl, rfl, .of_right (by decide), q _ _ (by rw [Int.mul_one]; omega) s1⟩
      · exact ⟨_, _, rfl, rfl, .of_right (by decide), q _ _ (by rw [Int.mul_neg, Int.mul_one]; omega) s1⟩
    · refine ⟨_, rfl, _, _, rfl, rfl, ⟨by decide, by decide⟩, _, _, rfl, rfl, (by show (0 : Int) < 41; decide), _, _, rfl, rfl, ?_⟩
      refine ⟨_, _, rfl, rfl, ⟨by decide, by decide, by decide⟩, _, rfl, _, _, rfl, rfl, (by show (0 : Int) < 97; decide), _, _, rfl, rfl, ?_⟩
      refine ⟨_, rfl, _, _, rfl, rfl, ⟨by decide, by decide⟩, _, _, rfl, rfl, (by show (0 : Int) < 3; decide), _, _, rfl, rfl, ?_⟩
      refine ⟨sz4, fun p H1 s1 _ hp => ?_⟩
      obtain ⟨v, e, hv⟩ := at4 (V.int (c / 4 % 41 - 20)) (V.int 0) (V.int ((10 : Int) ^ (30 : Int).toNat - c % 97)) (V.int (0 - c / 4 % 3)) c
      refine ⟨_, rfl, _, _, rfl, rfl, (by show (0 : Int) < 4; decide), _, _, _, _, rfl, rfl, SqL.of hp, e, ?_⟩
      have e30 : (10 : Int) ^ (30 : Int).toNat = 1000000000000000000000000000000 := by decide
      rcases hv with rfl | rfl | rfl | rfl
      · exact q _ _ (by omega) s1
      · exact q _ _ (by decide) s1
      · exact q _ _ (by rw [e30]; omega) s1
      · exact q _ _ (by omega) s1
def sp_law_number_by (K : PySem.W.Frag) : Sp := fun vs H Q _ => ∃ a k, ∃ ns : List Int, vs = [.ref a, .int k] ∧ SqL K H a (ns.map V.int) ∧ 0 ≤ k ∧ ∀ v x H', Same H H' → NumV K H' v x → Bd (10 ^ 30) x → Q v H'
theorem ok_law_number_by {k : Nat} (T : Txt K mg t) : FnOk P w K mg base (CXL P w) (k + 2) t.f_law_number_by t.d_law_number_by ["_law_script", "_law_k"] (sp_law_number_by K) := by
  refine T.d_law_number_by.F.okL sc_law_number_by (fun vs H Q E h => ?_) (fun cdv A outer s H vs Q E hr h => ?_)
  · obtain ⟨a, n, ns, rfl, hS, hn, q⟩ := h
    rfl
  · obtain ⟨a, n, ns, rfl, hS, hn, q⟩ := h
    refine ⟨_, (pss_one (ps_ret (pe_pair (pa_cons (pe_call (ok_law_part_by T) hr rfl T.d_law_part_by.m T.d_law_part_by.F.kp T.d_law_part_by.b .nil passL (pa_cons (pe_call (ok_law_at T) hr rfl T.d_law_at.m T.d_law_at.F.kp T.d_law_at.b .nil passL (pa_cons (pv 0) (pa_cons (pv 1) pa_nil (hs := seN)) (hs := seN))) pa_nil (hs := seC))) (pa_cons (pe_call (ok_law_part_by T) hr rfl T.d_law_part_by.m T.d_law_part_by.F.kp T.d_law_part_by.b .nil passL (pa_cons (pe_call (ok_law_at T) hr rfl T.d_law_at.m T.d_law_at.F.kp T.d_law_at.b .nil passL (pa_cons (pv 0) (pa_cons (pe_op op_add (pv 1) pe_int) pa_nil (hs := seB)) (hs := seN))) pa_nil (hs := seC))) pa_nil (hs := seC)) (hs := seC))))), ?_⟩
    refine ⟨_, rfl, _, rfl, _, _, ns, rfl, hS, hn, fun z1 => ⟨_, rfl, fun y1 H1 b1 s1 => ?_⟩⟩
    refine ⟨_, rfl, _, rfl, _, _, rfl, rfl, _, _, ns, rfl, s1.seq hS, (by omega), fun z2 => ⟨_, rfl, fun y2 H2 b2 s2 => ?_⟩⟩
    exact ⟨_, _, rfl, fun v H' s n => q v _ H' ((s1.trans s2).trans s) n ⟨b1, b2⟩⟩
def sp_law_is_number (K : PySem.W.Frag) : Sp := fun vs H Q _ => ∃ x v, vs = [v] ∧ NumV K H v x ∧ Q (.bl true) H
theorem ok_law_is_number {k : Nat} (T : Txt K mg t) : FnOk P w K mg base (CXL P w) (k + 2) t.f_law_is_number t.d_law_is_number ["_law_found"] (sp_law_is_number K) := by
  refine T.d_law_is_number.F.okL sc_law_is_number (fun vs H Q E h => ?_) (fun cdv A outer s H vs Q E hr h => ?_)
  · obtain ⟨x, v, rfl, hx, q⟩ := h
    rfl
  · obtain ⟨x, v, rfl, hx, q⟩ := h
    refine ⟨_, (pss_cons (ps_if (PW.pt (pw_or (pt_not (pt_val (pe_callB call_isinst rfl T.b_isinstance bt_isinstance (pa_cons (pv 0) (pa_cons (pe_bltn rfl T.b_tuple bt_tuple (v := .ty "tuple") rfl) pa_nil (hs := seN)) (hs := seN))))) (pw_or1 (pt_cmpR op_ne (pe_callB call_len_seq rfl T.b_len bt_len (pa_cons (pv 0) pa_nil (hs := seN))) pe_int nmNotEq)))) (pss_one (ps_ret pe_bl)) pss_nil)
      (pss_one (ps_ret (pe_and (pe_call (ok_law_whole T) hr rfl T.d_law_whole.m T.d_law_whole.F.kp T.d_law_whole.b .nil passL (pa_cons (pe_n0 (pv 0)) pa_nil (hs := seS))) (pe_one (pe_call (ok_law_whole T) hr rfl T.d_law_whole.m T.d_law_whole.F.kp T.d_law_whole.b .nil passL (pa_cons (pe_n1 (pv 0)) pa_nil (hs := seS)))))))), ?_⟩
    obtain ⟨p, rfl, hp⟩ := id hx
    refine ⟨_, rfl, _, _, _, _, rfl, .tup hp, kit_tuple_tuple, _, rfl, iteF ?_⟩
    refine ⟨_, rfl, _, _, rfl, .inr hp, rfl, _, rfl, iteF ?_⟩
    exact ⟨_, rfl, _, hx, _, rfl, _, rfl, iteT ⟨_, rfl, _, hx, _, rfl, q⟩⟩
def firstsL : List (List Nat) := [[], [43, 51], [45, 48], [48, 51], [45, 48, 51], [45, 45, 51], [51, 32], [32, 51], [120], [51, 46], [51]]
def secondsL : List (List Nat) := [[43], [45], [43, 45, 49], [45, 45, 49], [43, 32, 49], [43, 48, 49], [45, 48], [45, 48, 49], [43, 49, 120], [], [42, 49]]
def behindL : List (List Nat) := [[119], [32], [49], [43, 49, 119]]
def SV (l : List Nat) : V := .str (S l)
theorem firsts_eq : ([.str (Str.ofString ""), .str (Str.ofString "+3"), .str (Str.ofString "-0"), .str (Str.ofString "03"), .str (Str.ofString "-03"), .str (Str.ofString "--3"), .str (Str.ofString "3 "), .str (Str.ofString " 3"), .str (Str.ofString "x"), .str (Str.ofString "3."), .str (Str.ofString "3")] : List V) = firstsL.map SV := by decide +kernel
theorem seconds_eq : ([.str (Str.ofString "+"), .str (Str.ofString "-"), .str (Str.ofString "+-1"), .str (Str.ofString "--1"), .str (Str.ofString "+ 1"), .str (Str.ofString "+01"), .str (Str.ofString "-0"), .str (Str.ofString "-01"), .str (Str.ofString "+1x"), .str (Str.ofString ""), .str (Str.ofString "*1")] : List V) = secondsL.map SV := by decide +kernel
theorem behind_eq : ([.str (Str.ofString "w"), .str (Str.ofString " "), .str (Str.ofString "1"), .str (S [43, 49, 119])] : List V) = behindL.map SV := by decide +kernel
theorem sign_eq : ([.str (Str.ofString "+"), .str (Str.ofString "-")] : List V) = [SV [43], SV [45]] := by decide +kernel
theorem at_mod {xs : List (List Nat)} {n : Nat} (hn : xs.length = n) (h0 : 0 < n) (z : Int) : ∃ i l, i < n ∧ (i : Int) = z % (n : Int) ∧ xs[i]? = some l ∧ atI (xs.map SV) (z % (n : Int)) = some (.str (S l)) := by
  have h1 := Int.emod_nonneg z (show (n : Int) ≠ 0 by omega)
  have h2 := Int.emod_lt_of_pos z (show (0 : Int) < n by omega)
  obtain ⟨i, hi⟩ : ∃ i : Nat, z % (n : Int) = (i : Int) := ⟨(z % (n : Int)).toNat, by omega⟩
  have hlt : i < xs.length := by omega
  refine ⟨i, xs[i], by omega, hi.symm, List.getElem?_eq_getElem hlt, ?_⟩
  rw [hi]
  exact atI_nat (v := V.str (S xs[i])) (by rw [List.getElem?_map, List.getElem?_eq_getElem hlt]; rfl)
/-- a line that is none -/
def Bad (l : List Nat) : Prop := TF.readF l = none ∧ Asc l
def ascB (l : List Nat) : Bool := l.all (· < 128) && decide (l.length ≤ 100)
theorem asc_of {l : List Nat} (h : ascB l = true) : Asc l := by
  unfold ascB at h
  rw [Bool.and_eq_true, decide_eq_true_iff] at h
  exact ⟨by simpa using h.1, h.2⟩
theorem bad_first {i : Nat} {l : List Nat} (h : firstsL[i]? = some l) (hi : i < 11) (hn : i ≠ 10) : Bad (l ++ [43, 49, 119]) := by
  have key : ∀ i : Nat, i < 10 → TF.readF (firstsL.getD i [] ++ [43, 49, 119]) = none ∧ ascB (firstsL.getD i [] ++ [43, 49, 119]) = true := by decide +kernel
  have e : firstsL.getD i [] = l := by rw [List.getD_eq_getElem?_getD, h]; rfl
  have := key i (by omega)
  rw [e] at this
  exact ⟨this.1, asc_of this.2⟩
theorem bad_second {i : Nat} {l : List Nat} (h : secondsL[i]? = some l) (hi : i < 11) : Bad ([51] ++ l ++ [119]) := by
  have key : ∀ i : Nat, i < 11 → TF.readF ([51] ++ secondsL.getD i [] ++ [119]) = none ∧ ascB ([51] ++ secondsL.getD i [] ++ [119]) = true := by decide +kernel
  have e : secondsL.getD i [] = l := by rw [List.getD_eq_getElem?_getD, h]; rfl
  have := key i hi
  rw [e] at this
  exact ⟨this.1, asc_of this.2⟩
theorem dig_asc (n : Nat) : ∀ c ∈ TF.dig n, c < 128 := fun c hc => by
  have := TF.dig_fig n c hc
  unfold TF.isFig at this
  rw [Bool.and_eq_true, decide_eq_true_iff, decide_eq_true_iff] at this
  omega
theorem line_asc {x : P2} (h : Bd (10 ^ 30) x) {t : List Nat} (ht : ∀ c ∈ t, c < 128) (hl : t.length ≤ 4) : Asc (TF.lineF x.1 x.2 ++ t) := by
  have l1 := TF.dig_len 30 x.1.natAbs (Nat.lt_of_le_of_lt h.1 (by decide))
  have l2 := TF.dig_len 30 x.2.natAbs (Nat.lt_of_le_of_lt h.2 (by decide))
  have l0 : (if x.1 < 0 then [45] else ([] : List Nat)).length ≤ 1 := by split <;> simp
  refine ⟨?_, ?_⟩
  · simp only [List.all_toArray, List.all_eq_true, decide_eq_true_iff]
    intro c hc
    unfold TF.lineF TF.bodyF TF.sgn at hc
    simp only [List.mem_append, List.mem_cons, List.not_mem_nil, or_false] at hc
    rcases hc with (hc | (hc | hc | hc) | hc) | hc
    · split at hc
      · simp at hc; omega
      · cases hc
    · exact dig_asc _ c hc
    · split at hc <;> omega
    · exact dig_asc _ c hc
    · omega
    · exact ht c hc
  · unfold TF.lineF TF.bodyF
    simp only [List.length_append, List.length_cons, List.length_nil]
    omega
theorem bad_behind {x : P2} (h : Bd (10 ^ 30) x) {i : Nat} {l : List Nat} (hi : behindL[i]? = some l) (hlt : i < 4) : Bad (TF.lineF x.1 x.2 ++ l) := by
  have hm : l = [119] ∨ l = [32] ∨ l = [49] ∨ l = [43, 49, 119] := by
    match i, hlt, hi with
    | 0, _, hi => cases hi; simp
    | 1, _, hi => cases hi; simp
    | 2, _, hi => cases hi; simp
    | 3, _, hi => cases hi; simp
  refine ⟨TF.read_behind _ _ l hm, line_asc h (fun c hc => ?_) ?_⟩
  · rcases hm with rfl | rfl | rfl | rfl <;> simp at hc <;> omega
  · rcases hm with rfl | rfl | rfl | rfl <;> simp
theorem bad_cut {x : P2} (h : Bd (10 ^ 30) x) : Bad (TF.lineF x.1 x.2).dropLast := by
  have ha := line_asc h (t := []) (fun c hc => by cases hc) (by simp)
  rw [List.append_nil] at ha
  exact ⟨TF.read_cut _ _, ha.sub (fun c hc => List.dropLast_subset _ hc) (by rw [List.length_dropLast]; omega)⟩
theorem line_ne (a b : Int) : TF.lineF a b ≠ [] := by
  unfold TF.lineF
  simp
theorem range3m {m : Nat} (h : m ≤ 63) : Builtin.Range.small 0 ((m : Int) + 1) 3 = true ∧ Builtin.Range.rangeSize 0 ((m : Int) + 1) 3 = ((Builtin.Range.rangeSize 0 ((m : Int) + 1) 3).toNat : Int) := by
  have k : ∀ m : Nat, m < 64 → Builtin.Range.small 0 ((m : Int) + 1) 3 = true ∧ Builtin.Range.rangeSize 0 ((m : Int) + 1) 3 = ((Builtin.Range.rangeSize 0 ((m : Int) + 1) 3).toNat : Int) := by decide +kernel
  exact k m (by omega)
theorem log30 {i : Int} (h : i.natAbs ≤ 10 ^ 30) : i.natAbs.log2 < 1920 := by
  by_cases h0 : i.natAbs = 0
  · rw [h0]; decide
  · refine (Nat.log2_lt h0).mpr (Nat.lt_of_le_of_lt h ?_)
    exact Nat.lt_of_lt_of_le (show 10 ^ 30 < 2 ^ 100 by decide) (Nat.pow_le_pow_right (by decide) (by decide))
theorem plus1w_S : Str.ofString "+1w" = S [43, 49, 119] := by decide +kernel
theorem three_S : Str.ofString "3" = S [51] := by decide +kernel
theorem due_eq (a b : Int) : Str.ofString (toString a) ++ S [TF.sgn b] ++ Str.ofString (toString (if b < 0 then -b else b)) ++ Str.ofString "w" = S (TF.lineF a b) := by
  rw [int_text, int_text, w_S, S_app, S_app, S_app, abs_if, if_neg (show ¬ ((b.natAbs : Int) < 0) by omega), Int.natAbs_natCast]
  congr 1
  simp [TF.lineF, TF.bodyF]
def sp_law (K : PySem.W.Frag) : Sp := fun vs H Q _ => ∃ (a : Addr) (ns : List Int), vs = [.ref a] ∧ SqL K H a (ns.map V.int) ∧ ns.length ≤ 63 ∧ ∀ H', Q (.bl true) H'
theorem ok_law {k : Nat} (T : Txt K mg t) : FnOk P w K mg base (CXL P w) (k + 6) t.f_law t.d_law ["_law_script"] (sp_law K) := by
  refine T.d_law.F.okL sc_law (fun vs H Q E h => ?_) (fun cdv A outer s H vs Q E hr h => ?_)
  · obtain ⟨a, ns, rfl, _⟩ := h
    rfl
  · obtain ⟨a, ns, rfl, hS, hlen, q⟩ := h
    have hsl : sizeLine = 16777216 := sizeLine_eq
    refine ⟨_, (pss_cons (ps_set (i := 0) sc_law.nd rfl (by first | exact Or.inl rfl | exact Or.inr rfl) (pe_slice sl_list (pv 0) po_none (po_some pe_int)))
      (pss_cons (ps_for PassesOwn.never rfl (pi_range3 rfl T.b_range (pa_cons pe_int (pa_cons (pe_op op_add (pe_callB call_len_seq rfl T.b_len bt_len (pa_cons (pv 0) pa_nil (hs := seN))) pe_int) (pa_cons pe_int pa_nil (hs := seK)) (hs := seB)) (hs := seK))) (pg_name (i := 1) sc_law.nd rfl (by first | exact Or.inl rfl | exact Or.inr rfl)) (pss_cons (ps_set (i := 2) sc_law.nd rfl (by first | exact Or.inl rfl | exact Or.inr rfl) (pe_call (ok_law_number_by T) hr rfl T.d_law_number_by.m T.d_law_number_by.F.kp T.d_law_number_by.b .nil passL (pa_cons (pv 0) (pa_cons (pv 1) pa_nil (hs := seN)) (hs := seN))))
      (pss_cons (ps_set (i := 3) sc_law.nd rfl (by first | exact Or.inl rfl | exact Or.inr rfl) (pe_op op_add_str (pe_op op_add_str (pe_op op_add_str (pe_callTy call_str_int rfl T.b_str bt_str (pa_cons (pe_n0 (pv 2)) pa_nil (hs := seS))) (pe_ix ix_list (pe_lstS (pa_cons pe_str (pa_cons pe_str pa_nil (hs := seK)) (hs := seK))) (pe_callTy call_int1 rfl T.b_int bt_int (pa_cons (pe_cmpR op_lt (pe_n1 (pv 2)) pe_int nmLt) pa_nil)) (fun _ _ => by with_unfolding_all rfl))) (pe_callTy call_str_int rfl T.b_str bt_str (pa_cons (pe_callB call_abs rfl T.b_abs bt_abs (pa_cons (pe_n1 (pv 2)) pa_nil (hs := seS))) pa_nil (hs := seC)))) pe_str))
      (pss_cons (ps_set (i := 4) sc_law.nd rfl (by first | exact Or.inl rfl | exact Or.inr rfl) (pe_call (ok_shown T) hr rfl T.d_shown.m T.d_shown.F.kp T.d_shown.b .nil passL (pa_cons (pv 2) pa_nil (hs := seN))))
      (pss_cons (ps_if (PW.pt (pw_or (pt_not (pt_val (pe_callB call_isinst rfl T.b_isinstance bt_isinstance (pa_cons (pv 4) (pa_cons (pe_bltn rfl T.b_str bt_str (v := .ty "str") rfl) pa_nil (hs := seN)) (hs := seN))))) (pw_or1 (pt_cmpR op_ne (pv 4) (pv 3) nmNotEq)))) (pss_one (ps_ret pe_bl)) pss_nil)
      (pss_cons (ps_set (i := 5) sc_law.nd rfl (by first | exact Or.inl rfl | exact Or.inr rfl) (pe_call (ok_read T) hr rfl T.d_read.m T.d_read.F.kp T.d_read.b .nil passL (pa_cons (pv 3) pa_nil (hs := seN))))
      (pss_cons (ps_if (PW.pt (pw_or (pt_not (pt_val (pe_call (ok_law_is_number T) hr rfl T.d_law_is_number.m T.d_law_is_number.F.kp T.d_law_is_number.b .nil passL (pa_cons (pv 5) pa_nil (hs := seN))))) (pw_or1 (pt_cmpR (op_neN hr.units0) (pv 5) (pv 2) nmNotEq)))) (pss_one (ps_ret pe_bl)) pss_nil)
      (pss_cons (ps_set (i := 6) sc_law.nd rfl (by first | exact Or.inl rfl | exact Or.inr rfl) (pe_lstS (pa_cons pe_str (pa_cons pe_str (pa_cons pe_str (pa_cons pe_str (pa_cons pe_str (pa_cons pe_str (pa_cons pe_str (pa_cons pe_str (pa_cons pe_str (pa_cons pe_str (pa_cons pe_str pa_nil (hs := seK)) (hs := seK)) (hs := seK)) (hs := seK)) (hs := seK)) (hs := seK)) (hs := seK)) (hs := seK)) (hs := seK)) (hs := seK)) (hs := seK))))
      (pss_cons (ps_set (i := 7) sc_law.nd rfl (by first | exact Or.inl rfl | exact Or.inr rfl) (pe_lstS (pa_cons pe_str (pa_cons pe_str (pa_cons pe_str (pa_cons pe_str (pa_cons pe_str (pa_cons pe_str (pa_cons pe_str (pa_cons pe_str (pa_cons pe_str (pa_cons pe_str (pa_cons pe_str pa_nil (hs := seK)) (hs := seK)) (hs := seK)) (hs := seK)) (hs := seK)) (hs := seK)) (hs := seK)) (hs := seK)) (hs := seK)) (hs := seK)) (hs := seK))))
      (pss_cons (ps_set (i := 8) sc_law.nd rfl (by first | exact Or.inl rfl | exact Or.inr rfl) (pe_call (ok_law_at T) hr rfl T.d_law_at.m T.d_law_at.F.kp T.d_law_at.b .nil passL (pa_cons (pv 0) (pa_cons (pe_op op_add (pv 1) pe_int) pa_nil (hs := seB)) (hs := seN))))
      (pss_cons (ps_set (i := 9) sc_law.nd rfl (by first | exact Or.inl rfl | exact Or.inr rfl) (pe_op op_add_str (pe_ix ix_list (pv 6) (pe_op op_mod (pv 8) pe_int) (fun _ _ => by with_unfolding_all rfl)) pe_str))
      (pss_cons (ps_J (ps_if (pt_cmpR op_eq (pe_op op_mod (pv 8) pe_int) pe_int nmEq) (pss_one (ps_set (i := 9) sc_law.nd rfl (by first | exact Or.inl rfl | exact Or.inr rfl) (pe_op op_add_str (pe_op op_add_str pe_str (pe_ix ix_list (pv 7) (pe_op op_mod (pe_op op_fdiv (pv 8) pe_int) pe_int) (fun _ _ => by with_unfolding_all rfl))) pe_str))) pss_nil))
      (pss_cons (ps_J (ps_if (pt_cmpR op_eq (pe_op op_mod (pe_op op_fdiv (pv 8) pe_int) pe_int) pe_int nmEq) (pss_one (ps_set (i := 9) sc_law.nd rfl (by first | exact Or.inl rfl | exact Or.inr rfl) (pe_op op_add_str (pv 3) (pe_ix ix_list (pe_lstS (pa_cons pe_str (pa_cons pe_str (pa_cons pe_str (pa_cons pe_str pa_nil (hs := seK)) (hs := seK)) (hs := seK)) (hs := seK))) (pe_op op_mod (pe_op op_fdiv (pv 8) pe_int) pe_int) (fun _ _ => by with_unfolding_all rfl))))) pss_nil))
      (pss_cons (ps_J (ps_if (pt_cmpR op_eq (pe_op op_mod (pe_op op_fdiv (pv 8) pe_int) pe_int) pe_int nmEq) (pss_one (ps_set (i := 9) sc_law.nd rfl (by first | exact Or.inl rfl | exact Or.inr rfl) (pe_slice sl_str (pv 3) po_none (po_some (pe_un un_neg pe_int))))) pss_nil))
      (pss_cons (ps_set (i := 10) sc_law.nd rfl (by first | exact Or.inl rfl | exact Or.inr rfl) pe_bl)
      (pss_cons (ps_tryC (ok_read T) hr rfl T.d_read.m T.d_read.F.kp T.d_read.b rfl rfl rfl (fun _ _ => (pa_cons (pv 9) pa_nil (hs := seN))) (ph_as (i := 12) T.x_FoldError rfl rfl rfl sc_law.nd rfl rfl (fun ev => (pss_cons (ps_set (i := 11) sc_law.nd rfl (by first | exact Or.inl rfl | exact Or.inr rfl) (pe_lstS (pa_cons (pe_callB call_isX rfl T.b_isinstance bt_isinstance (pa_cons (pv 12) (pa_cons (pe_glob (v := .ref t.a_BadKind) rfl T.x_BadKind.m rfl) pa_nil (hs := seN)) (hs := seN))) (pa_cons (pe_callB call_isX rfl T.b_isinstance bt_isinstance (pa_cons (pv 12) (pa_cons (pe_glob (v := .ref t.a_ByNought) rfl T.x_ByNought.m rfl) pa_nil (hs := seN)) (hs := seN))) (pa_cons (pe_callB call_isX rfl T.b_isinstance bt_isinstance (pa_cons (pv 12) (pa_cons (pe_glob (v := .ref t.a_NoUnit) rfl T.x_NoUnit.m rfl) pa_nil (hs := seN)) (hs := seN))) pa_nil (hs := seC)) (hs := seC)) (hs := seC))))
      (pss_one (ps_set (i := 10) sc_law.nd rfl (by first | exact Or.inl rfl | exact Or.inr rfl) (pe_and (pe_callB call_isX rfl T.b_isinstance bt_isinstance (pa_cons (pv 12) (pa_cons (pe_glob (v := .ref t.a_NoLine) rfl T.x_NoLine.m rfl) pa_nil (hs := seN)) (hs := seN))) (pe_and (pe_callB call_isX rfl T.b_isinstance bt_isinstance (pa_cons (pv 12) (pa_cons (pe_bltn rfl T.b_ValueError bt_ValueError (v := .ty "ValueError") rfl) pa_nil (hs := seN)) (hs := seN))) (pe_one (pe_cmpR op_notIn_seq pe_bl (pv 11) (by with_unfolding_all rfl))))))))) ph_nil))
      (pss_one (ps_if (pt_not (pt_val (pv 10))) (pss_one (ps_ret pe_bl)) pss_nil))))))))))))))))))
      (pss_one (ps_ret pe_bl)))), ?_⟩
    refine ⟨_, rfl, _, rfl, _, _, rfl, hS, fun p hp => ?_⟩
    have hS1 : SqL K (upd H p (.lst (cutV (ns.map V.int) none (some 500)))) p (ns.map V.int) := by
      have e : cutV (ns.map V.int) none (some ((500 : Nat) : Int)) = ns.map V.int := cutV_all (by rw [List.length_map]; omega)
      have e' : cutV (ns.map V.int) none (some 500) = ns.map V.int := e
      rw [e']
      exact SqL.of upd_same
    generalize upd H p (.lst (cutV (ns.map V.int) none (some 500))) = H2 at hS1
    obtain ⟨r1, r2⟩ := range3m (m := (ns.map V.int).length) (by rw [List.length_map]; exact hlen)
    refine ⟨_, rfl, _, _, rfl, .inl hS1, _, _, rfl, rfl, _, _, _, _, rfl, by decide, by decide, r1, r2, ?_⟩
    refine for_rangeC (fun i σ H4 => ∃ o1 o2 o3 o4 o5 o6 o7 o8 o9 o10 o11 o12, σ = [some (.ref p), o1, o2, o3, o4, o5, o6, o7, o8, o9, o10, o11, o12] ∧ Same H2 H4) ⟨_, _, _, _, _, _, _, _, _, _, _, _, rfl, Same.refl _⟩ ?_ (fun σ H4 _ => q _)
    rintro i σ H4 hi ⟨o1, o2, o3, o4, o5, o6, o7, o8, o9, o10, o11, o12, rfl, s4⟩
    have hS4 := s4.seq hS1
    -- the number
    refine ⟨_, rfl, _, rfl, _, _, ns, rfl, hS4, by omega, fun vx x H5 s5 nx bx => ?_⟩
    -- the line that is due
    refine ⟨_, rfl, _, nx, _, rfl, log30 bx.1, sz2, fun q2 H6 s6 _ hq2 => ?_⟩
    have nx6 := nx.same s6
    rw [sign_eq] at hq2
    have eat : atI [SV [43], SV [45]] (if decide (x.2 < 0) = true then 1 else 0) = some (.str (S [TF.sgn x.2])) := by
      unfold TF.sgn
      by_cases hb : x.2 < 0
      · rw [decide_eq_true hb, if_pos rfl, if_pos hb]; rfl
      · rw [decide_eq_false hb, if_neg (by decide), if_neg hb]; rfl
    have d1 := TF.dig_len 30 x.1.natAbs (Nat.lt_of_le_of_lt bx.1 (by decide))
    have d2 := TF.dig_len 30 x.2.natAbs (Nat.lt_of_le_of_lt bx.2 (by decide))
    have l0 : (if x.1 < 0 then [45] else ([] : List Nat)).length ≤ 1 := by split <;> simp
    have t1 : (Str.ofString (toString x.1)).length ≤ 32 := by
      rw [int_text, S_len, List.length_append]
      omega
    have t2 : (Str.ofString (toString (if x.2 < 0 then -x.2 else x.2))).length ≤ 32 := by
      rw [int_text, S_len, abs_if, if_neg (show ¬ ((x.2.natAbs : Int) < 0) by omega), Int.natAbs_natCast, List.nil_append]
      omega
    have la : ∀ a b : Str, (a ++ b).length = a.length + b.length := fun a b => Str.length_append a b
    refine ⟨_, rfl, _, nx6, _, _, rfl, rfl, .inr ⟨_, rfl, _, _, _, _, rfl, rfl, SqL.of hq2, eat, _, _, rfl, rfl, (by rw [S_len [TF.sgn x.2]]; show _ + 1 ≤ _; omega), ?_⟩⟩
    refine ⟨_, rfl, _, nx6, _, rfl, _, rfl, log30 (by rw [abs_if]; simpa using bx.2), _, _, rfl, rfl, (by rw [la, S_len [TF.sgn x.2]]; show _ + 1 + _ ≤ _; omega), _, _, rfl, rfl, (by rw [la, la, S_len [TF.sgn x.2], w_S, S_len [119]]; show _ + 1 + _ + 1 ≤ _; omega), ?_⟩
    rw [due_eq]
    -- shown
    refine ⟨_, rfl, x, _, rfl, nx6, Nat.lt_of_le_of_lt bx.1 (by decide), Nat.lt_of_le_of_lt bx.2 (by decide), fun H7 s7 => ?_⟩
    have nx7 := nx6.same s7
    refine ⟨_, rfl, _, _, _, _, rfl, .str _, kit_str_str, _, rfl, iteF ?_⟩
    refine ⟨_, rfl, _, rfl, rfl, _, rfl, ifF (by simp) ?_⟩
    -- read
    have al := line_asc bx (t := []) (fun c hc => by cases hc) (by simp)
    rw [List.append_nil] at al
    have hll := al.2
    refine ⟨_, rfl, _, rfl, al, fun z => (by rw [TF.read_line] at z; cases z), fun pr hpr vf H8 s8 nf => ?_⟩
    rw [TF.read_line] at hpr
    obtain rfl : x = pr := Option.some.inj hpr
    have nx8 := nx7.same s8
    refine ⟨_, rfl, _, _, rfl, nf, _, rfl, iteF ⟨_, rfl, _, rfl, _, _, nf, nx8, _, rfl, ifF (mul_one_ne rfl) ?_⟩⟩
    -- the bad line
    refine ⟨(by show 11 ≤ sizeLine; decide), fun pf H9 s9 _ hpf => ?_⟩
    rw [firsts_eq] at hpf
    refine ⟨(by show 11 ≤ sizeLine; decide), fun ps H10 s10 _ hps => ?_⟩
    rw [seconds_eq] at hps
    have hpf := s10 _ _ hpf
    have sA := s5.trans (s6.trans (s7.trans (s8.trans (s9.trans s10))))
    have hS10 := sA.seq hS4
    refine ⟨_, rfl, _, rfl, _, _, rfl, rfl, _, _, ns, rfl, hS10, by omega, fun z => ?_⟩
    obtain ⟨i1, l1, hi1, ei1, el1, ea1⟩ := at_mod (xs := firstsL) (n := 11) rfl (by decide) z
    have hl1 : l1.length ≤ 3 := by
      have key : ∀ l ∈ firstsL, l.length ≤ 3 := by decide
      exact key l1 (List.mem_of_getElem? el1)
    refine ⟨_, rfl, _, rfl, _, _, rfl, rfl, (by show (0 : Int) < 11; decide), _, _, _, _, rfl, rfl, SqL.of hpf, ea1, _, _, rfl, rfl, (by rw [S_len, plus1w_S, S_len]; simp; omega), ?_⟩
    rw [plus1w_S, S_app]
    refine ⟨fun σ H11 => ∃ l, σ = [some (.ref p), some (.int (0 + (i : Int) * 3)), some vx, some (.str (S (TF.lineF x.1 x.2))), some (.str (S (TF.lineF x.1 x.2))), some vf, some (.ref pf), some (.ref ps), some (.int z), some (.str (S l)), o10, o11, o12] ∧ H11 = H10 ∧ Bad l, ?_, ?_⟩
    rotate_left
    · refine ⟨_, rfl, _, _, rfl, rfl, (by show (0 : Int) < 11; decide), rfl, _, rfl, if2 (fun c => ?_) (fun c => ?_)⟩
      · obtain ⟨i2, l2, hi2, ei2, el2, ea2⟩ := at_mod (xs := secondsL) (n := 11) rfl (by decide) (z / 11)
        have hl2 : l2.length ≤ 3 := by
          have key : ∀ l ∈ secondsL, l.length ≤ 3 := by decide
          exact key l2 (List.mem_of_getElem? el2)
        refine ⟨_, rfl, _, rfl, _, _, rfl, rfl, ⟨by decide, by decide⟩, _, _, rfl, rfl, (by show (0 : Int) < 11; decide), _, _, _, _, rfl, rfl, SqL.of hps, ea2, _, _, rfl, rfl, (by rw [three_S, S_len, S_len]; simp; omega), _, _, rfl, rfl, (by rw [la, three_S, S_len, S_len, w_S, S_len]; simp; omega), ?_⟩
        rw [three_S, w_S, S_app, S_app]
        exact ⟨_, rfl, rfl, bad_second el2 hi2⟩
      · refine ⟨_, rfl, rfl, bad_first el1 hi1 fun e => of_decide_eq_false c ?_⟩
        rw [e] at ei1
        exact congrArg V.int ei1.symm
    rintro σ H11 ⟨l, rfl, rfl, hb⟩
    refine ⟨fun σ H12 => ∃ l, σ = [some (.ref p), some (.int (0 + (i : Int) * 3)), some vx, some (.str (S (TF.lineF x.1 x.2))), some (.str (S (TF.lineF x.1 x.2))), some vf, some (.ref pf), some (.ref ps), some (.int z), some (.str (S l)), o10, o11, o12] ∧ Same H11 H12 ∧ Bad l, ?_, ?_⟩
    rotate_left
    · refine ⟨_, rfl, _, _, rfl, rfl, ⟨by decide, by decide⟩, _, _, rfl, rfl, (by show (0 : Int) < 5; decide), rfl, _, rfl, if2 (fun c => ?_) (fun c => ?_)⟩
      · refine ⟨_, rfl, sz4, fun pb H12 s12 _ hpb => ?_⟩
        rw [behind_eq] at hpb
        obtain ⟨i2, l2, hi2, ei2, el2, ea2⟩ := at_mod (xs := behindL) (n := 4) rfl (by decide) (z / 10)
        have hl2 : l2.length ≤ 3 := by
          have key : ∀ l ∈ behindL, l.length ≤ 3 := by decide
          exact key l2 (List.mem_of_getElem? el2)
        refine ⟨_, rfl, _, _, rfl, rfl, ⟨by decide, by decide⟩, _, _, rfl, rfl, (by show (0 : Int) < 4; decide), _, _, _, _, rfl, rfl, SqL.of hpb, ea2, _, _, rfl, rfl, (by rw [S_len, S_len]; omega), ?_⟩
        rw [S_app]
        exact ⟨_, rfl, s12, bad_behind bx el2 hi2⟩
      · exact ⟨_, rfl, Same.refl _, hb⟩
    rintro σ H12 ⟨l, rfl, s12, hb⟩
    refine ⟨fun σ H13 => ∃ l, σ = [some (.ref p), some (.int (0 + (i : Int) * 3)), some vx, some (.str (S (TF.lineF x.1 x.2))), some (.str (S (TF.lineF x.1 x.2))), some vf, some (.ref pf), some (.ref ps), some (.int z), some (.str (S l)), o10, o11, o12] ∧ H13 = H12 ∧ Bad l, ?_, ?_⟩
    rotate_left
    · refine ⟨_, rfl, _, _, rfl, rfl, ⟨by decide, by decide⟩, _, _, rfl, rfl, (by show (0 : Int) < 5; decide), rfl, _, rfl, if2 (fun c => ?_) (fun c => ?_)⟩
      · refine ⟨_, rfl, _, rfl, _, rfl, _, rfl, (by rw [S_len]; omega), ?_⟩
        rw [slice_m1 _ (line_ne _ _)]
        exact ⟨_, rfl, rfl, bad_cut bx⟩
      · exact ⟨_, rfl, rfl, hb⟩
    rintro σ H13 ⟨l, rfl, rfl, hb⟩
    -- refused
    refine ⟨fun Cv _ H' => Cv = .ref t.a_NoLine ∧ Same H13 H', ⟨_, rfl, l, rfl, hb.2, fun _ H' s' => ⟨rfl, s'⟩, fun pr hpr => ?_⟩, fun Cv H14 ⟨e1, s14⟩ => ?_⟩
    · rw [hb.1] at hpr
      cases hpr
    refine ⟨_, e1, true, T.m_NoLine_FoldError, ifT rfl fun e he => ?_⟩
    have hE : upd H14 e (.ext (AtC e t.a_NoLine)) e = some (.ext (AtC e t.a_NoLine)) := upd_same
    have s0 : Same H14 (upd H14 e (.ext (AtC e t.a_NoLine))) := Same.up he
    generalize upd H14 e (.ext (AtC e t.a_NoLine)) = H15 at hE s0
    have hq := T.q_NoLine
    refine ⟨_, rfl, _, _, _, _, _, rfl, .own _, hE, hq, T.i_NoLine_BadKind, _, rfl, _, _, _, _, _, rfl, .own _, hE, hq, T.i_NoLine_ByNought, _, rfl, _, _, _, _, _, rfl, .own _, hE, hq, T.i_NoLine_NoUnit, sz3, fun pl H16 s16 _ hpl => ?_⟩
    have hE2 := s16 _ _ hE
    refine ⟨_, rfl, _, _, _, _, _, rfl, .own _, hE2, hq, T.i_NoLine_NoLine, _, rfl, iteT ?_⟩
    refine ⟨_, rfl, _, _, _, _, _, rfl, .ty _, hE2, hq, T.i_NoLine_ValueError, _, rfl, iteT ?_⟩
    refine ⟨_, rfl, _, _, rfl, .inl (SqL.of hpl), rfl, rfl, ?_⟩
    refine ⟨_, rfl, _, rfl, ifF rfl ?_⟩
    exact ⟨_, _, _, _, _, _, _, _, _, _, _, _, rfl, s4.trans (sA.trans (s12.trans (s14.trans (s0.trans s16))))⟩
end
theorem all_mk {l : PySem.W.OpenLaw} {w : World} {K : PySem.W.Frag} {h : Heap} {mg : Str → Option Value} {fa : Addr} (X : K.In h) (G : h.Ns mainGlobals mg) (hfa : mg "law" = some (.ref fa))
    {f0 : Addr} {od0 an0 : Option Addr} {sl0 : Array (Option Value)} {oc0 kV0 dc0 pm0 cd0 ct0 : Value}
    (a0 : PySem.W.nsIn K mainGlobals "figures_of" = some (some (.ref f0))) (l0 : K.lookup f0 = some ⟨oc0, od0, .func (PySem.W.fnOf "figures_of" "figures_of" (defArgs s_figures_of) (defBody s_figures_of) (defScope s_figures_of) .none kV0 dc0 pm0 an0 cd0 ct0), sl0⟩) (c0 : PySem.W.codeIn K cd0 "figures_of" = true) (k0 : PySem.W.keepIn K (.ref f0) = true)
    {f1 : Addr} {od1 an1 : Option Addr} {sl1 : Array (Option Value)} {oc1 kV1 dc1 pm1 cd1 ct1 : Value}
    (a1 : PySem.W.nsIn K mainGlobals "whole_of" = some (some (.ref f1))) (l1 : K.lookup f1 = some ⟨oc1, od1, .func (PySem.W.fnOf "whole_of" "whole_of" (defArgs s_whole_of) (defBody s_whole_of) (defScope s_whole_of) .none kV1 dc1 pm1 an1 cd1 ct1), sl1⟩) (c1 : PySem.W.codeIn K cd1 "whole_of" = true) (k1 : PySem.W.keepIn K (.ref f1) = true)
    {f2 : Addr} {od2 an2 : Option Addr} {sl2 : Array (Option Value)} {oc2 kV2 dc2 pm2 cd2 ct2 : Value}
    (a2 : PySem.W.nsIn K mainGlobals "shown" = some (some (.ref f2))) (l2 : K.lookup f2 = some ⟨oc2, od2, .func (PySem.W.fnOf "shown" "shown" (defArgs s_shown) (defBody s_shown) (defScope s_shown) .none kV2 dc2 pm2 an2 cd2 ct2), sl2⟩) (c2 : PySem.W.codeIn K cd2 "shown" = true) (k2 : PySem.W.keepIn K (.ref f2) = true)
    {f3 : Addr} {od3 an3 : Option Addr} {sl3 : Array (Option Value)} {oc3 kV3 dc3 pm3 cd3 ct3 : Value}
    (a3 : PySem.W.nsIn K mainGlobals "are_figures" = some (some (.ref f3))) (l3 : K.lookup f3 = some ⟨oc3, od3, .func (PySem.W.fnOf "are_figures" "are_figures" (defArgs s_are_figures) (defBody s_are_figures) (defScope s_are_figures) .none kV3 dc3 pm3 an3 cd3 ct3), sl3⟩) (c3 : PySem.W.codeIn K cd3 "are_figures" = true) (k3 : PySem.W.keepIn K (.ref f3) = true)
    {f4 : Addr} {od4 an4 : Option Addr} {sl4 : Array (Option Value)} {oc4 kV4 dc4 pm4 cd4 ct4 : Value}
    (a4 : PySem.W.nsIn K mainGlobals "part_of" = some (some (.ref f4))) (l4 : K.lookup f4 = some ⟨oc4, od4, .func (PySem.W.fnOf "part_of" "part_of" (defArgs s_part_of) (defBody s_part_of) (defScope s_part_of) .none kV4 dc4 pm4 an4 cd4 ct4), sl4⟩) (c4 : PySem.W.codeIn K cd4 "part_of" = true) (k4 : PySem.W.keepIn K (.ref f4) = true)
    {f5 : Addr} {od5 an5 : Option Addr} {sl5 : Array (Option Value)} {oc5 kV5 dc5 pm5 cd5 ct5 : Value}
    (a5 : PySem.W.nsIn K mainGlobals "read" = some (some (.ref f5))) (l5 : K.lookup f5 = some ⟨oc5, od5, .func (PySem.W.fnOf "read" "read" (defArgs s_read) (defBody s_read) (defScope s_read) .none kV5 dc5 pm5 an5 cd5 ct5), sl5⟩) (c5 : PySem.W.codeIn K cd5 "read" = true) (k5 : PySem.W.keepIn K (.ref f5) = true)
    {f6 : Addr} {od6 an6 : Option Addr} {sl6 : Array (Option Value)} {oc6 kV6 dc6 pm6 cd6 ct6 : Value}
    (a6 : PySem.W.nsIn K mainGlobals "_law_whole" = some (some (.ref f6))) (l6 : K.lookup f6 = some ⟨oc6, od6, .func (PySem.W.fnOf "_law_whole" "_law_whole" (defArgs s_law_whole) (defBody s_law_whole) (defScope s_law_whole) .none kV6 dc6 pm6 an6 cd6 ct6), sl6⟩) (c6 : PySem.W.codeIn K cd6 "_law_whole" = true) (k6 : PySem.W.keepIn K (.ref f6) = true)
    {f7 : Addr} {od7 an7 : Option Addr} {sl7 : Array (Option Value)} {oc7 kV7 dc7 pm7 cd7 ct7 : Value}
    (a7 : PySem.W.nsIn K mainGlobals "_law_at" = some (some (.ref f7))) (l7 : K.lookup f7 = some ⟨oc7, od7, .func (PySem.W.fnOf "_law_at" "_law_at" (defArgs s_law_at) (defBody s_law_at) (defScope s_law_at) .none kV7 dc7 pm7 an7 cd7 ct7), sl7⟩) (c7 : PySem.W.codeIn K cd7 "_law_at" = true) (k7 : PySem.W.keepIn K (.ref f7) = true)
    {f8 : Addr} {od8 an8 : Option Addr} {sl8 : Array (Option Value)} {oc8 kV8 dc8 pm8 cd8 ct8 : Value}
    (a8 : PySem.W.nsIn K mainGlobals "_law_part_by" = some (some (.ref f8))) (l8 : K.lookup f8 = some ⟨oc8, od8, .func (PySem.W.fnOf "_law_part_by" "_law_part_by" (defArgs s_law_part_by) (defBody s_law_part_by) (defScope s_law_part_by) .none kV8 dc8 pm8 an8 cd8 ct8), sl8⟩) (c8 : PySem.W.codeIn K cd8 "_law_part_by" = true) (k8 : PySem.W.keepIn K (.ref f8) = true)
    {f9 : Addr} {od9 an9 : Option Addr} {sl9 : Array (Option Value)} {oc9 kV9 dc9 pm9 cd9 ct9 : Value}
    (a9 : PySem.W.nsIn K mainGlobals "_law_number_by" = some (some (.ref f9))) (l9 : K.lookup f9 = some ⟨oc9, od9, .func (PySem.W.fnOf "_law_number_by" "_law_number_by" (defArgs s_law_number_by) (defBody s_law_number_by) (defScope s_law_number_by) .none kV9 dc9 pm9 an9 cd9 ct9), sl9⟩) (c9 : PySem.W.codeIn K cd9 "_law_number_by" = true) (k9 : PySem.W.keepIn K (.ref f9) = true)
    {f10 : Addr} {od10 an10 : Option Addr} {sl10 : Array (Option Value)} {oc10 kV10 dc10 pm10 cd10 ct10 : Value}
    (a10 : PySem.W.nsIn K mainGlobals "_law_is_number" = some (some (.ref f10))) (l10 : K.lookup f10 = some ⟨oc10, od10, .func (PySem.W.fnOf "_law_is_number" "_law_is_number" (defArgs s_law_is_number) (defBody s_law_is_number) (defScope s_law_is_number) .none kV10 dc10 pm10 an10 cd10 ct10), sl10⟩) (c10 : PySem.W.codeIn K cd10 "_law_is_number" = true) (k10 : PySem.W.keepIn K (.ref f10) = true)
    {f11 : Addr} {od11 an11 : Option Addr} {sl11 : Array (Option Value)} {oc11 kV11 dc11 pm11 cd11 ct11 : Value}
    (a11 : PySem.W.nsIn K mainGlobals "law" = some (some (.ref f11))) (l11 : K.lookup f11 = some ⟨oc11, od11, .func (PySem.W.fnOf "law" "law" (defArgs s_law) (defBody s_law) (defScope s_law) .none kV11 dc11 pm11 an11 cd11 ct11), sl11⟩) (c11 : PySem.W.codeIn K cd11 "law" = true) (k11 : PySem.W.keepIn K (.ref f11) = true)
    {kt : Tok} (ks_0 : PySem.W.nsIn K mainGlobals "FIGURES" = some (some (.str (Str.ofString "0123456789") kt)))
    {ec0 : Addr} (en_0 : PySem.W.nsIn K mainGlobals "FoldError" = some (some (.ref ec0))) (eq_0 : PySem.W.excIn K ec0 bmV newV = true)
    {ec1 : Addr} (en_1 : PySem.W.nsIn K mainGlobals "BadKind" = some (some (.ref ec1))) (eq_1 : PySem.W.excIn K ec1 bmV newV = true)
    {ec2 : Addr} (en_2 : PySem.W.nsIn K mainGlobals "ByNought" = some (some (.ref ec2))) (eq_2 : PySem.W.excIn K ec2 bmV newV = true)
    {ec3 : Addr} (en_3 : PySem.W.nsIn K mainGlobals "NoUnit" = some (some (.ref ec3))) (eq_3 : PySem.W.excIn K ec3 bmV newV = true)
    {ec4 : Addr} (en_4 : PySem.W.nsIn K mainGlobals "NoLine" = some (some (.ref ec4))) (eq_4 : PySem.W.excIn K ec4 bmV newV = true)
    (z1_4 : PySem.W.findIn K (.ref ec4) "__getattribute__" = some (some (.builtin "BaseException.__getattribute__"))) (z2_4 : PySem.W.findIn K (.ref ec4) "__getattr__" = some none) (z3_4 : PySem.W.findIn K (.ref ec4) "__class__" = some (some (.builtin "object.__class__"))) (z4_4 : PySem.W.mroIn K ec4 (.type "BaseException") = some true) (z5_4 : PySem.W.mroIn K ec4 (.type "object") = some true)
    (zm_4_0 : PySem.W.exmOne K (.ref ec4) (.ref ec0) = some true) (zi_4_0 : PySem.W.kitOne K (.ref ec4) (.ref ec0) = some true)
    (zm_4_1 : PySem.W.exmOne K (.ref ec4) (.ref ec1) = some false) (zi_4_1 : PySem.W.kitOne K (.ref ec4) (.ref ec1) = some false)
    (zm_4_2 : PySem.W.exmOne K (.ref ec4) (.ref ec2) = some false) (zi_4_2 : PySem.W.kitOne K (.ref ec4) (.ref ec2) = some false)
    (zm_4_3 : PySem.W.exmOne K (.ref ec4) (.ref ec3) = some false) (zi_4_3 : PySem.W.kitOne K (.ref ec4) (.ref ec3) = some false)
    (zm_4_4 : PySem.W.exmOne K (.ref ec4) (.ref ec4) = some true) (zi_4_4 : PySem.W.kitOne K (.ref ec4) (.ref ec4) = some true)
    (zi_4_v : PySem.W.kitOne K (.ref ec4) (.type "ValueError") = some true)
    (b_ValueError : PySem.W.nsIn K mainGlobals "ValueError" = some none)
    (b_abs : PySem.W.nsIn K mainGlobals "abs" = some none)
    (b_all : PySem.W.nsIn K mainGlobals "all" = some none)
    (b_bool : PySem.W.nsIn K mainGlobals "bool" = some none)
    (b_int : PySem.W.nsIn K mainGlobals "int" = some none)
    (b_isinstance : PySem.W.nsIn K mainGlobals "isinstance" = some none)
    (b_len : PySem.W.nsIn K mainGlobals "len" = some none)
    (b_range : PySem.W.nsIn K mainGlobals "range" = some none)
    (b_reversed : PySem.W.nsIn K mainGlobals "reversed" = some none)
    (b_str : PySem.W.nsIn K mainGlobals "str" = some none)
    (b_tuple : PySem.W.nsIn K mainGlobals "tuple" = some none)
    : ∃ fd : FuncData, (∀ (s : Shared) (v : Value), BindsTo s fd ⟨[v], []⟩ [("_law_script", v)]) ∧ ∀ base : Heap, K.In base → base.Ns mainGlobals mg → FnOk l.prog w K mg base (CX1 l.prog w) 20 fa fd ["_law_script"] (sp_law K) := by
  have e := hfa.symm.trans (PySem.W.mg_of X G a11)
  cases e
  have F0 := fun_mk (st := s_figures_of) l0 c0 k0
  have B0 := F0.binds (ps := ["whole"]) fun _ _ _ _ _ _ us hl => match us, hl with | [_], _ => rfl
  have F1 := fun_mk (st := s_whole_of) l1 c1 k1
  have B1 := F1.binds (ps := ["figures"]) fun _ _ _ _ _ _ us hl => match us, hl with | [_], _ => rfl
  have F2 := fun_mk (st := s_shown) l2 c2 k2
  have B2 := F2.binds (ps := ["one"]) fun _ _ _ _ _ _ us hl => match us, hl with | [_], _ => rfl
  have F3 := fun_mk (st := s_are_figures) l3 c3 k3
  have B3 := F3.binds (ps := ["text"]) fun _ _ _ _ _ _ us hl => match us, hl with | [_], _ => rfl
  have F4 := fun_mk (st := s_part_of) l4 c4 k4
  have B4 := F4.binds (ps := ["below", "text"]) fun _ _ _ _ _ _ us hl => match us, hl with | [_, _], _ => rfl
  have F5 := fun_mk (st := s_read) l5 c5 k5
  have B5 := F5.binds (ps := ["line"]) fun _ _ _ _ _ _ us hl => match us, hl with | [_], _ => rfl
  have F6 := fun_mk (st := s_law_whole) l6 c6 k6
  have B6 := F6.binds (ps := ["_law_found"]) fun _ _ _ _ _ _ us hl => match us, hl with | [_], _ => rfl
  have F7 := fun_mk (st := s_law_at) l7 c7 k7
  have B7 := F7.binds (ps := ["_law_script", "_law_k"]) fun _ _ _ _ _ _ us hl => match us, hl with | [_, _], _ => rfl
  have F8 := fun_mk (st := s_law_part_by) l8 c8 k8
  have B8 := F8.binds (ps := ["_law_cell"]) fun _ _ _ _ _ _ us hl => match us, hl with | [_], _ => rfl
  have F9 := fun_mk (st := s_law_number_by) l9 c9 k9
  have B9 := F9.binds (ps := ["_law_script", "_law_k"]) fun _ _ _ _ _ _ us hl => match us, hl with | [_, _], _ => rfl
  have F10 := fun_mk (st := s_law_is_number) l10 c10 k10
  have B10 := F10.binds (ps := ["_law_found"]) fun _ _ _ _ _ _ us hl => match us, hl with | [_], _ => rfl
  have F11 := fun_mk (st := s_law) l11 c11 k11
  have B11 := F11.binds (ps := ["_law_script"]) fun _ _ _ _ _ _ us hl => match us, hl with | [_], _ => rfl
  have T : Txt K mg ⟨f0, _, f1, _, f2, _, f3, _, f4, _, f5, _, f6, _, f7, _, f8, _, f9, _, f10, _, fa, _, kt, ec0, ec1, ec2, ec3, ec4⟩ := ⟨⟨F0, B0, PySem.W.mg_of X G a0⟩, ⟨F1, B1, PySem.W.mg_of X G a1⟩, ⟨F2, B2, PySem.W.mg_of X G a2⟩, ⟨F3, B3, PySem.W.mg_of X G a3⟩, ⟨F4, B4, PySem.W.mg_of X G a4⟩, ⟨F5, B5, PySem.W.mg_of X G a5⟩, ⟨F6, B6, PySem.W.mg_of X G a6⟩, ⟨F7, B7, PySem.W.mg_of X G a7⟩, ⟨F8, B8, PySem.W.mg_of X G a8⟩, ⟨F9, B9, PySem.W.mg_of X G a9⟩, ⟨F10, B10, PySem.W.mg_of X G a10⟩, ⟨F11, B11, PySem.W.mg_of X G a11⟩, (by rw [← figs_eq]; exact PySem.W.mg_of X G ks_0), ⟨PySem.W.mg_of X G en_0, eq_0⟩, ⟨PySem.W.mg_of X G en_1, eq_1⟩, ⟨PySem.W.mg_of X G en_2, eq_2⟩, ⟨PySem.W.mg_of X G en_3, eq_3⟩, ⟨PySem.W.mg_of X G en_4, eq_4⟩, ⟨z1_4, z2_4, z3_4, z4_4, z5_4⟩, zm_4_0, zi_4_0, zm_4_1, zi_4_1, zm_4_2, zi_4_2, zm_4_3, zi_4_3, zm_4_4, zi_4_4, zi_4_v, PySem.W.mg_none_of X G b_ValueError, PySem.W.mg_none_of X G b_abs, PySem.W.mg_none_of X G b_all, PySem.W.mg_none_of X G b_bool, PySem.W.mg_none_of X G b_int, PySem.W.mg_none_of X G b_isinstance, PySem.W.mg_none_of X G b_len, PySem.W.mg_none_of X G b_range, PySem.W.mg_none_of X G b_reversed, PySem.W.mg_none_of X G b_str, PySem.W.mg_none_of X G b_tuple⟩
  exact ⟨_, fun s v => .of_eq rfl, fun base _ _ => ok_law T⟩
theorem walk {l : PySem.W.OpenLaw} {q : Program} {loose : List Str} {XP : (Str → Option Value) → Heap → Prop} {YP : World → Heap → Prop} {d : DefRec} {K : Params → PySem.W.Frag} (hn : l.most = some 63) (hdf : d.params.defaults = [])
    (hY : ∀ (w : World) (h : Heap), YP w h → (K w.params).In h)
    (F : ∀ (w : World) (mg : Str → Option Value) (fa : Addr) (h : Heap), (K w.params).In h → h.Ns mainGlobals mg → mg d.name = some (.ref fa) →
      ∃ fd : FuncData, (∀ (s : Shared) (u : Value), BindsTo s fd ⟨[u], []⟩ [("_law_script", u)]) ∧ ∀ base : Heap, (K w.params).In base → base.Ns mainGlobals mg → FnOk l.prog w (K w.params) mg base (CX1 l.prog w) 20 fa fd ["_law_script"] (sp_law (K w.params))) :
    PySem.W.WalkO q loose XP YP l.row.toRowW d [] (fun f vs => PySem.call f vs) :=
  L2.walk_of (n := 63) (k := 20) (x := "_law_script") (CX := fun w => CX1 l.prog w) (sp := fun w => sp_law (K w.params)) hn (by decide) hdf ⟨rfl, by decide, by decide⟩ hY F (fun _ _ a ns hl _ hS => ⟨a, ns, rfl, hS, hl, fun _ => rfl⟩) fun _ _ _ _ _ z => L4.cx1_false z
end Law
open PySem PySem.W PyProof.Rows
set_option maxRecDepth 100000 in
set_option maxHeartbeats 0 in
theorem PySem.Challenge.cw_twofold_k07_lines_holds : PySem.Challenge.rw_twofold_k07_lines.Holds := by
  w_on; o_law; k_head; (case hw => w_witness2)
  k_fill
  refine Law.walk (l := PySem.Challenge.rw_twofold_k07_lines) rfl rfl (fun w h Y => PySem.W.kIn_of Y) ?F
  case F =>
    intro w mg fa h KX G hmg
    refine' Law.all_mk KX G hmg ?a0 ?l0 ?c0 ?k0 ?a1 ?l1 ?c1 ?k1 ?a2 ?l2 ?c2 ?k2 ?a3 ?l3 ?c3 ?k3 ?a4 ?l4 ?c4 ?k4 ?a5 ?l5 ?c5 ?k5 ?a6 ?l6 ?c6 ?k6 ?a7 ?l7 ?c7 ?k7 ?a8 ?l8 ?c8 ?k8 ?a9 ?l9 ?c9 ?k9 ?a10 ?l10 ?c10 ?k10 ?a11 ?l11 ?c11 ?k11 ?ks_0 ?en_0 ?eq_0 ?en_1 ?eq_1 ?en_2 ?eq_2 ?en_3 ?eq_3 ?en_4 ?eq_4 ?z1_4 ?z2_4 ?z3_4 ?z4_4 ?z5_4 ?zm_4_0 ?zi_4_0 ?zm_4_1 ?zi_4_1 ?zm_4_2 ?zi_4_2 ?zm_4_3 ?zi_4_3 ?zm_4_4 ?zi_4_4 ?zi_4_v ?b_ValueError ?b_abs ?b_all ?b_bool ?b_int ?b_isinstance ?b_len ?b_range ?b_reversed ?b_str ?b_tuple
    (case a0 => k_is)
    (case l0 => k_is)
    (case c0 => k_is)
    (case k0 => k_is)
    (case a1 => k_is)
    (case l1 => k_is)
    (case c1 => k_is)
    (case k1 => k_is)
    (case a2 => k_is)
    (case l2 => k_is)
    (case c2 => k_is)
    (case k2 => k_is)
    (case a3 => k_is)
    (case l3 => k_is)
    (case c3 => k_is)
    (case k3 => k_is)
    (case a4 => k_is)
    (case l4 => k_is)
    (case c4 => k_is)
    (case k4 => k_is)
    (case a5 => k_is)
    (case l5 => k_is)
    (case c5 => k_is)
    (case k5 => k_is)
    (case a6 => k_is)
    (case l6 => k_is)
    (case c6 => k_is)
    (case k6 => k_is)
    (case a7 => k_is)
    (case l7 => k_is)
    (case c7 => k_is)
    (case k7 => k_is)
    (case a8 => k_is)
    (case l8 => k_is)
    (case c8 => k_is)
    (case k8 => k_is)
    (case a9 => k_is)
    (case l9 => k_is)
    (case c9 => k_is)
    (case k9 => k_is)
    (case a10 => k_is)
    (case l10 => k_is)
    (case c10 => k_is)
    (case k10 => k_is)
    (case a11 => k_is)
    (case l11 => k_is)
    (case c11 => k_is)
    (case k11 => k_is)
    (case ks_0 => k_is)
    (case en_0 => k_is)
    (case eq_0 => k_exc)
    (case en_1 => k_is)
    (case eq_1 => k_exc)
    (case en_2 => k_is)
    (case eq_2 => k_exc)
    (case en_3 => k_is)
    (case eq_3 => k_exc)
    (case en_4 => k_is)
    (case eq_4 => k_exc)
    (case z1_4 => k_is)
    (case z2_4 => k_is)
    (case z3_4 => k_is)
    (case z4_4 => k_is)
    (case z5_4 => k_is)
    (case zm_4_0 => kts_exm)
    (case zi_4_0 => kit_is)
    (case zm_4_1 => kts_exm)
    (case zi_4_1 => kit_is)
    (case zm_4_2 => kts_exm)
    (case zi_4_2 => kit_is)
    (case zm_4_3 => kts_exm)
    (case zi_4_3 => kit_is)
    (case zm_4_4 => kts_exm)
    (case zi_4_4 => kit_is)
    (case zi_4_v => kit_is)
    (case b_ValueError => k_is)
    (case b_abs => k_is)
    (case b_all => k_is)
    (case b_bool => k_is)
    (case b_int => k_is)
    (case b_isinstance => k_is)
    (case b_len => k_is)
    (case b_range => k_is)
    (case b_reversed => k_is)
    (case b_str => k_is)
    (case b_tuple => k_is)
