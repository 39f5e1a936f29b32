import PyProof.Rows.All
import Wide.All
import OpenK.AllK
import Wide.FinOn
import Lean
import PyProof.EqAt
import PyProof.EqKinds
import PyProof.TupleCall
import PySem.Challenge.RW_tallysets_k02_is_tally
-- CHANGE: your row's module here, as the last of these rows
set_option Elab.async false
set_option linter.all false
set_option maxRecDepth 100000
/-! THE HAND LAYER, for ints, bools, texts, own classes, LISTS and tuples (index, slices, in, append, pop ..), calls, loops. Paste it whole ahead of your own text; what your proof does not reach may be deleted. -/
namespace L2
open PySem PySem.Spec PyProof.Rows

/-- a key: an int or a str -/
abbrev Key := Sum Int Str
def keyIs : Key → Value → Bool
  | .inl k, v => Value.isInt k v
  | .inr x, v => Value.isStrOf x v
def keyH (w : World) : Key → Int
  | .inl k => hashInt k
  | .inr x => hashStr w x
theorem keyIs_shape : ∀ {k : Key} {v : Value}, keyIs k v = true → (∃ i t, k = Sum.inl i ∧ v = Value.int i t) ∨ (∃ x t, k = Sum.inr x ∧ v = Value.str x t)
  | .inl i, v, h => by
    obtain ⟨t, e⟩ := Value.isInt_shape (k := i) (v := v) h
    exact .inl ⟨i, t, rfl, e⟩
  | .inr x, v, h => by
    obtain ⟨t, e⟩ := Value.isStrOf_shape (x := x) (v := v) h
    exact .inr ⟨x, t, rfl, e⟩
theorem keyIs_int (i : Int) (t : Tok) : keyIs (.inl i) (.int i t) = true := by simp [keyIs, Value.isInt]
theorem keyIs_str (x : Str) (t : Tok) : keyIs (.inr x) (.str x t) = true := by simp [keyIs, Value.isStrOf]
theorem key_ll (a b : Int) : decide ((Sum.inl a : Key) = Sum.inl b) = (a == b) := by
  by_cases e : a = b
  · subst e; simp
  · have h : ¬ (Sum.inl a : Key) = Sum.inl b := fun q => e (Sum.inl.inj q)
    rw [decide_eq_false h]
    exact (beq_eq_false_iff_ne.mpr e).symm
theorem key_rr (a b : Str) : decide ((Sum.inr a : Key) = Sum.inr b) = decide (a = b) := by
  by_cases e : a = b
  · subst e; simp
  · have h : ¬ (Sum.inr a : Key) = Sum.inr b := fun q => e (Sum.inr.inj q)
    rw [decide_eq_false h, decide_eq_false e]
theorem key_lr (a : Int) (b : Str) : decide ((Sum.inl a : Key) = Sum.inr b) = false := decide_eq_false (fun q => nomatch q)
theorem key_rl (a : Str) (b : Int) : decide ((Sum.inr a : Key) = Sum.inl b) = false := decide_eq_false (fun q => nomatch q)

def mixKind (prog : Program) (w : World) : PySem.KeyKind prog w Key where
  is := keyIs
  hash := keyH w
  inj := fun v a b ha hb => by
    rcases keyIs_shape ha with ⟨i, t, rfl, rfl⟩ | ⟨x, t, rfl, rfl⟩
    · rcases keyIs_shape hb with ⟨j, u, rfl, e⟩ | ⟨y, u, rfl, e⟩
      · injection e with e1 _; rw [e1]
      · exact nomatch e
    · rcases keyIs_shape hb with ⟨j, u, rfl, e⟩ | ⟨y, u, rfl, e⟩
      · exact nomatch e
      · injection e with e1 _; rw [e1]
  byValue := fun k v h => by
    rcases keyIs_shape h with ⟨i, t, rfl, rfl⟩ | ⟨x, t, rfl, rfl⟩ <;> rfl
  pyHash := fun hv h => by
    rcases keyIs_shape hv with ⟨i, t, rfl, rfl⟩ | ⟨x, t, rfl, rfl⟩
    · exact wpAny_pyHash_int h
    · exact wpAny_pyHash_str h
  eqBool := fun hu hv h => by
    rcases keyIs_shape hu with ⟨i, t, rfl, rfl⟩ | ⟨x, t, rfl, rfl⟩
    · rcases keyIs_shape hv with ⟨j, u, rfl, rfl⟩ | ⟨y, u, rfl, rfl⟩
      · rw [key_ll] at h; exact wpAny_eqBool_int h
      · rw [key_lr] at h; exact SeqAt.EqAt.int_str i t y u _ _ _ _ h
    · rcases keyIs_shape hv with ⟨j, u, rfl, rfl⟩ | ⟨y, u, rfl, rfl⟩
      · rw [key_rl] at h; exact SeqAt.EqAt.str_int x t j u _ _ _ _ h
      · rw [key_rr] at h; exact wpAny_eqBool_str h
  «strs» := fun k x t v h => by
    rcases keyIs_shape h with ⟨i, u, rfl, e⟩ | ⟨y, u, rfl, e⟩
    · exact nomatch e
    · injection e with e1 _
      subst e1
      cases v <;> rfl

theorem mixKind_is (prog : Program) (w : World) (k : Key) (v : Value) : (mixKind prog w).is k v = keyIs k v := rfl
theorem mixKind_int (prog : Program) (w : World) (i : Int) (t : Tok) : (mixKind prog w).is (.inl i) (.int i t) = true := keyIs_int i t
theorem mixKind_str (prog : Program) (w : World) (x : Str) (t : Tok) : (mixKind prog w).is (.inr x) (.str x t) = true := keyIs_str x t
end L2

namespace L2
open PySem PySem.Spec PyProof.Rows

/-- a value, without the heap -/
inductive V where
  | non | bl (b : Bool) | int (i : Int) | str (x : Str) | byt (b : Array UInt8) | flt (b : UInt64) | ref (a : Addr) | ty (n : String)
  deriving DecidableEq

def RelV : V → Value → Prop
  | .non, u => u = Value.none
  | .bl b, u => u = Value.bool b
  | .int i, u => ∃ t, u = Value.int i t
  | .str x, u => ∃ t, u = Value.str x t
  | .byt b, u => ∃ t, u = Value.bytes b t
  | .flt b, u => ∃ t, u = Value.float b t
  | .ref a, u => u = Value.ref a
  | .ty n, u => u = Value.type n

abbrev Vals : List V → List Value → Prop := Paired RelV
theorem Vals.length {xs : List V} {us : List Value} (r : Vals xs us) : xs.length = us.length := Paired.length r
theorem Vals.get : ∀ {xs : List V} {us : List Value} {i : Nat} {x : V}, Vals xs us → xs[i]? = some x → ∃ u, us[i]? = some u ∧ RelV x u
  | _, _, _, _, .nil, e => by simp at e
  | _, _, 0, _, .cons r _, e => by simp at e; subst e; exact ⟨_, rfl, r⟩
  | _, _, i + 1, x, .cons _ t, e => by
    obtain ⟨u, h1, h2⟩ := Vals.get (i := i) (x := x) t (by simpa using e)
    exact ⟨u, by simpa using h1, h2⟩
theorem Vals.set {x : V} {u : Value} (r : RelV x u) : ∀ {xs : List V} {us : List Value} (i : Nat), Vals xs us → Vals (xs.set i x) (us.set i u)
  | _, _, _, .nil => .nil
  | _, _, 0, .cons _ t => .cons r t
  | _, _, i + 1, .cons q t => .cons q (Vals.set r i t)
theorem Vals.append : ∀ {xs ys : List V} {us ws : List Value}, Vals xs us → Vals ys ws → Vals (xs ++ ys) (us ++ ws)
  | _, _, _, _, .nil, s => s
  | _, _, _, _, .cons r t, s => .cons r (Vals.append t s)
theorem Vals.take : ∀ {xs : List V} {us : List Value} (n : Nat), Vals xs us → Vals (xs.take n) (us.take n)
  | _, _, 0, _ => .nil
  | _, _, _ + 1, .nil => .nil
  | _, _, n + 1, .cons r t => .cons r (Vals.take n t)
theorem Vals.drop : ∀ {xs : List V} {us : List Value} (n : Nat), Vals xs us → Vals (xs.drop n) (us.drop n)
  | _, _, 0, r => r
  | _, _, _ + 1, .nil => .nil
  | _, _, n + 1, .cons _ t => Vals.drop n t
theorem Vals.none_of : ∀ {xs : List V} {us : List Value} {i : Nat}, Vals xs us → xs[i]? = none → us[i]? = none := fun {xs us i} r e => by
  have h1 := r.length
  have h2 : xs.length ≤ i := List.getElem?_eq_none_iff.mp e
  exact List.getElem?_eq_none_iff.mpr (by omega)

def RelO : Option V → Option Value → Prop
  | some v, some u => RelV v u
  | none, none => True
  | _, _ => False
def KV {κ : Type} : List (κ × V) → List (κ × Value) → Prop := Paired fun (p : κ × V) (q : κ × Value) => p.1 = q.1 ∧ RelV p.2 q.2

/-- a key of a dict (00_mix): an int or a text -/
def kV : Key → V
  | .inl i => .int i
  | .inr x => .str x

/-- what stands at a tracked address -/
inductive HO where
  /-- a list -/
  | lst (xs : List V)
  /-- a tuple (never changes) -/
  | tup (xs : List V)
  /-- a dict whose keys are ints and texts; one whose keys are tuples of ints and texts (the empty one is both) -/
  | dK (kvs : List (Key × V)) | dT (kvs : List (List Key × V))
  /-- a set of ints: its members, its size -/
  | set (S : Int → Bool) (n : Nat)
  /-- an instance of the class at C, its dict at dx, its attributes -/
  | ins (C dx : Addr) (fs : List (Str × V))
  /-- the dict of the instance at x -/
  | own (x : Addr)
  /-- the dict of an exception -/
  | xd (fs : List (Str × V))
  /-- a bound method, f of x -/
  | met (f x : Addr)
  /-- a range object lo, lo + 1, .. below hi -/
  | rng (lo hi : Int)
  /-- a thing that is known to the object (the script; a dict while a loop walks it): read, never written while it is so -/
  | frz (o : Obj) (u : HO)
  /-- a code object's table -/
  | tbl (ps : Array Value)
  /-- any other thing, by what is true of its one object (a def of one's own: SetO a S n := HO.ext fun h => ..) -/
  | ext (φ : Heap → Prop)

abbrev Hp := Addr → Option HO
def upd (H : Hp) (a : Addr) (o : HO) : Hp := fun b => if b = a then some o else H b
theorem upd_same {H : Hp} {a : Addr} {o : HO} : upd H a o a = some o := by unfold upd; rw [if_pos rfl]
theorem upd_ne {H : Hp} {a b : Addr} {o : HO} (h : b ≠ a) : upd H a o b = H b := by unfold upd; rw [if_neg h]
theorem upd_upd {H : Hp} {a : Addr} {o u : HO} : upd (upd H a o) a u = upd H a u := by
  funext b; unfold upd; split <;> rfl
/-- two objects of different content stand apart -/
theorem ne_of {H : Hp} {a b : Addr} {o u : HO} (h : H a = some o) (h' : H b = some u) (d : o ≠ u) : a ≠ b := by
  intro e; subst e; rw [h] at h'; exact d (Option.some.inj h')
theorem ne_of_none {H : Hp} {a b : Addr} {o : HO} (h : H a = some o) (h' : H b = none) : a ≠ b := by
  intro e; subst e; rw [h] at h'; cases h'

section
variable (P : Program) (w : World)
def ObjOk (H : Hp) (h : Heap) (a : Addr) : HO → Prop
  | .lst xs => xs.length ≤ sizeLine ∧ ∃ (its : List Value) (n : Nat), Vals xs its ∧ h.get? a = some { cls := .type "list", data := .seq its.toArray n }
  | .tup xs => xs.length ≤ sizeLine ∧ ∃ its : List Value, Vals xs its ∧ IsTup h a its.toArray
  | .dK kvs => kvs.length ≤ sizeLine ∧ (a == sysModules) = false ∧ ∃ vs, KV kvs vs ∧ h.DictOf (mixKind P w) a vs
  | .dT kvs => kvs.length ≤ sizeLine ∧ (a == sysModules) = false ∧ ∃ xs : List (List Key × Addr × Value),
      Paired (fun (p : List Key × V) (q : List Key × Addr × Value) => p.1 = q.1 ∧ H q.2.1 = some (.tup (p.1.map kV)) ∧ RelV p.2 q.2.2) kvs xs ∧
      ∃ o es ep, h.get? a = some o ∧ o.ExactDict ∧ o.data = .dict es ep ∧ es.toList = xs.map (entryOfKey (tupleKind (mixKind P w))) ∧ (xs.map (·.1)).Nodup
  | .set S n => h.SetOf (intKind P w) a S n
  | .ins C dx fs => H dx = some (.own a) ∧ fs.length ≤ 1000 ∧ dx ≠ a ∧ h.get? a = some (PySem.W.instObj C dx) ∧
      ∃ mA, h.Ns1 dx mA ∧ (∀ f, RelO (fs.lookup f) (mA f)) ∧ PySem.Within mA (fs.map (·.1))
  | .own _ => ∃ o, h.get? a = some o
  | .xd fs => ∃ mA, h.Ns1 a mA ∧ ∀ f, RelO (fs.lookup f) (mA f)
  | .rng lo hi => ∃ t u v, h.get? a = some { cls := .type "range", data := .fields #[.int lo t, .int hi u, .int 1 v] }
  | .frz o u => h.get? a = some o ∧ ObjOk H h a u
  | .tbl ps => h.get? a = some { cls := .none, data := .fields ps }
  | .met f x => h.get? a = some (PySem.W.methodObj (.ref f) (.ref x))
  | .ext φ => φ h ∧ (∃ o, h.get? a = some o) ∧ ∀ h1 h2 : Heap, φ h1 → (∀ o, h1.get? a = some o → h2.get? a = some o) → φ h2
/-- the abstract heap is held -/
def HOk (H : Hp) (h : Heap) : Prop := ∀ a o, H a = some o → ObjOk P w H h a o
end

section
variable {P : Program} {w : World} {H H' : Hp} {h h' : Heap} {a : Addr} {o : HO}
theorem ObjOk.lt (x : ObjOk P w H h a o) : a < h.objs.size := by
  cases o with
  | lst xs => obtain ⟨_, _, _, _, e⟩ := x; exact Heap.lt_size e
  | tup xs => obtain ⟨_, _, _, p⟩ := x; exact p.lt
  | dK kvs => obtain ⟨_, _, _, _, o, _, _, e, _⟩ := x; exact Heap.lt_size e
  | dT kvs => obtain ⟨_, _, _, _, o, _, _, e, _⟩ := x; exact Heap.lt_size e
  | set S n => obtain ⟨o, _, _, _, e, _⟩ := x; exact Heap.lt_size e
  | ins C dx fs => obtain ⟨_, _, _, e, _⟩ := x; exact Heap.lt_size e
  | own y => obtain ⟨_, e⟩ := x; exact Heap.lt_size e
  | xd fs => obtain ⟨_, ⟨_, _, _, e, _⟩, _⟩ := x; exact Heap.lt_size e
  | rng lo hi => obtain ⟨_, _, _, e⟩ := x; exact Heap.lt_size e
  | frz ob u => obtain ⟨e, _⟩ := x; exact Heap.lt_size e
  | tbl ps => exact Heap.lt_size (show h.get? a = some _ from x)
  | met f y => exact Heap.lt_size (show h.get? a = some _ from x)
  | ext φ => obtain ⟨_, ⟨_, e⟩, _⟩ := x; exact Heap.lt_size e
theorem Paired.mapP {α β : Type} {F G : α → β → Prop} : ∀ {l₁ : List α} {l₂ : List β}, Paired F l₁ l₂ → (∀ a b, F a b → G a b) → Paired G l₁ l₂
  | _, _, .nil, _ => .nil
  | _, _, .cons r t, f => .cons (f _ _ r) (Paired.mapP t f)
theorem Paired.imp' {α β : Type} {F G : α → β → Prop} (f : ∀ a b, F a b → G a b) {l₁ : List α} {l₂ : List β} (r : Paired F l₁ l₂) : Paired G l₁ l₂ := Paired.mapP r f
/-- what an object's description leans on: its own object, its own dict, the tuples -/
theorem ObjOk.stay (x : ObjOk P w H h a o) (k : ∀ b u, (b = a ∨ H b = some (.own a)) → h.get? b = some u → h'.get? b = some u)
    (ho : ∀ b, H b = some (.own a) → H' b = some (.own a)) (ht : ∀ b xs, H b = some (.tup xs) → H' b = some (.tup xs)) : ObjOk P w H' h' a o := by
  induction o with
  | lst xs => obtain ⟨z, its, n, r, e⟩ := x; exact ⟨z, its, n, r, k _ _ (.inl rfl) e⟩
  | tup xs => obtain ⟨z, its, r, ob, e, c⟩ := x; exact ⟨z, its, r, ob, k _ _ (.inl rfl) e, c⟩
  | dK kvs => obtain ⟨z, y, vs, r, ob, es, ep, e, c⟩ := x; exact ⟨z, y, vs, r, ob, es, ep, k _ _ (.inl rfl) e, c⟩
  | dT kvs =>
    obtain ⟨z, y, xs, r, ob, es, ep, e, c⟩ := x
    exact ⟨z, y, xs, Paired.mapP r fun p q z => ⟨z.1, ht _ _ z.2.1, z.2.2⟩, ob, es, ep, k _ _ (.inl rfl) e, c⟩
  | set S n => obtain ⟨ob, es, ep, t, e, c⟩ := x; exact ⟨ob, es, ep, t, k _ _ (.inl rfl) e, c⟩
  | ins C dx fs =>
    obtain ⟨d, z, ne, e, mA, ⟨od, es, ep, e2, c⟩, r⟩ := x
    exact ⟨ho _ d, z, ne, k _ _ (.inl rfl) e, mA, ⟨od, es, ep, k _ _ (.inr d) e2, c⟩, r⟩
  | own y => obtain ⟨ob, e⟩ := x; exact ⟨ob, k _ _ (.inl rfl) e⟩
  | xd fs => obtain ⟨mA, ⟨od, es, ep, e, c⟩, r⟩ := x; exact ⟨mA, ⟨od, es, ep, k _ _ (.inl rfl) e, c⟩, r⟩
  | rng lo hi => obtain ⟨t, u, v, e⟩ := x; exact ⟨t, u, v, k _ _ (.inl rfl) e⟩
  | frz ob u ih => obtain ⟨e, q⟩ := x; exact ⟨k _ _ (.inl rfl) e, ih q⟩
  | tbl ps =>
    have e : h.get? a = some { cls := .none, data := .fields ps } := x
    show h'.get? a = some { cls := .none, data := .fields ps }
    exact k a _ (.inl rfl) e
  | met f y =>
    have e : h.get? a = some (PySem.W.methodObj (.ref f) (.ref y)) := x
    show h'.get? a = some (PySem.W.methodObj (.ref f) (.ref y))
    exact k a _ (.inl rfl) e
  | ext φ => obtain ⟨p, ⟨o, e⟩, st⟩ := x; exact ⟨st _ _ p fun o q => k _ _ (.inl rfl) q, ⟨o, k _ _ (.inl rfl) e⟩, st⟩
theorem HOk.lt (x : HOk P w H h) (e : H a = some o) : a < h.objs.size := (x a o e).lt
theorem HOk.fresh (x : HOk P w H h) (e : h.objs.size ≤ a) : H a = none := by
  cases q : H a with
  | none => rfl
  | some u => exact absurd (Nat.lt_of_lt_of_le (x.lt q) e) (Nat.lt_irrefl _)
/-- every object of the heap is kept -/
theorem HOk.kept (x : HOk P w H h) (k : ∀ b u, h.get? b = some u → h'.get? b = some u) : HOk P w H h' := fun a o e =>
  (x a o e).stay (fun b u _ q => k b u q) (fun _ q => q) fun _ _ q => q
/-- a new object is laid and tracked -/
theorem HOk.laid (x : HOk P w H h) (k : ∀ b u, h.get? b = some u → h'.get? b = some u) (hp : h.objs.size ≤ a) (new : ObjOk P w (upd H a o) h' a o) : HOk P w (upd H a o) h' := fun b u e => by
  have hn := x.fresh hp
  by_cases hb : b = a
  · subst hb; rw [upd_same] at e; cases e; exact new
  · rw [upd_ne hb] at e
    exact (x b u e).stay (fun c v _ q => k c v q) (fun c q => by rw [upd_ne (ne_of_none q hn)]; exact q) fun c xs q => by rw [upd_ne (ne_of_none q hn)]; exact q
end

/-- what may be read as u: it is u, or a known u -/
def Rd (H : Hp) (a : Addr) (u : HO) : Prop := H a = some u ∨ ∃ o, H a = some (.frz o u)
theorem Rd.of {H : Hp} {a : Addr} {u : HO} (h : H a = some u) : Rd H a u := .inl h
theorem Rd.ok {P : Program} {w : World} {H : Hp} {h : Heap} {a : Addr} {u : HO} (r : Rd H a u) (x : HOk P w H h) : ObjOk P w H h a u := by
  rcases r with r | ⟨o, r⟩
  · exact x a u r
  · obtain ⟨_, q⟩ := x a _ r
    exact q
/-- what may be written -/
def Mut : Option HO → Prop
  | some (.lst _) => True
  | some (.dK _) => True
  | some (.dT _) => True
  | some (.set _ _) => True
  | some (.ins _ _ _) => True
  | some (.ext _) => True
  | _ => False
section
variable {P : Program} {w : World} {H : Hp} {h h' : Heap} {x e : Addr} {o' : HO}
/-- the object at e is changed: x itself, or the dict of the instance x -/
theorem HOk.write (ok : HOk P w H h) (mu : Mut (H x)) (he : e = x ∨ H e = some (.own x)) (k : ∀ b u, b ≠ e → h.get? b = some u → h'.get? b = some u) (heo : ∃ u, h'.get? e = some u)
    (new : ObjOk P w (upd H x o') h' x o') : HOk P w (upd H x o') h' := fun b u q => by
  have nown : ∀ c y, H c = some (.own y) → c ≠ x := fun c y r z => by subst z; rw [r] at mu; exact mu
  have ntup : ∀ c xs, H c = some (.tup xs) → c ≠ x := fun c xs r z => by subst z; rw [r] at mu; exact mu
  by_cases hb : b = x
  · subst hb; rw [upd_same] at q; cases q; exact new
  · rw [upd_ne hb] at q
    by_cases hbe : b = e
    · have q' : H b = some (.own x) := by
        rcases he with z | z
        · exact absurd (hbe.trans z) hb
        · rw [hbe]; exact z
      rw [q] at q'; cases q'
      obtain ⟨v, hv⟩ := heo
      exact ⟨v, by rw [hbe]; exact hv⟩
    · refine (ok b u q).stay (fun c v hc r => k c v ?_ r) (fun c r => by rw [upd_ne (nown c b r)]; exact r) fun c xs r => by rw [upd_ne (ntup c xs r)]; exact r
      rcases hc with rfl | hc
      · exact hbe
      · rintro rfl
        rcases he with z | z
        · exact nown c b hc z
        · rw [hc] at z; cases z; exact hb rfl
end

/-! ### kept unless tracked; of the frames at fs (the callers') the slots may change (an exception that passes writes there); of the records at ex (iterators) nothing is said -/
structure Un (fs ex : List Addr) (H H' : Hp) (h h' : Heap) : Prop where
  keep : ∀ b o, h.get? b = some o → H b = none → b ∉ fs → b ∉ ex → h'.get? b = some o
  slot : ∀ b o, h.get? b = some o → H b = none → b ∈ fs → b ∉ ex → ∃ sl, h'.get? b = some { o with slots := sl }
  free : ∀ b o, h.get? b = some o → H b = none → b ∉ ex → H' b = none
  there : ∀ b o, h.get? b = some o → b ∉ ex → ∃ o', h'.get? b = some o'
  tups : ∀ b xs, H b = some (.tup xs) → H' b = some (.tup xs)
  frzs : ∀ b o u, H b = some (.frz o u) → H' b = some (.frz o u)
  tbls : ∀ b ps, H b = some (.tbl ps) → ∃ more, H' b = some (.tbl (ps ++ more))
section
variable {fs fs' ex ex' : List Addr} {H H1 H2 : Hp} {h h1 h2 h' : Heap} {a x e : Addr} {o : HO}
theorem Un.any (u : Un fs ex H H1 h h1) {b : Addr} {ob : Obj} (q : h.get? b = some ob) (n : H b = none) (hx : b ∉ ex) : ∃ sl, h1.get? b = some { ob with slots := sl } := by
  by_cases hb : b ∈ fs
  · exact u.slot b ob q n hb hx
  · exact ⟨ob.slots, u.keep b ob q n hb hx⟩
theorem Un.trans (a : Un fs ex H H1 h h1) (b : Un fs ex H1 H2 h1 h2) : Un fs ex H H2 h h2 where
  keep := fun c ob q n hc hx => b.keep c ob (a.keep c ob q n hc hx) (a.free c ob q n hx) hc hx
  slot := fun c ob q n hc hx => by
    obtain ⟨sl, e1⟩ := a.slot c ob q n hc hx
    obtain ⟨sl', e2⟩ := b.slot c _ e1 (a.free c ob q n hx) hc hx
    exact ⟨sl', e2⟩
  free := fun c ob q n hx => by
    obtain ⟨o', e1⟩ := a.there c ob q hx
    exact b.free c o' e1 (a.free c ob q n hx) hx
  there := fun c ob q hx => by
    obtain ⟨o', e1⟩ := a.there c ob q hx
    exact b.there c o' e1 hx
  tups := fun c xs q => b.tups c xs (a.tups c xs q)
  frzs := fun c ob xs q => b.frzs c ob xs (a.frzs c ob xs q)
  tbls := fun c ps q => by
    obtain ⟨m1, e1⟩ := a.tbls c ps q
    obtain ⟨m2, e2⟩ := b.tbls c _ e1
    exact ⟨m1 ++ m2, by rw [e2, Array.append_assoc]⟩
theorem Un.kept (k : ∀ b u, h.get? b = some u → h'.get? b = some u) : Un fs ex H H h h' :=
  ⟨fun b ob q _ _ _ => k b ob q, fun b ob q _ _ _ => ⟨ob.slots, k b ob q⟩, fun _ _ _ n _ => n, fun b ob q _ => ⟨ob, k b ob q⟩, fun _ _ q => q, fun _ _ _ q => q, fun _ ps q => ⟨#[], by rw [q]; simp⟩⟩
theorem Un.refl : Un fs ex H H h h := Un.kept fun _ _ q => q
theorem Un.laid (k : ∀ b u, h.get? b = some u → h'.get? b = some u) (hp : h.objs.size ≤ a) (hn : H a = none) : Un fs ex H (upd H a o) h h' where
  keep := fun b u q _ _ _ => k b u q
  slot := fun b u q _ _ _ => ⟨u.slots, k b u q⟩
  free := fun b u q n _ => by rw [upd_ne (Nat.ne_of_lt (Nat.lt_of_lt_of_le (Heap.lt_size q) hp))]; exact n
  there := fun b u q _ => ⟨u, k b u q⟩
  tups := fun b xs q => by rw [upd_ne (ne_of_none q hn)]; exact q
  frzs := fun b u xs q => by rw [upd_ne (ne_of_none q hn)]; exact q
  tbls := fun b ps q => ⟨#[], by rw [upd_ne (ne_of_none q hn), q]; simp⟩
theorem Un.write (mu : Mut (H x)) (he : e = x ∨ H e = some (.own x)) (k : ∀ b u, b ≠ e → h.get? b = some u → h'.get? b = some u) (heo : ∃ u, h'.get? e = some u) : Un fs ex H (upd H x o) h h' := by
  have hx : ∀ b, H b = none → b ≠ x := fun b n z => by subst z; rw [n] at mu; exact mu
  have hb : ∀ b, H b = none → b ≠ e := fun b n z => by
    subst z
    rcases he with r | r
    · exact hx b n r
    · rw [n] at r; cases r
  have hm : ∀ b u, H b = some u → ¬ Mut (some u) → b ≠ x := fun b u q nm z => by subst z; rw [q] at mu; exact nm mu
  refine ⟨fun b u q n _ _ => k b u (hb b n) q, fun b u q n _ _ => ⟨u.slots, k b u (hb b n) q⟩, fun b u q n _ => by rw [upd_ne (hx b n)]; exact n, fun b u q _ => ?_,
    fun b xs q => by rw [upd_ne (hm b _ q fun z => z)]; exact q, fun b u xs q => by rw [upd_ne (hm b _ q fun z => z)]; exact q, fun b ps q => ⟨#[], by rw [upd_ne (hm b _ q fun z => z), q]; simp⟩⟩
  by_cases hbe : b = e
  · subst hbe; exact heo
  · exact ⟨u, k b u hbe q⟩
theorem Un.mono (u : Un fs ex H H1 h h1) (hs : ∀ b ∈ fs, b ∈ fs') (hx : ∀ b ∈ ex, b ∈ ex') : Un fs' ex' H H1 h h1 :=
  ⟨fun b ob q n hb he => u.keep b ob q n (fun z => hb (hs b z)) fun z => he (hx b z), fun _ _ q n _ he => u.any q n fun z => he (hx _ z), fun b ob q n he => u.free b ob q n fun z => he (hx b z), fun b ob q he => u.there b ob q fun z => he (hx b z), u.tups, u.frzs, u.tbls⟩
end

/-! ### the heap without what is tracked -/
def trk (h : Heap) (H : Hp) : List Addr := (List.range h.objs.size).filter fun a => (H a).isSome
def hidT (h : Heap) (H : Hp) : Heap := PySem.W.hideAll h (trk h H)
theorem hidT_size (h : Heap) (H : Hp) : (hidT h H).objs.size = h.objs.size := PySem.W.hideAll_size _ _
theorem hidT_get {h : Heap} {H : Hp} {b : Addr} {o : Obj} (e : h.get? b = some o) (n : H b = none) : (hidT h H).get? b = some o :=
  PySem.W.hideAll_get _ e fun hm => by
    have q : (H b).isSome = true := (List.mem_filter.mp hm).2
    rw [n] at q; simp at q
theorem of_hidT {h : Heap} {H : Hp} {b : Addr} {o : Obj} (e : (hidT h H).get? b = some o) : h.get? b = some o ∧ H b = none := by
  have e' : h.get? b = some o := PySem.W.of_hideAll (trk h H) e
  refine ⟨e', ?_⟩
  cases q : H b with
  | none => rfl
  | some x =>
    have hm : b ∈ trk h H := List.mem_filter.mpr ⟨List.mem_range.mpr (Heap.lt_size e'), by simp [q]⟩
    have z : (hidT h H).get? b = none := PySem.W.hideAll_none (trk h H) hm
    rw [z] at e; cases e

/-! ### OpenK's ledger, filled with every new object but one -/
def allNews (g h : Heap) (L : Addr) : List (Addr × Obj) := (List.range h.objs.size).filterMap fun a => if a = L ∨ (g.get? a).isSome = true then none else (h.get? a).map fun o => (a, o)
theorem mem_allNews {g h : Heap} {L a : Addr} {o : Obj} (h1 : a ≠ L) (h2 : g.get? a = none) (h3 : h.get? a = some o) : (a, o) ∈ allNews g h L :=
  List.mem_filterMap.mpr ⟨a, List.mem_range.mpr (Heap.lt_size h3), by simp [h1, h2, h3]⟩
theorem of_mem_allNews {g h : Heap} {L : Addr} {p : Addr × Obj} (hp : p ∈ allNews g h L) : p.1 ≠ L ∧ g.get? p.1 = none ∧ h.get? p.1 = some p.2 := by
  obtain ⟨b, _, e⟩ := List.mem_filterMap.mp hp
  split at e
  · cases e
  · rename_i hn
    cases q : h.get? b with
    | none => rw [q] at e; simp at e
    | some u =>
      rw [q] at e
      simp only [Option.map_some, Option.some.injEq] at e
      subst e
      refine ⟨fun z => hn (.inl z), ?_, q⟩
      show g.get? b = none
      cases r : g.get? b with
      | none => rfl
      | some v => exact (hn (.inr (by simp [r]))).elim
def rest (g h : Heap) (L d : Addr) : List (Addr × Obj) := (allNews g h L).filter fun p => decide (p.1 ≠ d)
theorem rest_ne {g h : Heap} {L d : Addr} : ∀ p ∈ rest g h L d, p.1 ≠ d := fun p hp => of_decide_eq_true (List.mem_filter.mp hp).2
theorem mem_rest {g h : Heap} {L d a : Addr} {o : Obj} (h1 : a ≠ L) (h2 : g.get? a = none) (h3 : h.get? a = some o) (h4 : a ≠ d) : (a, o) ∈ rest g h L d :=
  List.mem_filter.mpr ⟨mem_allNews h1 h2 h3, decide_eq_true h4⟩
theorem news_all {g h : Heap} {L : Addr} : News g L h (allNews g h L) := fun p hp => let ⟨a, b, c⟩ := of_mem_allNews hp; ⟨c, a, b⟩
theorem news_at {g h : Heap} {L d : Addr} {o : Obj} (h1 : d ≠ L) (h2 : g.get? d = none) (h3 : h.get? d = some o) : News g L h ((d, o) :: rest g h L d) := fun p hp => by
  rcases List.mem_cons.mp hp with rfl | hp
  · exact ⟨h3, h1, h2⟩
  · exact news_all p (List.mem_filter.mp hp).1
/-- behind a rule that changed d alone: all else but the frame is kept -/
theorem kept_of_news {g h h' : Heap} {L d : Addr} {m : Str → Option Value} (k : ∀ b o, g.get? b = some o → h.get? b = some o) (F : Fr g L h' m) (N : News g L h' (rest g h L d)) :
    ∀ b o, b ≠ L → b ≠ d → h.get? b = some o → h'.get? b = some o := fun b o h1 h2 e => by
  cases q : g.get? b with
  | some u =>
    have := k b u q
    rw [e] at this; cases this
    exact F.keep b _ q
  | none => exact (N (b, o) (mem_rest h1 q e h2)).1
end L2

namespace L2
open PySem PySem.Spec PyProof.Rows

/-- the module's facts, over the base: the heap at the law's entry without what is tracked there -/
structure Mod (K : PySem.W.Frag) (mg : Str → Option Value) (base : Heap) : Prop where
  kin : K.In base
  glob : base.Ns mainGlobals mg
  blt : ∃ mb, base.Ns builtinsNs mb ∧ ∀ x : Str, x ≠ "__name__" → mb x = bootBuiltins x
  nolimit : base.NoLimit

/-- the context: a def's body (or a comprehension's block) running. base: fixed through the whole law; s₀, H₀: the entry; outer: the frames whose slots others may change (a def's callers); stack: all frames that run;
   ex: iterators that were made ahead of the entry and are walked here (a comprehension's); fn: the names whose cells were made at the entry (a def: all; a comprehension's block: its own); calm: not within an except suite; pn: pins that every state bears; xe: what is wanted of an exception that leaves the code -/
structure Cx where
  prog : Program
  w : World
  K : PySem.W.Frag
  mg : Str → Option Value
  base : Heap
  A : Around
  N : List Str
  s₀ : Shared
  H₀ : Hp
  env : Env
  outer : List Env
  stack : List Env
  ex : List Addr
  fn : Str → Bool
  calm : Bool
  pn : List (Addr × Obj)
  xe : Value → Shared → Prop
/-- the callers' frames -/
def frs (l : List Env) : List Addr := l.filterMap (·.frame)
abbrev Cx.fs (X : Cx) : List Addr := frs X.outer

def Vis (sc : Scope) (x : Str) : Prop := sc.names.lookup x = some .local ∨ sc.names.lookup x = some .cell ∨ sc.names.lookup x = some .free
def Loc (sc : Scope) (x : Str) : Prop := sc.names.lookup x = some .local ∨ sc.names.lookup x = some .cell
def Look (env : Env) (h : Heap) (m : Str → Option Value) (x : Str) (u : Value) : Prop :=
  (env.kindOf x = some .local ∧ m x = some u) ∨ ((env.kindOf x = some .cell ∨ env.kindOf x = some .free) ∧ ∃ c, env.cells.lookup x = some c ∧ h.IsCell c (some u))

structure Cx.Ok (X : Cx) : Prop where
  mod : Mod X.K X.mg X.base
  kind : X.env.scope.kind = .function
  glob : X.env.globals = mainGlobals
  blt : X.env.builtins = builtinsNs
  above : X.s₀.heap.objs.size ≤ X.env.locals
  inj : ∀ x y c, X.env.cells.lookup x = some c → X.env.cells.lookup y = some c → x = y
  has : ∀ x, (X.env.kindOf x = some .cell ∨ X.env.kindOf x = some .free) → ∃ c, X.env.cells.lookup x = some c
  cab : ∀ x c, X.fn x = true → X.env.cells.lookup x = some c → X.s₀.heap.objs.size ≤ c
  hd : X.calm = true → X.A.handled = none
  frames : X.A.frames = some X.stack
  stk : X.stack = X.outer ∨ (X.stack = X.env :: X.outer ∧ X.env.frame = some X.env.locals)
  exf : ∀ b ∈ X.ex, b ≠ X.env.locals ∧ ∀ x c, X.env.cells.lookup x = some c → c ≠ b
  bs : ∀ b o, X.base.get? b = some o → X.s₀.heap.get? b = some o ∧ X.H₀ b = none
  bsz : X.base.objs.size ≤ X.s₀.heap.objs.size
  noex : ∀ b o, X.base.get? b = some o → b ∉ X.ex
  exfs : ∀ b ∈ X.ex, b ∉ X.fs
  funs : X.s₀.heap.FunFrames X.base X.outer
  frf : ∀ b ∈ X.fs, X.H₀ b = none

structure Inv (X : Cx) (pins : List (Addr × Obj)) (σ : List (Option V)) (H : Hp) (s : Shared) : Prop where
  ok : X.Ok
  os : s.os = X.s₀.os
  bare : AllBare s.gens
  base : Un X.fs X.ex X.H₀ H X.s₀.heap s.heap
  loc : ∃ m, s.heap.Ns X.env.locals m ∧ ∀ (i : Nat) (x : Str) (v : V), X.N[i]? = some x → σ[i]? = some (some v) → Vis X.env.scope x → ∃ u, RelV v u ∧ Look X.env s.heap m x u
  cell : ∀ x c, X.env.cells.lookup x = some c → ∃ v, s.heap.IsCell c v
  free : H X.env.locals = none
  freeC : ∀ x c, X.env.cells.lookup x = some c → H c = none
  pin : ∀ p ∈ X.pn ++ pins, s.heap.get? p.1 = some p.2 ∧ H p.1 = none ∧ p.1 ≠ X.env.locals ∧ p.1 ∉ X.fs ∧ ∀ v, p.2.data ≠ .cell v
  hok : HOk X.prog X.w H s.heap
  len : σ.length = X.N.length

section
variable {X : Cx} {pins : List (Addr × Obj)} {σ : List (Option V)} {H H' : Hp} {s : Shared} {h' : Heap}

theorem Cx.Ok.nofr (ok : X.Ok) {b : Addr} {o : Obj} (e : X.base.get? b = some o) : b ∉ X.fs := fun hb => by
  have := (ok.funs.mem hb).1
  rw [e] at this; cases this
theorem Inv.bs (I : Inv X pins σ H s) : ∀ b o, X.base.get? b = some o → s.heap.get? b = some o ∧ H b = none := fun b o e =>
  ⟨I.base.keep b o (I.ok.bs b o e).1 (I.ok.bs b o e).2 (I.ok.nofr e) (I.ok.noex b o e), I.base.free b o (I.ok.bs b o e).1 (I.ok.bs b o e).2 (I.ok.noex b o e)⟩
theorem Inv.bk (I : Inv X pins σ H s) : ∀ b o, X.base.get? b = some o → s.heap.get? b = some o := fun b o e => (I.bs b o e).1
theorem Inv.mod (I : Inv X pins σ H s) : Mod X.K X.mg X.base := I.ok.mod
theorem Inv.kIn (I : Inv X pins σ H s) : X.K.In s.heap := I.ok.mod.kin.keeps I.bk
theorem Inv.nolimit (I : Inv X pins σ H s) : s.heap.NoLimit := I.ok.mod.nolimit.keeps I.bk
/-- the frame over the base: for OpenK's rules (K.In X.base is I.mod.kin) -/
theorem Inv.fr (I : Inv X pins σ H s) : ∃ m, Fr X.base X.env.locals s.heap m :=
  let ⟨m, hn, _⟩ := I.loc
  ⟨m, hn, I.bk, Nat.le_trans I.ok.bsz I.ok.above⟩
theorem Inv.lt (I : Inv X pins σ H s) : X.env.locals < s.heap.objs.size := let ⟨_, hn, _⟩ := I.loc; hn.lt
theorem Inv.sz (I : Inv X pins σ H s) : X.s₀.heap.objs.size ≤ s.heap.objs.size := Nat.le_trans I.ok.above (Nat.le_of_lt I.lt)
theorem Inv.nofs (I : Inv X pins σ H s) {a : Addr} (h : s.heap.objs.size ≤ a) : a ∉ X.fs := fun hb => by
  obtain ⟨_, o, ho, _⟩ := I.ok.funs.mem hb
  exact absurd (Nat.lt_of_lt_of_le (Heap.lt_size ho) (Nat.le_trans I.sz h)) (Nat.lt_irrefl _)
theorem Inv.cne (I : Inv X pins σ H s) : ∀ x c, X.env.cells.lookup x = some c → c ≠ X.env.locals := fun x c e z => by
  obtain ⟨v, o, ho, hd⟩ := I.cell x c e
  obtain ⟨m, ⟨o', es, ep, ho', hd', _⟩, _⟩ := I.loc
  rw [z, ho'] at ho; cases ho; rw [hd'] at hd; cases hd
theorem Inv.funs (I : Inv X pins σ H s) : s.heap.FunFrames X.base X.outer := by
  have all : ∀ (l : List Env), (∀ b ∈ frs l, b ∈ X.fs) → X.s₀.heap.FunFrames X.base l → s.heap.FunFrames X.base l := by
    intro l
    induction l with
    | nil => intro _ _; trivial
    | cons env r ih =>
      intro hs hl
      obtain ⟨hk, ⟨L, o, hf, hn, ho, hd⟩, hr⟩ := hl
      have hL : L ∈ X.fs := hs L (by unfold frs; rw [List.filterMap_cons, hf]; exact List.mem_cons_self)
      obtain ⟨sl, e⟩ := I.base.slot L o ho (I.ok.frf L hL) hL fun z => I.ok.exfs L z hL
      exact ⟨hk, ⟨L, _, hf, hn, e, hd⟩, ih (fun b hb => hs b (by unfold frs; rw [List.filterMap_cons, hf]; exact List.mem_cons_of_mem _ hb)) hr⟩
  exact all X.outer (fun _ hb => hb) I.ok.funs

/-- the frames that run, for a call -/
theorem Inv.stack (I : Inv X pins σ H s) : s.heap.FunFrames X.base X.stack := by
  rcases I.ok.stk with e | ⟨e, hf⟩
  · rw [e]; exact I.funs
  · rw [e]
    obtain ⟨m, hn, _⟩ := I.loc
    refine .cons (by rw [I.ok.kind]; decide) hf hn ?_ I.funs
    exact Heap.get?_none_of_le (Nat.le_trans I.ok.bsz I.ok.above)
theorem Inv.stkSub (I : Inv X pins σ H s) : ∀ b ∈ frs X.stack, b ∈ X.env.locals :: X.fs := fun b hb => by
  rcases I.ok.stk with e | ⟨e, hf⟩
  · rw [e] at hb; exact List.mem_cons_of_mem _ hb
  · rw [e] at hb
    unfold frs at hb
    rw [List.filterMap_cons, hf] at hb
    exact hb
theorem Inv.stkFree (I : Inv X pins σ H s) : ∀ b ∈ frs X.stack, H b = none := fun b hb => by
  rcases List.mem_cons.mp (I.stkSub b hb) with e | hb
  · rw [e]; exact I.free
  · obtain ⟨_, o, ho, _⟩ := I.ok.funs.mem hb
    exact I.base.free b o ho (I.ok.frf b hb) fun z => I.ok.exfs b z hb

/-- THE STEP: the untracked objects but the frame and the records at ch are kept (the callers' frames up to slots), the frame's map is kept, the new abstract heap is held -/
theorem Inv.step {g' : Array GenState} {t' : Nat} {d' : Drawn} {ch : List Addr} (I : Inv X pins σ H s)
    (hch : ∀ b ∈ ch, (b ∈ X.ex ∨ X.s₀.heap.objs.size ≤ b) ∧ b ≠ X.env.locals ∧ (∀ x c, X.env.cells.lookup x = some c → c ≠ b) ∧ ∀ p ∈ X.pn ++ pins, p.1 ≠ b)
    (keep : ∀ b o, b ≠ X.env.locals → b ∉ X.fs → b ∉ ch → s.heap.get? b = some o → H b = none → h'.get? b = some o)
    (slot : ∀ b o, b ≠ X.env.locals → b ∈ X.fs → b ∉ ch → s.heap.get? b = some o → H b = none → ∃ sl, h'.get? b = some { o with slots := sl }) (free : ∀ b o, b ∉ ch → s.heap.get? b = some o → H b = none → H' b = none)
    (there : ∀ b o, b ∉ ch → s.heap.get? b = some o → ∃ o', h'.get? b = some o')
    (tups : ∀ b xs, H b = some (.tup xs) → H' b = some (.tup xs)) (frzs : ∀ b o u, H b = some (.frz o u) → H' b = some (.frz o u)) (tbls : ∀ b ps, H b = some (.tbl ps) → ∃ more, H' b = some (.tbl (ps ++ more)))
    (ns : ∀ m, s.heap.Ns X.env.locals m → h'.Ns X.env.locals m) (hok : HOk X.prog X.w H' h') (hg : AllBare g') :
    Inv X pins σ H' { s with heap := h', gens := g', drawn := d', toks := t' } := by
  have neL : ∀ b o, X.s₀.heap.get? b = some o → b ≠ X.env.locals := fun b o e => Nat.ne_of_lt (Nat.lt_of_lt_of_le (Heap.lt_size e) I.ok.above)
  have neC : ∀ b o, X.s₀.heap.get? b = some o → b ∉ X.ex → b ∉ ch := fun b o e hx hb => by
    rcases (hch b hb).1 with z | z
    · exact hx z
    · exact absurd (Nat.lt_of_lt_of_le (Heap.lt_size e) z) (Nat.lt_irrefl _)
  have cellK : ∀ x c, X.env.cells.lookup x = some c → ∀ v, s.heap.IsCell c v → h'.IsCell c v := fun x c e v ⟨o, ho, hd⟩ => by
    have nch : c ∉ ch := fun z => (hch c z).2.2.1 x c e rfl
    by_cases hc : c ∈ X.fs
    · obtain ⟨sl, q⟩ := slot c o (I.cne x c e) hc nch ho (I.freeC x c e)
      exact ⟨_, q, hd⟩
    · exact ⟨o, keep c o (I.cne x c e) hc nch ho (I.freeC x c e), hd⟩
  refine ⟨I.ok, I.os, hg, ⟨fun b o e n hb hx => ?_, fun b o e n hb hx => ?_, fun b o e n hx => ?_, fun b o e hx => ?_, fun b xs e => tups b xs (I.base.tups b xs e), fun b o xs e => frzs b o xs (I.base.frzs b o xs e), fun b ps e => ?_⟩, ?_, fun x c e => ?_, ?_, fun x c e => ?_, fun p hp => ?_, hok, I.len⟩
  · exact keep b o (neL b o e) hb (neC b o e hx) (I.base.keep b o e n hb hx) (I.base.free b o e n hx)
  · obtain ⟨sl, e1⟩ := I.base.slot b o e n hb hx
    obtain ⟨sl', e2⟩ := slot b _ (neL b o e) hb (neC b o e hx) e1 (I.base.free b o e n hx)
    exact ⟨sl', e2⟩
  · obtain ⟨o', e1⟩ := I.base.there b o e hx
    exact free b o' (neC b o e hx) e1 (I.base.free b o e n hx)
  · obtain ⟨o', e1⟩ := I.base.there b o e hx
    exact there b o' (neC b o e hx) e1
  · obtain ⟨m1, e1⟩ := I.base.tbls b ps e
    obtain ⟨m2, e2⟩ := tbls b _ e1
    exact ⟨m1 ++ m2, by rw [e2, Array.append_assoc]⟩
  · obtain ⟨m, hn, hl⟩ := I.loc
    refine ⟨m, ns m hn, fun i x v e1 e2 e3 => ?_⟩
    obtain ⟨u, r, l⟩ := hl i x v e1 e2 e3
    refine ⟨u, r, ?_⟩
    rcases l with l | ⟨k, c, e, z⟩
    · exact .inl l
    · exact .inr ⟨k, c, e, cellK x c e _ z⟩
  · obtain ⟨v, z⟩ := I.cell x c e
    exact ⟨v, cellK x c e v z⟩
  · obtain ⟨m, ⟨o, _, _, ho, _⟩, _⟩ := I.loc
    exact free _ o (fun z => (hch _ z).2.1 rfl) ho I.free
  · obtain ⟨v, o, ho, hd⟩ := I.cell x c e
    exact free c o (fun z => (hch c z).2.2.1 x c e rfl) ho (I.freeC x c e)
  · obtain ⟨e, n, ne, nf, d⟩ := I.pin p hp
    have nch : p.1 ∉ ch := fun z => (hch p.1 z).2.2.2 p hp rfl
    exact ⟨keep p.1 p.2 ne nf nch e n, free p.1 p.2 nch e n, ne, nf, d⟩
/-- .. where the frame's own object is kept too -/
theorem Inv.un {t' : Nat} (I : Inv X pins σ H s) (u : Un X.fs [] H H' s.heap h') (hok : HOk X.prog X.w H' h') : Inv X pins σ H' { s with heap := h', toks := t' } := by
  obtain ⟨m, ⟨o, es, ep, ho, r⟩, _⟩ := id I.loc
  obtain ⟨sl, hL⟩ := u.any ho I.free (by simp)
  exact I.step (g' := s.gens) (d' := s.drawn) (ch := []) (fun _ z => nomatch z) (fun b o _ hb _ e n => u.keep b o e n hb (by simp)) (fun b o _ hb _ e n => u.slot b o e n hb (by simp)) (fun b o _ e n => u.free b o e n (by simp)) (fun b o _ e => u.there b o e (by simp)) u.tups u.frzs u.tbls (fun m' hm => by
    obtain ⟨o', es', ep', ho', r'⟩ := hm
    rw [ho] at ho'; cases ho'
    exact ⟨_, es', ep', hL, r'⟩) hok I.bare
/-- behind a call (or a comprehension's block): the slots of this frame may have changed too, the records at ch may have turned -/
theorem Inv.call {g' : Array GenState} {t' : Nat} {d' : Drawn} {ch : List Addr} (I : Inv X pins σ H s) (u : Un (frs X.stack) ch H H' s.heap h') (hok : HOk X.prog X.w H' h') (hg : AllBare g')
    (hch : ∀ b ∈ ch, (b ∈ X.ex ∨ X.s₀.heap.objs.size ≤ b) ∧ b ≠ X.env.locals ∧ (∀ x c, X.env.cells.lookup x = some c → c ≠ b) ∧ ∀ p ∈ X.pn ++ pins, p.1 ≠ b) :
    Inv X pins σ H' { s with heap := h', gens := g', drawn := d', toks := t' } := by
  obtain ⟨m, ⟨o, es, ep, ho, r⟩, _⟩ := id I.loc
  obtain ⟨sl, hL⟩ := u.any ho I.free fun z => (hch _ z).2.1 rfl
  exact I.step (ch := ch) hch (fun b o hL hb hc e n => u.keep b o e n (fun z => (List.mem_cons.mp (I.stkSub b z)).elim hL hb) hc) (fun b o _ _ hc e n => u.any e n hc) (fun b o hc e n => u.free b o e n hc) (fun b o hc e => u.there b o e hc) u.tups u.frzs u.tbls (fun m' hm => by
    obtain ⟨o', es', ep', ho', r'⟩ := hm
    rw [ho] at ho'; cases ho'
    exact ⟨_, es', ep', hL, r'⟩) hok hg
/-- an untracked record of ours (an iterator) has turned -/
theorem Inv.turned {t' : Nat} {it : Addr} (I : Inv X pins σ H s) (k : ∀ b o, b ≠ it → s.heap.get? b = some o → h'.get? b = some o) (hn : H it = none) (hL : it ≠ X.env.locals)
    (h1 : it ∈ X.ex ∨ X.s₀.heap.objs.size ≤ it) (h2 : ∀ x c, X.env.cells.lookup x = some c → c ≠ it) (h3 : ∀ p ∈ X.pn ++ pins, p.1 ≠ it) : Inv X pins σ H { s with heap := h', toks := t' } := by
  have nit : ∀ b u, H b = some u → b ≠ it := fun b u e z => by rw [z, hn] at e; cases e
  refine I.step (g' := s.gens) (d' := s.drawn) (ch := [it]) (fun b hb => ?_) (fun b o _ _ hc e _ => k b o (fun z => hc (by simp [z])) e) (fun b o _ _ hc e _ => ⟨o.slots, k b o (fun z => hc (by simp [z])) e⟩) (fun _ _ _ _ n => n)
    (fun b o hc e => ⟨o, k b o (fun z => hc (by simp [z])) e⟩) (fun _ _ e => e) (fun _ _ _ e => e) (fun b ps e => ⟨#[], by rw [e]; simp⟩) (fun m hm => ?_) (fun b u e => ?_) I.bare
  · have e : b = it := by simpa using hb
    subst e
    exact ⟨h1, hL, h2, h3⟩
  · obtain ⟨o, es, ep, ho, r⟩ := hm
    exact ⟨o, es, ep, k _ o (Ne.symm hL) ho, r⟩
  · refine (I.hok b u e).stay (fun c v hc q => k c v ?_ q) (fun _ q => q) fun _ _ q => q
    rcases hc with z | z
    · rw [z]; exact nit b u e
    · exact nit c _ z
theorem Inv.tok (I : Inv X pins σ H s) (t : Nat) : Inv X pins σ H { s with toks := t } := I.un (h' := s.heap) (t' := t) Un.refl I.hok
/-- all objects kept -/
theorem Inv.kept {t' : Nat} (I : Inv X pins σ H s) (k : ∀ b u, s.heap.get? b = some u → h'.get? b = some u) : Inv X pins σ H { s with heap := h', toks := t' } := I.un (Un.kept k) (I.hok.kept k)
/-- a new object laid and tracked -/
theorem Inv.laid {a : Addr} {o : HO} {t' : Nat} (I : Inv X pins σ H s) (k : ∀ b u, s.heap.get? b = some u → h'.get? b = some u) (hp : s.heap.objs.size ≤ a) (new : ObjOk X.prog X.w (upd H a o) h' a o) :
    Inv X pins σ (upd H a o) { s with heap := h', toks := t' } := I.un (Un.laid k hp (I.hok.fresh hp)) (I.hok.laid k hp new)
/-- an object written -/
theorem Inv.write {x e : Addr} {o : HO} {t' : Nat} (I : Inv X pins σ H s) (mu : Mut (H x)) (he : e = x ∨ H e = some (.own x)) (k : ∀ b u, b ≠ e → s.heap.get? b = some u → h'.get? b = some u) (heo : ∃ u, h'.get? e = some u)
    (new : ObjOk X.prog X.w (upd H x o) h' x o) : Inv X pins σ (upd H x o) { s with heap := h', toks := t' } := I.un (Un.write mu he k heo) (I.hok.write mu he k heo new)
/-- forgetting slots, pins -/
theorem Inv.weak {σ' : List (Option V)} (I : Inv X pins σ H s) (hl : σ'.length = σ.length) (w : ∀ (i : Nat) v, σ'[i]? = some (some v) → σ[i]? = some (some v)) : Inv X pins σ' H s :=
  ⟨I.ok, I.os, I.bare, I.base, let ⟨m, hn, hl'⟩ := I.loc; ⟨m, hn, fun i x v e1 e2 e3 => hl' i x v e1 (w i v e2) e3⟩, I.cell, I.free, I.freeC, I.pin, I.hok, hl.trans I.len⟩
theorem Inv.pins_of {pins' : List (Addr × Obj)} (I : Inv X pins σ H s) (h : ∀ p ∈ pins', s.heap.get? p.1 = some p.2 ∧ H p.1 = none ∧ p.1 ≠ X.env.locals ∧ p.1 ∉ X.fs ∧ ∀ v, p.2.data ≠ .cell v) : Inv X pins' σ H s :=
  ⟨I.ok, I.os, I.bare, I.base, I.loc, I.cell, I.free, I.freeC, fun p hp => (List.mem_append.mp hp).elim (fun z => I.pin p (List.mem_append_left _ z)) (h p), I.hok, I.len⟩

theorem nodup_ix {N : List Str} (hN : N.Nodup) {i j : Nat} {x : Str} (a : N[i]? = some x) (b : N[j]? = some x) : i = j := by
  obtain ⟨h1, e1⟩ := List.getElem?_eq_some_iff.mp a
  obtain ⟨h2, e2⟩ := List.getElem?_eq_some_iff.mp b
  exact (List.getElem_inj hN).mp (e1.trans e2.symm)

/-- a name is stored; what changed -/
theorem store_ok2 {M : Model} {A : Around} {E : Value → Shared → Prop} {i : Nat} {x : Str} {v : V} {u : Value} {Q : Unit → Shared → Prop} (I : Inv X pins σ H s) (hN : X.N.Nodup) (hi : X.N[i]? = some x) (hx : Loc X.env.scope x) (r : RelV v u)
    (h : ∀ s', Inv X pins (σ.set i (some v)) H s' → (∃ a, Heap.SameBut a s.heap s'.heap ∧ (a = X.env.locals ∨ X.env.cells.lookup x = some a)) → Q () s') (hf : X.fn x = true ∨ X.env.scope.names.lookup x = some .local := by first | exact .inl rfl | exact .inr rfl | assumption) : wpAny M A (storeName X.env x u) Q E s := by
  obtain ⟨m, hn, hl⟩ := id I.loc
  have hcls : (X.env.scope.kind == .class || (X.env.scope.kind == .module && X.env.locals != X.env.globals)) = false := by rw [I.ok.kind]; rfl
  have hiσ : i < σ.length := by rw [I.len]; exact (List.getElem?_eq_some_iff.mp hi).1
  have cne := I.cne
  have tracked : ∀ {a : Addr} {h' : Heap}, (∃ o, s.heap.get? a = some o ∧ H a = none) → Heap.SameBut a s.heap h' → HOk X.prog X.w H h' := fun {a h'} ha hs b ob e => by
    obtain ⟨_, _, hfree⟩ := ha
    refine (I.hok b ob e).stay (fun c w' hc q => (hs.2 c ?_).trans q) (fun _ q => q) fun _ _ q => q
    rintro rfl
    rcases hc with rfl | hc
    · rw [hfree] at e; cases e
    · rw [hfree] at hc; cases hc
  rcases hx with hk | hk
  · refine wpAny_storeName_local hk hn (fun h' hn' hs => ?_) hcls
    obtain ⟨oL, _, _, hoL, _⟩ := id hn
    refine h _ ⟨I.ok, I.os, I.bare, ⟨fun b o e n hb hx => ?_, fun b o e n hb hx => ?_, I.base.free, fun b o e hx => ?_, I.base.tups, I.base.frzs, I.base.tbls⟩, ⟨_, hn', fun j y v' e1 e2 e3 => ?_⟩, fun y c e => ?_, I.free, I.freeC, fun p hp => ?_, tracked ⟨oL, hoL, I.free⟩ hs, by simpa using I.len⟩ ⟨_, hs, .inl rfl⟩
    · exact (hs.2 b (Nat.ne_of_lt (Nat.lt_of_lt_of_le (Heap.lt_size e) I.ok.above))).trans (I.base.keep b o e n hb hx)
    · obtain ⟨sl, e1⟩ := I.base.slot b o e n hb hx
      exact ⟨sl, (hs.2 b (Nat.ne_of_lt (Nat.lt_of_lt_of_le (Heap.lt_size e) I.ok.above))).trans e1⟩
    · obtain ⟨o', e1⟩ := I.base.there b o e hx
      exact ⟨o', (hs.2 b (Nat.ne_of_lt (Nat.lt_of_lt_of_le (Heap.lt_size e) I.ok.above))).trans e1⟩
    · by_cases hj : j = i
      · subst hj
        rw [hi] at e1; cases e1
        rw [List.getElem?_set_self hiσ] at e2
        cases e2
        exact ⟨u, r, .inl ⟨hk, by simp⟩⟩
      · rw [List.getElem?_set_ne (Ne.symm hj)] at e2
        obtain ⟨u', r', q⟩ := hl j y v' e1 e2 e3
        refine ⟨u', r', ?_⟩
        rcases q with ⟨k, e⟩ | ⟨k, c, e, z⟩
        · refine .inl ⟨k, ?_⟩
          have : y ≠ x := fun e => hj (nodup_ix hN e1 (e ▸ hi))
          simp [this, e]
        · exact .inr ⟨k, c, e, z.sameBut hs (cne y c e)⟩
    · obtain ⟨w', z⟩ := I.cell y c e
      exact ⟨w', z.sameBut hs (cne y c e)⟩
    · obtain ⟨e, n, ne, nf, d⟩ := I.pin p hp
      exact ⟨(hs.2 p.1 ne).trans e, n, ne, nf, d⟩
  · have hfn : X.fn x = true := by
      rcases hf with z | z
      · exact z
      · rw [z] at hk; cases hk
    obtain ⟨c, hc⟩ := I.ok.has x (.inl hk)
    obtain ⟨w', z⟩ := I.cell x c hc
    refine wpAny_storeName_cell I.ok.kind hk hc z (fun h' hc' hs => ?_)
    obtain ⟨oc, hoc, hocd⟩ := id z
    refine h { s with heap := h' } ⟨I.ok, I.os, I.bare, ⟨fun b o e n hb hx => ?_, fun b o e n hb hx => ?_, I.base.free, fun b o e hx => ?_, I.base.tups, I.base.frzs, I.base.tbls⟩, ⟨m, hn.sameBut hs (Ne.symm (cne x c hc)), fun j y v' e1 e2 e3 => ?_⟩, fun y c' e => ?_, I.free, I.freeC, fun p hp => ?_, tracked ⟨oc, hoc, I.freeC x c hc⟩ hs, by simpa using I.len⟩ ⟨c, hs, .inr hc⟩
    · exact (hs.2 b (Nat.ne_of_lt (Nat.lt_of_lt_of_le (Heap.lt_size e) (I.ok.cab x c hfn hc)))).trans (I.base.keep b o e n hb hx)
    · obtain ⟨sl, e1⟩ := I.base.slot b o e n hb hx
      exact ⟨sl, (hs.2 b (Nat.ne_of_lt (Nat.lt_of_lt_of_le (Heap.lt_size e) (I.ok.cab x c hfn hc)))).trans e1⟩
    · obtain ⟨o', e1⟩ := I.base.there b o e hx
      exact ⟨o', (hs.2 b (Nat.ne_of_lt (Nat.lt_of_lt_of_le (Heap.lt_size e) (I.ok.cab x c hfn hc)))).trans e1⟩
    · by_cases hj : j = i
      · subst hj
        rw [hi] at e1; cases e1
        rw [List.getElem?_set_self hiσ] at e2
        cases e2
        exact ⟨u, r, .inr ⟨.inl hk, c, hc, hc'⟩⟩
      · rw [List.getElem?_set_ne (Ne.symm hj)] at e2
        obtain ⟨u', r', q⟩ := hl j y v' e1 e2 e3
        refine ⟨u', r', ?_⟩
        rcases q with q | ⟨k, c', e, z'⟩
        · exact .inl q
        · refine .inr ⟨k, c', e, z'.sameBut hs ?_⟩
          rintro rfl
          exact hj (nodup_ix hN e1 (I.ok.inj _ _ _ e hc ▸ hi))
    · by_cases hcc : c' = c
      · subst hcc; exact ⟨_, hc'⟩
      · obtain ⟨w2, z2⟩ := I.cell y c' e
        exact ⟨w2, z2.sameBut hs hcc⟩
    · obtain ⟨e, n, ne, nf, d⟩ := I.pin p hp
      refine ⟨(hs.2 p.1 ?_).trans e, n, ne, nf, d⟩
      intro q
      rw [q, hoc] at e
      have q' : oc = p.2 := Option.some.inj e
      exact d w' (by rw [← q']; exact hocd)
theorem store_ok {M : Model} {A : Around} {E : Value → Shared → Prop} {i : Nat} {x : Str} {v : V} {u : Value} {Q : Unit → Shared → Prop} (I : Inv X pins σ H s) (hN : X.N.Nodup) (hi : X.N[i]? = some x) (hx : Loc X.env.scope x) (r : RelV v u)
    (h : ∀ s', Inv X pins (σ.set i (some v)) H s' → Q () s') (hf : X.fn x = true ∨ X.env.scope.names.lookup x = some .local := by first | exact .inl rfl | exact .inr rfl | assumption) : wpAny M A (storeName X.env x u) Q E s :=
  store_ok2 I hN hi hx r (fun s' I' _ => h s' I') hf
/-- behind a call or a block, the state as it is -/
theorem Inv.call' {s' : Shared} {ch : List Addr} (I : Inv X pins σ H s) (ho : s'.os = s.os) (u : Un (frs X.stack) ch H H' s.heap s'.heap) (hok : HOk X.prog X.w H' s'.heap) (hg : AllBare s'.gens)
    (hch : ∀ b ∈ ch, (b ∈ X.ex ∨ X.s₀.heap.objs.size ≤ b) ∧ b ≠ X.env.locals ∧ (∀ x c, X.env.cells.lookup x = some c → c ≠ b) ∧ ∀ p ∈ X.pn ++ pins, p.1 ≠ b) : Inv X pins σ H' s' := by
  obtain ⟨h', g', d', t', o'⟩ := s'
  have e : o' = s.os := ho
  subst e
  exact I.call (g' := g') (t' := t') (d' := d') u hok hg hch
end

/-! ### the judgements -/
/-- an exception: its class, its own dict's address (where it has one), the abstract heap behind it -/
abbrev XK := Value → Option Addr → Hp → Prop
abbrev St := List (Option V)
abbrev VK := V → Hp → Prop
/-- an expression's reading; a test's; an argument list's -/
abbrev TE := St → Hp → VK → Prop
abbrev TT := St → Hp → (Bool → Hp → Prop) → Prop
abbrev TA := St → Hp → (List V → Hp → Prop) → Prop
/-- what is wanted behind a statement -/
structure Ends where
  nx : St → Hp → Prop
  rt : VK
  bk : St → Hp → Prop := fun _ _ => False
  ct : St → Hp → Prop := fun _ _ => False
abbrev TS := Ends → St → Hp → Prop

def EP (X : Cx) (pins : List (Addr × Obj)) (σ : St) (Q : VK) (u : Value) (s' : Shared) : Prop := ∃ v H', Inv X pins σ H' s' ∧ RelV v u ∧ Q v H'
def TP (X : Cx) (pins : List (Addr × Obj)) (σ : St) (Q : Bool → Hp → Prop) (b : Bool) (s' : Shared) : Prop := ∃ H', Inv X pins σ H' s' ∧ Q b H'
def AP (X : Cx) (pins : List (Addr × Obj)) (σ : St) (Q : List V → Hp → Prop) (us : List Value) (s' : Shared) : Prop := ∃ vs H', Inv X pins σ H' s' ∧ Vals vs us ∧ Q vs H'
def SP (X : Cx) (pins : List (Addr × Obj)) (D : Ends) (f : Flow) (s' : Shared) : Prop :=
  match f with
  | .next => ∃ σ' H', Inv X pins σ' H' s' ∧ D.nx σ' H'
  | .brk => ∃ σ' H', Inv X pins σ' H' s' ∧ D.bk σ' H'
  | .cont => ∃ σ' H', Inv X pins σ' H' s' ∧ D.ct σ' H'
  | .ret u => ∃ v σ' H', Inv X pins σ' H' s' ∧ RelV v u ∧ D.rt v H'

def PE (X : Cx) (e : Expr) (t : TE) : Prop :=
  ∀ (pins : List (Addr × Obj)) (s : Shared) (σ : St) (H : Hp) (Q : VK), Inv X pins σ H s → t σ H Q → wpAny (model X.prog X.w) X.A (eval e X.env) (EP X pins σ Q) X.xe s
def PT (X : Cx) (e : Expr) (t : TT) : Prop :=
  ∀ (pins : List (Addr × Obj)) (s : Shared) (σ : St) (H : Hp) (Q : Bool → Hp → Prop), Inv X pins σ H s → t σ H Q → wpAny (model X.prog X.w) X.A (isTrue e X.env (eval e X.env)) (TP X pins σ Q) X.xe s
/-- a test whatever its 'whole' is (and, or) -/
def PW (X : Cx) (e : Expr) (t : TT) : Prop :=
  ∀ (whole : Sem Value) (pins : List (Addr × Obj)) (s : Shared) (σ : St) (H : Hp) (Q : Bool → Hp → Prop), Inv X pins σ H s → t σ H Q → wpAny (model X.prog X.w) X.A (isTrue e X.env whole) (TP X pins σ Q) X.xe s
theorem PW.pt {X : Cx} {e : Expr} {t : TT} (h : PW X e t) : PT X e t := h _
/-- an argument list (no star), from the left -/
def PA (X : Cx) (es : List Expr) (t : TA) : Prop :=
  ∀ (pos : Pos) (pins : List (Addr × Obj)) (s : Shared) (σ : St) (H : Hp) (Q : List V → Hp → Prop), Inv X pins σ H s → t σ H Q → wpAny (model X.prog X.w) X.A (spliced (backTo pos (starEach es X.env))) (AP X pins σ Q) X.xe s
def PS (X : Cx) (st : Stmt) (t : TS) : Prop :=
  ∀ (pins : List (Addr × Obj)) (s : Shared) (σ : St) (H : Hp) (D : Ends), Inv X pins σ H s → t D σ H → wpAny (model X.prog X.w) X.A (exec st X.env) (SP X pins D) X.xe s
def PSs (X : Cx) (st : List Stmt) (t : TS) : Prop :=
  ∀ (pins : List (Addr × Obj)) (s : Shared) (σ : St) (H : Hp) (D : Ends), Inv X pins σ H s → t D σ H → wpAny (model X.prog X.w) X.A (execs st X.env) (SP X pins D) X.xe s
/-- weaken the end -/
theorem thn {α : Type} {t : Sem α} {Q Q' : α → Shared → Prop} {M : Model} {A : Around} {E : Value → Shared → Prop} {s : Shared} (h : wpAny M A t Q E s) (hQ : ∀ a s, Q a s → Q' a s) : wpAny M A t Q' E s := wpAny_mono h hQ fun _ _ x => x
end L2

namespace L2
open PySem PySem.Spec PyProof.Rows
section
variable {X : Cx}

/-- two expressions in a row -/
theorem bin {a b : Expr} {ta tb : TE} (ha : PE X a ta) (hb : PE X b tb) {pins : List (Addr × Obj)} {s : Shared} {σ : St} {H : Hp} {R : V → V → Hp → Prop} (I : Inv X pins σ H s) (h : ta σ H fun x H1 => tb σ H1 fun y H2 => R x y H2)
    {α : Type} {Q : α → Shared → Prop} {f : Value → Value → Sem α}
    (hf : ∀ v u s2 x y H2, Inv X pins σ H2 s2 → RelV x v → RelV y u → R x y H2 → wpAny (model X.prog X.w) X.A (f v u) Q X.xe s2) :
    wpAny (model X.prog X.w) X.A (eval a X.env) (fun v s₁ => wpAny (model X.prog X.w) X.A (eval b X.env) (fun u s₂ => wpAny (model X.prog X.w) X.A (f v u) Q X.xe s₂) X.xe s₁) X.xe s := by
  refine thn (ha pins s σ H _ I h) fun v s1 ⟨x, H1, I1, r1, q1⟩ => ?_
  refine thn (hb pins s1 σ H1 _ I1 q1) fun u s2 ⟨y, H2, I2, r2, q2⟩ => ?_
  exact hf v u s2 x y H2 I2 r1 r2 q2

/-! ### names and constants -/
def tVar (i : Nat) : TE := fun σ H Q => ∃ v, σ[i]? = some (some v) ∧ Q v H
def tC (v : V) : TE := fun _ H Q => Q v H
theorem pe_var {i : Nat} {x : Str} {pos : Pos} (hN : X.N[i]? = some x) (hv : Vis X.env.scope x) (hd : (x == ("__debug__" : Str)) = false := by decide) (hcd : (x == ("__classdict__" : Str)) = false := by decide) : PE X (.Name x pos) (tVar i) := by
  intro pins s σ H Q I h
  obtain ⟨v, e, h⟩ := h
  obtain ⟨m, hn, hl⟩ := I.loc
  obtain ⟨u, r, l⟩ := hl i x v hN e hv
  have fin : EP X pins σ Q u s := ⟨v, H, I, r, h⟩
  rcases l with ⟨hk, hm⟩ | ⟨hk, c, hc, hcell⟩
  · exact wpAny_Name (wpAny_loadName_local I.ok.kind hk hn hm fin) hd
  · rcases hk with hk | hk
    · exact wpAny_Name (wpAny_loadName_cell I.ok.kind hk hc hcell fin) hd
    · exact wpAny_Name (wpAny_loadName_free I.ok.kind hk hc hcell fin hcd) hd
theorem pe_int {i j pos} : PE X (.Constant (.int i) j pos) (tC (.int i)) := fun _ _ _ H _ I h => wpAny_Constant_int ⟨.int i, H, I.tok _, ⟨_, rfl⟩, h⟩
theorem pe_bl {b j pos} : PE X (.Constant (.bool b) j pos) (tC (.bl b)) := fun _ _ _ H _ I h => Constant_bool ⟨.bl b, H, I, rfl, h⟩
theorem pe_non {j pos} : PE X (.Constant .none j pos) (tC .non) := fun _ _ _ H _ I h => Constant_none ⟨.non, H, I, rfl, h⟩
theorem pe_str {x j pos} : PE X (.Constant (.str x) j pos) (tC (.str x)) := fun _ _ _ H _ I h => Calls.Constant_str ⟨.str x, H, I.tok _, ⟨_, rfl⟩, h⟩

/-- a global name of the def -/
def Gl (X : Cx) (x : Str) : Prop := X.env.kindOf x = some .globalImplicit
theorem ld_glob {E : Value → Shared → Prop} {pins : List (Addr × Obj)} {s : Shared} {σ : St} {H : Hp} {x : Str} {u : Value} {pos : Pos} {Q : Value → Shared → Prop} (I : Inv X pins σ H s) (hg : Gl X x) (hm : X.mg x = some u) (h : Q u s)
    (hd : (x == ("__debug__" : Str)) = false := by decide) : wpAny (model X.prog X.w) X.A (eval (.Name x pos) X.env) Q E s :=
  Calls.Name_function_global I.ok.kind hg (Calls.loadGlobal_global (by rw [I.ok.glob]; exact I.mod.glob.keeps I.bk) hm h) hd
theorem ld_blt {E : Value → Shared → Prop} {pins : List (Addr × Obj)} {s : Shared} {σ : St} {H : Hp} {x : Str} {u : Value} {pos : Pos} {Q : Value → Shared → Prop} (I : Inv X pins σ H s) (hg : Gl X x) (hm : X.mg x = none) (hv : bootBuiltins x = some u) (h : Q u s)
    (hn : x ≠ "__name__" := by decide) (hd : (x == ("__debug__" : Str)) = false := by decide) : wpAny (model X.prog X.w) X.A (eval (.Name x pos) X.env) Q E s := by
  obtain ⟨mb, h1, h2⟩ := I.mod.blt
  exact Calls.Name_function_global I.ok.kind hg (Calls.loadGlobal_builtin (by rw [I.ok.glob]; exact I.mod.glob.keeps I.bk) hm (by rw [I.ok.blt]; exact h1.keeps I.bk) ((h2 x hn).trans hv) h) hd
/-- a module's constant, a class, a function, as a value -/
theorem pe_glob {x : Str} {v : V} {u : Value} {pos : Pos} (hg : Gl X x) (hm : X.mg x = some u) (r : RelV v u) (hd : (x == ("__debug__" : Str)) = false := by decide) : PE X (.Name x pos) (tC v) :=
  fun _ _ _ H _ I h => ld_glob I hg hm ⟨v, H, I, r, h⟩ hd
theorem pe_bltn {x : Str} {v : V} {u : Value} {pos : Pos} (hg : Gl X x) (hm : X.mg x = none) (hv : bootBuiltins x = some u) (r : RelV v u) (hn : x ≠ "__name__" := by decide) (hd : (x == ("__debug__" : Str)) = false := by decide) : PE X (.Name x pos) (tC v) :=
  fun _ _ _ H _ I h => ld_blt I hg hm hv ⟨v, H, I, r, h⟩ hn hd

/-! ### arithmetic -/
/-- two ints -/
def t2I (ta tb : TE) (k : Int → Int → Hp → Prop) : St → Hp → Prop := fun σ H => ta σ H fun x H1 => tb σ H1 fun y H2 => ∃ i j, x = .int i ∧ y = .int j ∧ k i j H2
def tAdd (ta tb : TE) : TE := fun σ H Q => t2I ta tb (fun i j H2 => Q (.int (i + j)) H2) σ H
def tSub (ta tb : TE) : TE := fun σ H Q => t2I ta tb (fun i j H2 => Q (.int (i - j)) H2) σ H
/-- the left factor below 2^64 -/
def tMul (ta tb : TE) : TE := fun σ H Q => t2I ta tb (fun i j H2 => (-(2 ^ 64) < i ∧ i < 2 ^ 64) ∧ Q (.int (i * j)) H2) σ H
variable {a b : Expr} {ta tb : TE} {pos : Pos}
theorem pe_add (ha : PE X a ta) (hb : PE X b tb) : PE X (.BinOp a .Add b pos) (tAdd ta tb) := by
  intro pins s σ H Q I h
  refine wpAny_BinOp (bin ha hb I h fun v u s2 x y H2 I2 rx ry q => ?_)
  obtain ⟨i, j, rfl, rfl, q⟩ := q
  obtain ⟨t, rfl⟩ := rx
  obtain ⟨t', rfl⟩ := ry
  exact add_int ⟨.int _, H2, I2.tok _, ⟨_, rfl⟩, q⟩
theorem pe_sub (ha : PE X a ta) (hb : PE X b tb) : PE X (.BinOp a .Sub b pos) (tSub ta tb) := by
  intro pins s σ H Q I h
  refine wpAny_BinOp (bin ha hb I h fun v u s2 x y H2 I2 rx ry q => ?_)
  obtain ⟨i, j, rfl, rfl, q⟩ := q
  obtain ⟨t, rfl⟩ := rx
  obtain ⟨t', rfl⟩ := ry
  exact sub_int ⟨.int _, H2, I2.tok _, ⟨_, rfl⟩, q⟩
theorem pe_mul (ha : PE X a ta) (hb : PE X b tb) : PE X (.BinOp a .Mult b pos) (tMul ta tb) := by
  intro pins s σ H Q I h
  refine wpAny_BinOp (bin ha hb I h fun v u s2 x y H2 I2 rx ry q => ?_)
  obtain ⟨i, j, rfl, rfl, ⟨q1, q2⟩, q⟩ := q
  obtain ⟨t, rfl⟩ := rx
  obtain ⟨t', rfl⟩ := ry
  exact mul_int ⟨.int _, H2, I2.tok _, ⟨_, rfl⟩, q⟩ (.of_left (intBits_le_64 q1 q2))

/-! ### comparisons -/
def PC (X : Cx) (op : CmpOp) (a b : Expr) (t : TE) : Prop :=
  ∀ (pins : List (Addr × Obj)) (s : Shared) (σ : St) (H : Hp) (Q : VK), Inv X pins σ H s → t σ H Q →
    wpAny (model X.prog X.w) X.A (eval a X.env) (fun v s₁ => wpAny (model X.prog X.w) X.A (eval b X.env) (fun u s₂ => wpAny (model X.prog X.w) X.A (compareOp op v u) (EP X pins σ Q) X.xe s₂) X.xe s₁) X.xe s
theorem nobehind (b : Expr) {op : CmpOp} (h : op ≠ .In) (h2 : op ≠ .NotIn) : behindInMarks op b = false := by
  have e1 : (op == CmpOp.In) = false := by cases op <;> first | rfl | exact absurd rfl h
  have e2 : (op == CmpOp.NotIn) = false := by cases op <;> first | rfl | exact absurd rfl h2
  cases b <;> simp [behindInMarks, e1, e2]
def tCmp (p : Int → Int → Bool) (ta tb : TE) : TE := fun σ H Q => t2I ta tb (fun i j H2 => Q (.bl (p i j)) H2) σ H
abbrev tLt : TE → TE → TE := tCmp fun i j => decide (i < j)
abbrev tLe : TE → TE → TE := tCmp fun i j => decide (i ≤ j)
abbrev tGt : TE → TE → TE := tCmp fun i j => decide (j < i)
abbrev tGe : TE → TE → TE := tCmp fun i j => decide (j ≤ i)
abbrev tEqI : TE → TE → TE := tCmp fun i j => decide (i = j)
abbrev tNeI : TE → TE → TE := tCmp fun i j => !decide (i = j)
/-- a comparison of two ints, by its rule -/
theorem pc_int {op : CmpOp} {p : Int → Int → Bool} (ha : PE X a ta) (hb : PE X b tb)
    (rule : ∀ (i j : Int) (t u : Tok) (Q : Value → Shared → Prop) (s : Shared), Q (.bool (p i j)) s → wpAny (model X.prog X.w) X.A (compareOp op (.int i t) (.int j u)) Q X.xe s) : PC X op a b (tCmp p ta tb) := by
  intro pins s σ H Q I h
  refine bin ha hb I h fun v u s2 x y H2 I2 rx ry q => ?_
  obtain ⟨i, j, rfl, rfl, q⟩ := q
  obtain ⟨t, rfl⟩ := rx
  obtain ⟨t', rfl⟩ := ry
  exact rule i j t t' _ s2 ⟨.bl _, H2, I2, rfl, q⟩
theorem pc_lt (ha : PE X a ta) (hb : PE X b tb) : PC X .Lt a b (tLt ta tb) := pc_int ha hb fun _ _ _ _ _ _ h => lt_int h
theorem pc_le (ha : PE X a ta) (hb : PE X b tb) : PC X .LtE a b (tLe ta tb) := pc_int ha hb fun _ _ _ _ _ _ h => le_int h
theorem pc_gt (ha : PE X a ta) (hb : PE X b tb) : PC X .Gt a b (tGt ta tb) := pc_int ha hb fun _ _ _ _ _ _ h => gt_int h
theorem pc_ge (ha : PE X a ta) (hb : PE X b tb) : PC X .GtE a b (tGe ta tb) := pc_int ha hb fun _ _ _ _ _ _ h => ge_int h
theorem pc_eqI (ha : PE X a ta) (hb : PE X b tb) : PC X .Eq a b (tEqI ta tb) := pc_int ha hb fun _ _ _ _ _ _ h => eq_int (by rw [Bool.beq_eq_decide_eq]; exact h)
theorem pc_neI (ha : PE X a ta) (hb : PE X b tb) : PC X .NotEq a b (tNeI ta tb) := pc_int ha hb fun _ _ _ _ _ _ h => ne_int (by rw [bne, Bool.beq_eq_decide_eq]; exact h)
/-- is None -/
def tIsN (ta : TE) : TE := fun σ H Q => ta σ H fun x H1 => Q (.bl (decide (x = .non))) H1
def tNotN (ta : TE) : TE := fun σ H Q => ta σ H fun x H1 => Q (.bl (!decide (x = .non))) H1
theorem RelV.none_iff {x : V} {v : Value} (r : RelV x v) : (v == Value.none) = decide (x = .non) := by
  cases x with
  | non => cases r; rfl
  | bl _ => cases r; rfl
  | int _ => obtain ⟨t, rfl⟩ := r; rfl
  | str _ => obtain ⟨t, rfl⟩ := r; rfl
  | byt _ => obtain ⟨t, rfl⟩ := r; rfl
  | flt _ => obtain ⟨t, rfl⟩ := r; rfl
  | ref _ => cases r; rfl
  | ty _ => cases r; rfl
theorem pc_isN {j pos'} (ha : PE X a ta) : PC X .Is a (.Constant .none j pos') (tIsN ta) := by
  intro pins s σ H Q I h
  refine thn (ha pins s σ H _ I h) fun v s1 ⟨x, H1, I1, r1, q1⟩ => ?_
  exact Constant_none (is_none_gen ⟨.bl _, H1, I1, by rw [r1.none_iff]; rfl, q1⟩)
theorem pc_notN {j pos'} (ha : PE X a ta) : PC X .IsNot a (.Constant .none j pos') (tNotN ta) := by
  intro pins s σ H Q I h
  refine thn (ha pins s σ H _ I h) fun v s1 ⟨x, H1, I1, r1, q1⟩ => ?_
  exact Constant_none (isnot_none_gen ⟨.bl _, H1, I1, by rw [r1.none_iff]; rfl, q1⟩)
/-- a comparison as a value, as a test -/
def tB (t : TE) : TT := fun σ H Q => t σ H fun x H1 => ∃ c, x = .bl c ∧ Q c H1
theorem pe_cmp {op : CmpOp} {t : TE} (h : PC X op a b t) (h1 : behindInMarks op b = false := by first | exact nobehind _ (by decide) (by decide) | rfl) : PE X (.Compare a [op] [b] pos) t := fun pins s σ H Q I hw => wpAny_Compare1 (h pins s σ H Q I hw) h1
theorem pt_cmp {op : CmpOp} {t : TE} (h : PC X op a b t) (h1 : behindInMarks op b = false := by first | exact nobehind _ (by decide) (by decide) | rfl) : PT X (.Compare a [op] [b] pos) (tB t) := by
  intro pins s σ H Q I hw
  refine wpAny_isTrue_Compare1 (thn (h pins s σ H _ I hw) fun v s1 h1 => thn h1 fun u s2 h2 => thn h2 fun c s3 ⟨x, H1, I1, r1, q1⟩ => ?_) h1
  obtain ⟨d, rfl, q⟩ := q1
  cases r1
  exact wpAny_truthy_bool ⟨H1, I1, q⟩
/-- an expression whose value is a bool, as a test -/
theorem pt_val {e : Expr} {t : TE} (h : PE X e t) (he : ∀ whole, isTrue e X.env whole = (do let v ← whole; standAt e.pos; holding [v] (truthy v)) := by intro _; rfl) : PT X e (tB t) := by
  intro pins s σ H Q I hw
  refine isTrue_plain (thn (h pins s σ H _ I hw) fun v s1 ⟨x, H1, I1, r1, q1⟩ => ?_) (he _)
  obtain ⟨d, rfl, q⟩ := q1
  cases r1
  exact wpAny_truthy_bool ⟨H1, I1, q⟩

/-! ### and, or, not -/
variable {tA tB' : TT} {rest : List Expr}
def tAnd (t u : TT) : TT := fun σ H Q => t σ H fun c H1 => if c = true then u σ H1 Q else Q false H1
def tOr (t u : TT) : TT := fun σ H Q => t σ H fun c H1 => if c = true then Q true H1 else u σ H1 Q
def tNot (t : TT) : TT := fun σ H Q => t σ H fun c H1 => Q (!c) H1
theorem pw_and1 (ha : PT X a tA) : PW X (.BoolOp .And [a] pos) tA := by
  intro wh pins s σ H Q I h
  refine isTrue_and (thn (ha pins s σ H Q I h) fun c s1 e => ?_)
  cases c with
  | true => exact isTrue_and_nil e
  | false => exact e
theorem pw_or1 (ha : PT X a tA) : PW X (.BoolOp .Or [a] pos) tA := by
  intro wh pins s σ H Q I h
  refine isTrue_or (thn (ha pins s σ H Q I h) fun c s1 e => ?_)
  cases c with
  | false => exact isTrue_or_nil e
  | true => exact e
theorem pw_and (ha : PT X a tA) (hb : PW X (.BoolOp .And (b :: rest) pos) tB') : PW X (.BoolOp .And (a :: b :: rest) pos) (tAnd tA tB') := by
  intro wh pins s σ H Q I h
  refine isTrue_and (thn (ha pins s σ H _ I h) fun c s1 ⟨H1, I1, q1⟩ => ?_)
  cases c with
  | true => exact hb wh pins s1 σ H1 Q I1 q1
  | false => exact ⟨H1, I1, q1⟩
theorem pw_or (ha : PT X a tA) (hb : PW X (.BoolOp .Or (b :: rest) pos) tB') : PW X (.BoolOp .Or (a :: b :: rest) pos) (tOr tA tB') := by
  intro wh pins s σ H Q I h
  refine isTrue_or (thn (ha pins s σ H _ I h) fun c s1 ⟨H1, I1, q1⟩ => ?_)
  cases c with
  | true => exact ⟨H1, I1, q1⟩
  | false => exact hb wh pins s1 σ H1 Q I1 q1
theorem pt_not (ha : PT X a tA) : PT X (.UnaryOp .Not a pos) (tNot tA) := by
  intro pins s σ H Q I h
  exact isTrue_not (ha pins s σ H (fun c H1 => Q (!c) H1) I h)
/-- .. as values (bools) -/
def tAndV (ta tb : TE) : TE := fun σ H Q => ta σ H fun x H1 => ∃ c, x = .bl c ∧ if c = true then tb σ H1 Q else Q (.bl false) H1
def tOrV (ta tb : TE) : TE := fun σ H Q => ta σ H fun x H1 => ∃ c, x = .bl c ∧ if c = true then Q (.bl true) H1 else tb σ H1 Q
def tNotV (ta : TE) : TE := fun σ H Q => ta σ H fun x H1 => ∃ c, x = .bl c ∧ Q (.bl (!c)) H1
theorem pe_one {op} {t : TE} (h : PE X a t) : PE X (.BoolOp op [a] pos) t := fun pins s σ H Q I hw => BoolOp_one (h pins s σ H Q I hw)
theorem pe_and (ha : PE X a ta) (hb : PE X (.BoolOp .And (b :: rest) pos) tb) : PE X (.BoolOp .And (a :: b :: rest) pos) (tAndV ta tb) := by
  intro pins s σ H Q I h
  refine BoolOp_and (thn (ha pins s σ H _ I h) fun v s1 ⟨x, H1, I1, r1, q1⟩ => ?_)
  obtain ⟨c, rfl, q1⟩ := q1
  cases r1
  refine wpAny_truthy_bool ?_
  cases c with
  | true => exact hb pins s1 σ H1 Q I1 q1
  | false => exact ⟨.bl false, H1, I1, rfl, q1⟩
theorem pe_or (ha : PE X a ta) (hb : PE X (.BoolOp .Or (b :: rest) pos) tb) : PE X (.BoolOp .Or (a :: b :: rest) pos) (tOrV ta tb) := by
  intro pins s σ H Q I h
  refine BoolOp_or (thn (ha pins s σ H _ I h) fun v s1 ⟨x, H1, I1, r1, q1⟩ => ?_)
  obtain ⟨c, rfl, q1⟩ := q1
  cases r1
  refine wpAny_truthy_bool ?_
  cases c with
  | false => exact hb pins s1 σ H1 Q I1 q1
  | true => exact ⟨.bl true, H1, I1, rfl, q1⟩
theorem pe_not (ha : PE X a ta) : PE X (.UnaryOp .Not a pos) (tNotV ta) := by
  intro pins s σ H Q I h
  refine UnaryOp_ (thn (ha pins s σ H _ I h) fun v s1 ⟨x, H1, I1, r1, q1⟩ => ?_)
  obtain ⟨c, rfl, q1⟩ := q1
  cases r1
  exact not_of (wpAny_truthy_bool ⟨.bl (!c), H1, I1, rfl, q1⟩)
/-- a if t else b -/
def tIf (t : TT) (ta tb : TE) : TE := fun σ H Q => t σ H fun c H1 => if c = true then ta σ H1 Q else tb σ H1 Q
theorem pe_ifExp {c : Expr} (hc : PT X c tA) (ha : PE X a ta) (hb : PE X b tb) : PE X (.IfExp c a b pos) (tIf tA ta tb) := by
  intro pins s σ H Q I h
  refine wpAny_IfExp (thn (hc pins s σ H _ I h) fun d s1 ⟨H1, I1, q1⟩ => ?_)
  cases d with
  | true => exact ha pins s1 σ H1 Q I1 q1
  | false => exact hb pins s1 σ H1 Q I1 q1
end
end L2

namespace L2
open PySem PySem.Spec PyProof.Rows

/-! ### a list, a tuple that is read: tracked, frozen, or an object of the module -/
def SqL (K : PySem.W.Frag) (H : Hp) (a : Addr) (xs : List V) : Prop :=
  Rd H a (.lst xs) ∨
    ∃ (o : Obj) (its : Array Value) (n : Nat), K.lookup a = some o ∧ o.cls = .type "list" ∧ o.dict = none ∧ o.data = .seq its n ∧ its.size ≤ sizeLine ∧ Vals xs its.toList
def SqT (K : PySem.W.Frag) (H : Hp) (a : Addr) (xs : List V) : Prop :=
  Rd H a (.tup xs) ∨
    ∃ (o : Obj) (its : Array Value) (n : Nat), K.lookup a = some o ∧ o.cls = .type "tuple" ∧ o.data = .seq its n ∧ its.size ≤ sizeLine ∧ Vals xs its.toList
def absV : Value → Option V
  | .none => some .non
  | .bool b => some (.bl b)
  | .int i _ => some (.int i)
  | .str x _ => some (.str x)
  | .bytes b _ => some (.byt b)
  | .float b _ => some (.flt b)
  | .ref a => some (.ref a)
  | .type n => some (.ty n)
  | _ => none
theorem RelV.abs {x : V} {u : Value} (r : RelV x u) : absV u = some x := by
  cases x with
  | non => cases r; rfl
  | bl _ => cases r; rfl
  | int _ => obtain ⟨t, rfl⟩ := r; rfl
  | str _ => obtain ⟨t, rfl⟩ := r; rfl
  | byt _ => obtain ⟨t, rfl⟩ := r; rfl
  | flt _ => obtain ⟨t, rfl⟩ := r; rfl
  | ref _ => cases r; rfl
  | ty _ => cases r; rfl
theorem RelV.inj {x y : V} {u : Value} (r : RelV x u) (q : RelV y u) : x = y := Option.some.inj (r.abs.symm.trans q.abs)
theorem Vals.inj : ∀ {xs ys : List V} {us : List Value}, Vals xs us → Vals ys us → xs = ys
  | _, _, _, .nil, .nil => rfl
  | _, _, _, .cons r t, .cons r' t' => by rw [r.inj r', Vals.inj t t']
section
variable {X : Cx} {pins : List (Addr × Obj)} {σ : St} {H : Hp} {s : Shared} {a : Addr} {xs ys : List V}
theorem SqL.of {K : PySem.W.Frag} (h : H a = some (.lst xs)) : SqL K H a xs := .inl (.inl h)
theorem SqT.of {K : PySem.W.Frag} (h : H a = some (.tup xs)) : SqT K H a xs := .inl (.inl h)
theorem Inv.list (I : Inv X pins σ H s) (h : SqL X.K H a xs) : ∃ its : List Value, Vals xs its ∧ PlainL s.heap a its.toArray ∧ xs.length ≤ sizeLine := by
  rcases h with h | ⟨o, its, n, hk, hc, hd, hs, hz, r⟩
  · obtain ⟨z, its, n, r, e⟩ := h.ok I.hok
    exact ⟨its, r, ⟨_, n, e, rfl, rfl, rfl⟩, z⟩
  · refine ⟨its.toList, r, ⟨o, n, I.kIn a o hk, hc, hd, by simpa using hs⟩, ?_⟩
    have e := r.length
    simp only [Array.length_toList] at e
    omega
theorem Inv.tuple (I : Inv X pins σ H s) (h : SqT X.K H a xs) : ∃ its : List Value, Vals xs its ∧ IsTup s.heap a its.toArray ∧ xs.length ≤ sizeLine := by
  rcases h with h | ⟨o, its, n, hk, hc, hs, hz, r⟩
  · obtain ⟨z, its, r, p⟩ := h.ok I.hok
    exact ⟨its, r, p, z⟩
  · refine ⟨its.toList, r, ⟨o, I.kIn a o hk, hc, n, by simpa using hs⟩, ?_⟩
    have e := r.length
    simp only [Array.length_toList] at e
    omega
theorem Inv.list_inj (I : Inv X pins σ H s) (h : SqL X.K H a xs) (h' : SqL X.K H a ys) : xs = ys := by
  obtain ⟨its, r, ⟨o, n, e, _, _, d⟩, _⟩ := I.list h
  obtain ⟨its', r', ⟨o', n', e', _, _, d'⟩, _⟩ := I.list h'
  rw [e] at e'; cases e'
  rw [d] at d'
  injection d' with d1 _
  have : its = its' := by simpa using congrArg Array.toList d1
  subst this
  exact r.inj r'
theorem Inv.tuple_inj (I : Inv X pins σ H s) (h : SqT X.K H a xs) (h' : SqT X.K H a ys) : xs = ys := by
  obtain ⟨its, r, ⟨o, e, _, n, d⟩, _⟩ := I.tuple h
  obtain ⟨its', r', ⟨o', e', _, n', d'⟩, _⟩ := I.tuple h'
  rw [e] at e'; cases e'
  rw [d] at d'
  injection d' with d1 _
  have : its = its' := by simpa using congrArg Array.toList d1
  subst this
  exact r.inj r'
end

/-! ### another wish about exceptions -/
abbrev Cx.wish (X : Cx) (E : Value → Shared → Prop) : Cx := { X with xe := E }
/-- no exception leaves -/
abbrev Cx.nox (X : Cx) : Cx := X.wish fun _ _ => False
theorem Cx.Ok.wish {X : Cx} (ok : X.Ok) (E : Value → Shared → Prop) : (X.wish E).Ok :=
  ⟨ok.mod, ok.kind, ok.glob, ok.blt, ok.above, ok.inj, ok.has, ok.cab, ok.hd, ok.frames, ok.stk, ok.exf, ok.bs, ok.bsz, ok.noex, ok.exfs, ok.funs, ok.frf⟩
theorem Cx.Ok.unwish {X : Cx} {E : Value → Shared → Prop} (ok : (X.wish E).Ok) : X.Ok :=
  ⟨ok.mod, ok.kind, ok.glob, ok.blt, ok.above, ok.inj, ok.has, ok.cab, ok.hd, ok.frames, ok.stk, ok.exf, ok.bs, ok.bsz, ok.noex, ok.exfs, ok.funs, ok.frf⟩
section
variable {X : Cx} {pins : List (Addr × Obj)} {σ : St} {H : Hp} {s : Shared} {E : Value → Shared → Prop}
theorem Inv.wish (I : Inv X pins σ H s) (E : Value → Shared → Prop) : Inv (X.wish E) pins σ H s := ⟨I.ok.wish E, I.os, I.bare, I.base, I.loc, I.cell, I.free, I.freeC, I.pin, I.hok, I.len⟩
theorem Inv.unwish (I : Inv (X.wish E) pins σ H s) : Inv X pins σ H s := ⟨I.ok.unwish, I.os, I.bare, I.base, I.loc, I.cell, I.free, I.freeC, I.pin, I.hok, I.len⟩
theorem SP.unwish {D : Ends} {f : Flow} {s' : Shared} (h : SP (X.wish E) pins D f s') : SP X pins D f s' := by
  cases f with
  | next => obtain ⟨σ', H', I, q⟩ := h; exact ⟨σ', H', I.unwish, q⟩
  | brk => obtain ⟨σ', H', I, q⟩ := h; exact ⟨σ', H', I.unwish, q⟩
  | cont => obtain ⟨σ', H', I, q⟩ := h; exact ⟨σ', H', I.unwish, q⟩
  | ret u => obtain ⟨v, σ', H', I, r, q⟩ := h; exact ⟨v, σ', H', I.unwish, r, q⟩
theorem PE.nox {e : Expr} {t : TE} (h : PE X.nox e t) : PE X e t := fun pins s σ H Q I hw =>
  wpAny_mono (h pins s σ H Q (I.wish _) hw) (fun _ _ ⟨v, H', I', r, q⟩ => ⟨v, H', I'.unwish, r, q⟩) fun _ _ z => False.elim z
theorem PT.nox {e : Expr} {t : TT} (h : PT X.nox e t) : PT X e t := fun pins s σ H Q I hw =>
  wpAny_mono (h pins s σ H Q (I.wish _) hw) (fun _ _ ⟨H', I', q⟩ => ⟨H', I'.unwish, q⟩) fun _ _ z => False.elim z
theorem PSs.nox {st : List Stmt} {t : TS} (h : PSs X.nox st t) : PSs X st t := fun pins s σ H D I hw =>
  wpAny_mono (h pins s σ H D (I.wish _) hw) (fun _ _ q => q.unwish) fun _ _ z => False.elim z
end

/-! ### blocks and small statements -/
section
variable {X : Cx} {st : Stmt} {rest : List Stmt} {t u : TS} {e : Expr} {te : TE} {pos : Pos}
def tNext : TS := fun D σ H => D.nx σ H
def tSeq (t u : TS) : TS := fun D σ H => t { D with nx := u D } σ H
theorem pss_nil : PSs X [] tNext := fun _ _ σ H _ I h => wpAny_execs_nil ⟨σ, H, I, h⟩
theorem pss_cons (h1 : PS X st t) (h2 : PSs X rest u) : PSs X (st :: rest) (tSeq t u) := by
  intro pins s σ H D I h
  refine wpAny_execs_cons (thn (h1 pins s σ H { D with nx := u D } I h) fun f s1 q => ?_)
  cases f with
  | next =>
    obtain ⟨σ', H', I', q⟩ := q
    exact h2 pins s1 σ' H' D I' q
  | ret v => exact q
  | brk => exact q
  | cont => exact q
theorem pss_one (h1 : PS X st t) : PSs X [st] t := by
  intro pins s σ H D I h
  refine wpAny_execs_cons (thn (h1 pins s σ H D I h) fun f s1 q => ?_)
  cases f with
  | next => exact wpAny_execs_nil q
  | ret v => exact q
  | brk => exact q
  | cont => exact q
def tBreak : TS := fun D σ H => D.bk σ H
def tCont : TS := fun D σ H => D.ct σ H
theorem ps_pass : PS X (.Pass pos) tNext := fun _ _ σ H _ I h => wpAny_Pass ⟨σ, H, I, h⟩
theorem ps_break : PS X (.Break pos) tBreak := fun _ _ σ H _ I h => wpAny_Break ⟨σ, H, I, h⟩
theorem ps_continue : PS X (.Continue pos) tCont := fun _ _ σ H _ I h => wpAny_Continue ⟨σ, H, I, h⟩
/-- in a def's body nothing is shown -/
theorem Inv.quiet {pins : List (Addr × Obj)} {σ : St} {H : Hp} {s : Shared} (I : Inv X pins σ H s) : interactive X.env = false := by simp [interactive, I.ok.kind]
/-- a docstring -/
theorem ps_doc {x j pos pos'} : PS X (.Expr (.Constant (.str x) j pos) pos') tNext := fun _ s σ H _ I h => wpAny_Expr (Calls.Constant_str (show SP X _ _ .next { s with toks := s.toks + 1 } from ⟨σ, H, I.tok _, h⟩)) I.quiet
/-- an expression whose value is dropped -/
def tDrop (te : TE) : TS := fun D σ H => te σ H fun _ H1 => D.nx σ H1
theorem ps_expr (he : PE X e te) (hs : swapsWith e none pos.line X.env = pure false := by rfl) : PS X (.Expr e pos) (tDrop te) := by
  intro pins s σ H D I h
  exact wpAny_Expr_any (thn (he pins s σ H _ I h) fun v s1 ⟨x, H1, I1, r1, q1⟩ => ⟨σ, H1, I1, q1⟩) I.quiet hs
def tRet (te : TE) : TS := fun D σ H => te σ H D.rt
theorem ps_ret (he : PE X e te) : PS X (.Return (some e) pos) (tRet te) := by
  intro pins s σ H D I h
  exact wpAny_Return_some (thn (he pins s σ H _ I h) fun v s1 ⟨x, H1, I1, r1, q1⟩ => ⟨x, σ, H1, I1, r1, q1⟩)
def tRetN : TS := fun D _ H => D.rt .non H
theorem ps_retN : PS X (.Return none pos) tRetN := fun _ _ σ H _ I h => wpAny_Return_none ⟨.non, σ, H, I, rfl, h⟩
def tIfS (c : TT) (t u : TS) : TS := fun D σ H => c σ H fun b H1 => if b = true then t D σ H1 else u D σ H1
theorem ps_if {c : Expr} {a b : List Stmt} {tc : TT} (hc : PT X c tc) (ha : PSs X a t) (hb : PSs X b u) : PS X (.If c a b pos) (tIfS tc t u) := by
  intro pins s σ H D I h
  refine wpAny_If (thn (hc pins s σ H _ I h) fun d s1 ⟨H1, I1, q1⟩ => ?_)
  cases d with
  | true => exact ha pins s1 σ H1 D I1 q1
  | false => exact hb pins s1 σ H1 D I1 q1
/-- code that the proof never comes to -/
def tNever : TS := fun _ _ _ => False
theorem ps_never : PS X st tNever := fun _ _ _ _ _ _ h => h.elim
theorem pss_never {sts : List Stmt} : PSs X sts tNever := fun _ _ _ _ _ _ h => h.elim
end

/-! ### targets -/
abbrev TG := V → St → Hp → (St → Hp → Prop) → Prop
abbrev TGs := List V → St → Hp → (St → Hp → Prop) → Prop
def PG (X : Cx) (target : Expr) (t : TG) : Prop :=
  ∀ (pins : List (Addr × Obj)) (s : Shared) (σ : St) (H : Hp) (v : V) (u : Value) (Q : St → Hp → Prop), Inv X pins σ H s → RelV v u → t v σ H Q →
    wpAny (model X.prog X.w) X.A (assign target X.env u) (fun _ s' => ∃ σ' H', Inv X pins σ' H' s' ∧ Q σ' H') X.xe s
/-- several targets, one after another -/
def PGs (X : Cx) (ts : List Expr) (t : TGs) : Prop :=
  ∀ (pins : List (Addr × Obj)) (s : Shared) (σ : St) (H : Hp) (vs : List V) (us : List Value) (Q : St → Hp → Prop), Inv X pins σ H s → Vals vs us → t vs σ H Q →
    wpAny (model X.prog X.w) X.A (assignInOrder ((assignEach ts X.env).map (·.2)) us) (fun _ s' => ∃ σ' H', Inv X pins σ' H' s' ∧ Q σ' H') X.xe s
/-- o[i] = v, by values -/
abbrev TSet := V → V → V → Hp → (Hp → Prop) → Prop
def PSet (X : Cx) (t : TSet) : Prop :=
  ∀ (pins : List (Addr × Obj)) (s : Shared) (σ : St) (H : Hp) (o i v : V) (ov iv u : Value) (Q : Hp → Prop), Inv X pins σ H s → RelV o ov → RelV i iv → RelV v u → t o i v H Q →
    wpAny (model X.prog X.w) X.A (setItem ov iv u) (fun _ s' => ∃ H', Inv X pins σ H' s' ∧ Q H') X.xe s
/-- a op= b, by values -/
abbrev TIp := V → V → Hp → VK → Prop
def PIp (X : Cx) (op : Operator) (t : TIp) : Prop :=
  ∀ (pins : List (Addr × Obj)) (s : Shared) (σ : St) (H : Hp) (x y : V) (v u : Value) (Q : VK), Inv X pins σ H s → RelV x v → RelV y u → t x y H Q →
    wpAny (model X.prog X.w) X.A (inplaceOp op v u) (EP X pins σ Q) X.xe s
section
variable {X : Cx} {pos : Pos}
def gName (i : Nat) : TG := fun v σ H Q => Q (σ.set i (some v)) H
theorem pg_name {i : Nat} {x : Str} (hN : X.N.Nodup) (hi : X.N[i]? = some x) (hx : Loc X.env.scope x) (hf : X.fn x = true ∨ X.env.scope.names.lookup x = some .local := by first | exact .inl rfl | exact .inr rfl | assumption) : PG X (.Name x pos) (gName i) := by
  intro pins s σ H v u Q I r h
  exact wpAny_assign_Name (store_ok I hN hi hx r (fun s' I' => ⟨_, H, I', h⟩) hf)
def gNil : TGs := fun vs σ H Q => vs = [] ∧ Q σ H
def gCons (t : TG) (u : TGs) : TGs := fun vs σ H Q => ∃ v r, vs = v :: r ∧ t v σ H fun σ' H' => u r σ' H' Q
theorem pgs_nil : PGs X [] gNil := by
  intro pins s σ H vs us Q I r h
  obtain ⟨e, h⟩ := h
  subst e
  cases r
  exact assignInOrder_nil ⟨σ, H, I, h⟩
theorem pgs_cons {e : Expr} {es : List Expr} {t : TG} {u : TGs} (h1 : PG X e t) (h2 : PGs X es u)
    (hs : (assignEach (e :: es) X.env).map (·.2) = assign e X.env :: (assignEach es X.env).map (·.2) := by rfl) : PGs X (e :: es) (gCons t u) := by
  intro pins s σ H vs us Q I r h
  obtain ⟨v, vr, e1, h⟩ := h
  subst e1
  cases r with
  | cons r rr =>
    rw [hs]
    refine assignInOrder_cons (thn (h1 pins s σ H _ _ _ I r h) fun _ s1 ⟨σ1, H1, I1, q1⟩ => ?_)
    exact h2 pins s1 σ1 H1 _ _ Q I1 rr q1
/-- (a, b, ..) = a tuple of that length -/
def gTup (K : PySem.W.Frag) (n : Nat) (t : TGs) : TG := fun v σ H Q => ∃ a xs, v = .ref a ∧ SqT K H a xs ∧ xs.length = n ∧ t xs σ H Q
theorem pg_tup {es : List Expr} {k : Nat} {t : TGs} {n : Nat} (hc : X.calm = true) (h : PGs X es t)
    (hn : (assignEach es X.env).length = n := by rfl) (hst : (assignEach es X.env).findIdx? (·.1) = none := by rfl) : PG X (.Tuple es k pos) (gTup X.K n t) := by
  intro pins s σ H v u Q I r hw
  obtain ⟨a, xs, e1, hq, hl, hw⟩ := hw
  subst e1
  cases r
  obtain ⟨its, rv, ht, hz⟩ := I.tuple hq
  refine assign_Tuple_tuple (I.ok.hd hc) ht (by simp [hn, ← hl, rv.length]) hst fun h' hx => ?_
  have I1 : Inv X pins σ H { s with heap := h' } := I.kept (t' := s.toks) fun b o e => hx b o (Nat.ne_of_lt (Heap.lt_size e)) e
  exact h pins _ σ H xs _ Q I1 (by simpa using rv) hw
/-- o[i] = .. -/
def gSub (to ti : TE) (t : TSet) : TG := fun v σ H Q => to σ H fun o H1 => ti σ H1 fun i H2 => t o i v H2 fun H3 => Q σ H3
theorem pg_sub {o i : Expr} {to ti : TE} {t : TSet} (ho : PE X o to) (hi : PE X i ti) (hs : PSet X t)
    (ha : ∀ v, assign (.Subscript o i pos) X.env v = (do
      let ov ← holding [v] (eval o X.env)
      let iv ← holding [v, ov] (eval i X.env)
      standAt pos
      holding [v, ov, iv] (setItem ov iv v)
      release [v, ov, iv] []) := by intro _; rfl) : PG X (.Subscript o i pos) (gSub to ti t) := by
  intro pins s σ H v u Q I r h
  rw [ha]
  refine wpAny_bind (wpAny_holding (thn (ho pins s σ H _ I h) fun ov s1 ⟨x, H1, I1, r1, q1⟩ => ?_))
  refine wpAny_bind (wpAny_holding (thn (hi pins s1 σ H1 _ I1 q1) fun iv s2 ⟨y, H2, I2, r2, q2⟩ => ?_))
  refine wpAny_bind (wpAny_standAt (wpAny_bind (wpAny_holding (thn (hs pins s2 σ H2 x y v ov iv u _ I2 r1 r2 r q2) fun _ s3 ⟨H3, I3, q3⟩ => ?_))))
  exact wpAny_release ⟨σ, H3, I3, q3⟩
/-- target = value -/
def tAsg (te : TE) (g : TG) : TS := fun D σ H => te σ H fun x H1 => g x σ H1 D.nx
theorem ps_asg {tg e : Expr} {te : TE} {g : TG} (he : PE X e te) (hg : PG X tg g) (hs : swapsWithSole [tg] e pos.line X.env = pure false := by rfl) (hw : swappedStores [tg] e X.env = pure none := by rfl)
    (h1 : (assignEach [tg] X.env).map (·.2) = [assign tg X.env] := by rfl) : PS X (.Assign [tg] e pos) (tAsg te g) := by
  intro pins s σ H D I h
  refine wpAny_Assign_stores (thn (he pins s σ H _ I h) fun v s1 ⟨x, H1, I1, r1, q1⟩ => ?_) hs hw
  rw [h1]
  exact thn (hg pins s1 σ H1 x v _ I1 r1 q1) fun _ s2 q => q
/-- name = value -/
theorem ps_set {i : Nat} {x : Str} {e : Expr} {te : TE} {pos' : Pos} (hN : X.N.Nodup) (hi : X.N[i]? = some x) (hx : Loc X.env.scope x) (he : PE X e te) (hs : swapsWith e (some (.Name x pos')) pos.line X.env = pure false := by rfl) (hf : X.fn x = true ∨ X.env.scope.names.lookup x = some .local := by first | exact .inl rfl | exact .inr rfl | assumption) :
    PS X (.Assign [.Name x pos'] e pos) (tAsg te (gName i)) := by
  intro pins s σ H D I h
  refine wpAny_Assign_Name (thn (he pins s σ H _ I h) fun v s1 ⟨y, H1, I1, r1, q1⟩ => ?_) hs
  exact store_ok I1 hN hi hx r1 (fun s2 I2 => ⟨_, H1, I2, q1⟩) hf
/-- a, b = x, y with plain local names: stored from the right; the pair itself is not tracked (the opening rows as in PyProof/Rows/TupAssign.lean:23) -/
def tPar (i j : Nat) (ta : TA) : TS := fun D σ H => ta σ H fun vs H1 => ∃ v w, vs = [v, w] ∧ D.nx ((σ.set i (some v)).set j (some w)) H1
theorem ps_par {i j : Nat} {x y : Str} {a b : Expr} {ta : TA} {px py pt : Pos} {kt k2 pt2} (hc : X.calm = true) (hN : X.N.Nodup) (hi : X.N[i]? = some x) (hj : X.N[j]? = some y) (hij : i ≠ j)
    (hx : X.env.scope.names.lookup x = some .local) (hy : X.env.scope.names.lookup y = some .local) (ha : PA X [a, b] ta)
    (hw : swappedStores [.Tuple [.Name x px, .Name y py] kt pt] (.Tuple [a, b] k2 pt2) X.env = pure (some [x, y]))
    (hs : swapsWithSole [.Tuple [.Name x px, .Name y py] kt pt] (.Tuple [a, b] k2 pt2) pos.line X.env = pure false := by rfl) :
    PS X (.Assign [.Tuple [.Name x px, .Name y py] kt pt] (.Tuple [a, b] k2 pt2) pos) (tPar i j ta) := by
  intro pins s σ H D I h
  rw [exec_Assign_arm]
  refine wpAny_bind (wpAny_standAt ?_)
  rw [hs]
  refine wpAny_bind (wpAny_pure ?_)
  rw [if_neg (by decide)]
  refine wpAny_bind (Tuple_ (thn (ha _ pins s σ H _ I h) fun us s1 ⟨vs, H1, I1, r1, q1⟩ => ?_))
  obtain ⟨v, w, e1, q1⟩ := q1
  subst e1
  obtain ⟨u1, u2, rfl, rv, rw'⟩ : ∃ u1 u2, us = [u1, u2] ∧ RelV v u1 ∧ RelV w u2 := by
    cases r1 with
    | cons p q =>
      cases q with
      | cons p' q' =>
        cases q'
        exact ⟨_, _, rfl, p, p'⟩
  refine wpAny_newObj_type ?_ (by show 2 ≤ sizeLine; decide)
  have I2 : Inv X pins σ H1 { s1 with heap := s1.heap.push { cls := .type "tuple", data := .seq [u1, u2].toArray } } := I1.kept (t' := s1.toks) fun b o e => Heap.get?_push_of_some _ e
  rw [hw]
  refine wpAny_bind (wpAny_pure ?_)
  show wpAny (model X.prog X.w) X.A (do rule "assign.swapped-stores"; let items ← unpackItems (.ref s1.heap.objs.size) 2 none; assignInOrder [fun v => bindName X.env y v, fun v => bindName X.env x v] items.reverse; pure Flow.next) _ _ _
  refine wpAny_bind (wpAny_rule (wpAny_bind (unpackItems_tuple (items := #[u1, u2]) (I.ok.hd hc) (IsTup.new s1.heap _) fun h' hx' => ?_)))
  have I3 := I2.kept (h' := h') (t' := s1.toks) fun b o e => hx' b o (Nat.ne_of_lt (Heap.lt_size e)) e
  show wpAny _ _ (assignInOrder [fun v => bindName X.env y v, fun v => bindName X.env x v] [u2, u1] >>= fun _ => pure Flow.next) _ _ _
  refine wpAny_bind (assignInOrder_cons (wpAny_bindName (store_ok I3 hN hj (.inl hy) rw' (fun s2 I4 => ?_) (.inr hy))))
  refine assignInOrder_cons (wpAny_bindName (store_ok I4 hN hi (.inl hx) rv (fun s3 I5 => assignInOrder_nil (wpAny_pure ?_)) (.inr hx)))
  rw [List.set_comm _ _ (Ne.symm hij)] at I5
  exact ⟨_, H1, I5, q1⟩
/-- name op= e -/
def tAug (i : Nat) (te : TE) (ti : TIp) : TS := fun D σ H => ∃ x, σ[i]? = some (some x) ∧ te σ H fun y H1 => ti x y H1 fun z H2 => D.nx (σ.set i (some z)) H2
theorem ps_aug {i : Nat} {x : Str} {e : Expr} {te : TE} {op : Operator} {ti : TIp} {pos' : Pos} (hN : X.N.Nodup) (hi : X.N[i]? = some x) (hx : Loc X.env.scope x) (he : PE X e te) (ho : PIp X op ti) (hf : X.fn x = true ∨ X.env.scope.names.lookup x = some .local := by first | exact .inl rfl | exact .inr rfl | assumption) :
    PS X (.AugAssign (.Name x pos') op e pos) (tAug i te ti) := by
  intro pins s σ H D I h
  obtain ⟨v, e1, h⟩ := h
  obtain ⟨m, hn, hl⟩ := I.loc
  have vis : Vis X.env.scope x := by rcases hx with k | k; exact .inl k; exact .inr (.inl k)
  obtain ⟨u, r, l⟩ := hl i x v hi e1 vis
  refine wpAny_AugAssign_Name ?_
  have go : wpAny (model X.prog X.w) X.A (eval e X.env) (fun w s₂ => wpAny (model X.prog X.w) X.A (inplaceOp op u w) (fun r s₃ => wpAny (model X.prog X.w) X.A (storeName X.env x r) (fun _ => SP X pins D .next) X.xe s₃) X.xe s₂) X.xe s := by
    refine thn (he pins s σ H _ I h) fun w s1 ⟨y, H1, I1, r1, q1⟩ => ?_
    refine thn (ho pins s1 σ H1 v y u w _ I1 r r1 q1) fun z s2 ⟨zv, H2, I2, r2, q2⟩ => ?_
    exact store_ok I2 hN hi hx r2 (fun s3 I3 => ⟨_, H2, I3, q2⟩) hf
  rcases l with ⟨hk, hm⟩ | ⟨hk, c, hc, hcell⟩
  · exact wpAny_loadName_local I.ok.kind hk hn hm go
  · rcases hk with hk | hk
    · exact wpAny_loadName_cell I.ok.kind hk hc hcell go
    · rcases hx with k | k
      · have : X.env.scope.names.lookup x = some .free := hk
        rw [k] at this; cases this
      · have : X.env.scope.names.lookup x = some .free := hk
        rw [k] at this; cases this
/-- o[i] op= e -/
def tAugS (to ti te : TE) (tget : V → V → Hp → VK → Prop) (tip : TIp) (tset : TSet) : TS := fun D σ H => to σ H fun o H1 => ti σ H1 fun i H2 => tget o i H2 fun x H3 => te σ H3 fun y H4 => tip x y H4 fun z H5 => tset o i z H5 fun H6 => D.nx σ H6
/-- o[i], by values -/
def PGet (X : Cx) (t : V → V → Hp → VK → Prop) : Prop :=
  ∀ (pins : List (Addr × Obj)) (s : Shared) (σ : St) (H : Hp) (o i : V) (ov iv : Value) (Q : VK), Inv X pins σ H s → RelV o ov → RelV i iv → t o i H Q →
    wpAny (model X.prog X.w) X.A (getItem ov iv) (EP X pins σ Q) X.xe s
theorem ps_augS {o i e : Expr} {to ti te : TE} {tget : V → V → Hp → VK → Prop} {tip : TIp} {tset : TSet} {op : Operator} {tpos : Pos} (ho : PE X o to) (hi : PE X i ti) (hg : PGet X tget) (he : PE X e te) (hp : PIp X op tip) (hs : PSet X tset)
    (ha : ∀ ov iv new, augStore i ov iv new = (do holding [new, ov, iv] (setItem ov iv new); release [new, ov, iv] []; pure .next) := by intros; rfl) : PS X (.AugAssign (.Subscript o i tpos) op e pos) (tAugS to ti te tget tip tset) := by
  intro pins s σ H D I h
  refine wpAny_AugAssign_SubscriptAny (thn (ho pins s σ H _ I h) fun ov s1 ⟨x1, H1, I1, r1, q1⟩ => ?_) ha
  refine thn (hi pins s1 σ H1 _ I1 q1) fun iv s2 ⟨x2, H2, I2, r2, q2⟩ => ?_
  refine thn (hg pins s2 σ H2 x1 x2 ov iv _ I2 r1 r2 q2) fun old s3 ⟨x3, H3, I3, r3, q3⟩ => ?_
  refine thn (he pins s3 σ H3 _ I3 q3) fun v s4 ⟨x4, H4, I4, r4, q4⟩ => ?_
  refine thn (hp pins s4 σ H4 x3 x4 old v _ I4 r3 r4 q4) fun new s5 ⟨x5, H5, I5, r5, q5⟩ => ?_
  exact thn (hs pins s5 σ H5 x1 x2 x5 ov iv new _ I5 r1 r2 r5 q5) fun _ s6 ⟨H6, I6, q6⟩ => ⟨σ, H6, I6, q6⟩
/-- ints -/
def ipI (f : Int → Int → Int) : TIp := fun x y H Q => ∃ i j, x = .int i ∧ y = .int j ∧ Q (.int (f i j)) H
theorem ip_add : PIp X .Add (ipI fun i j => i + j) := by
  intro pins s σ H x y v u Q I r1 r2 h
  obtain ⟨i, j, e1, e2, q⟩ := h
  subst e1; subst e2
  obtain ⟨t, rfl⟩ := r1
  obtain ⟨t', rfl⟩ := r2
  exact iadd_int ⟨.int _, H, I.tok _, ⟨_, rfl⟩, q⟩
theorem ip_sub : PIp X .Sub (ipI fun i j => i - j) := by
  intro pins s σ H x y v u Q I r1 r2 h
  obtain ⟨i, j, e1, e2, q⟩ := h
  subst e1; subst e2
  obtain ⟨t, rfl⟩ := r1
  obtain ⟨t', rfl⟩ := r2
  exact isub_int ⟨.int _, H, I.tok _, ⟨_, rfl⟩, q⟩
end

/-! ### while -/
section
variable {X : Cx} {pos : Pos}
/-- the invariant W with its measure -/
def tWhile (c : TT) (tb : TS) : TS := fun D σ H => ∃ W : Nat → St → Hp → Prop, (∃ m, W m σ H) ∧ ∀ m σ H, W m σ H →
  c σ H fun b H1 => if b = true then ∃ N : St → Hp → Prop, (∀ σ' H', N σ' H' → ∃ m', m' < m ∧ W m' σ' H') ∧ tb { D with nx := N, ct := N, bk := D.nx } σ H1 else D.nx σ H1
theorem ps_while {c : Expr} {body : List Stmt} {tc : TT} {tb : TS} (hp : PassesOwn (model X.prog X.w) X.A X.env X.xe) (hc : PT X c tc) (hb : PSs X body tb) : PS X (.While c body [] pos) (tWhile tc tb) := by
  intro pins s σ H D I h
  obtain ⟨W, ⟨m0, w0⟩, turn⟩ := h
  refine wpAny_While (codeAny_whileLoop (fun n s' => ∃ σ' H', Inv X pins σ' H' s' ∧ W n σ' H') ?_ m0 ⟨σ, H, I, w0⟩)
  rintro n s1 ⟨σ1, H1, I1, w1⟩
  refine wpAny_passesOwn hp (thn (hc pins s1 σ1 H1 _ I1 (turn n σ1 H1 w1)) fun b s2 ⟨H2, I2, q2⟩ => ?_)
  cases b with
  | true =>
    obtain ⟨N, hN, q2⟩ := q2
    rw [if_pos rfl]
    refine wpAny_passesOwn hp (thn (hb pins s2 σ1 H2 _ I2 q2) fun f s3 q3 => ?_)
    cases f with
    | next =>
      obtain ⟨σ3, H3, I3, n3⟩ := q3
      obtain ⟨m', hm, w3⟩ := hN σ3 H3 n3
      exact ⟨m', hm, σ3, H3, I3, w3⟩
    | cont =>
      obtain ⟨σ3, H3, I3, n3⟩ := q3
      obtain ⟨m', hm, w3⟩ := hN σ3 H3 n3
      exact ⟨m', hm, σ3, H3, I3, w3⟩
    | brk => exact q3
    | ret v => exact q3
  | false =>
    rw [if_neg Bool.false_ne_true]
    exact wpAny_execs_nil ⟨σ1, H2, I2, q2⟩
end

/-! ### what a loop or a comprehension walks -/
/-- at turn i: it yields x (the heap may grow), or it stops -/
structure It where
  go : Nat → Hp → Prop
  yld : Nat → Hp → V → Hp → Prop
  stop : Nat → Hp → Prop
/-- the iterator's own objects may turn: they are not the frame's, not pinned, younger than the entry (or a comprehension's own) -/
def FpOk (X : Cx) (pins : List (Addr × Obj)) (H : Hp) (b : Addr) : Prop :=
  H b = none ∧ b ≠ X.env.locals ∧ b ∉ X.fs ∧ (b ∈ X.ex ∨ X.s₀.heap.objs.size ≤ b) ∧ (∀ x c, X.env.cells.lookup x = some c → c ≠ b) ∧ ∀ p ∈ X.pn ++ pins, p.1 ≠ b
theorem Inv.fpOk {X : Cx} {pins : List (Addr × Obj)} {σ : St} {H H' : Hp} {s : Shared} {b : Addr} (I : Inv X pins σ H s) (hb : s.heap.objs.size ≤ b) (hn : H' b = none) : FpOk X pins H' b := by
  refine ⟨hn, Nat.ne_of_gt (Nat.lt_of_lt_of_le I.lt hb), I.nofs hb, .inr (Nat.le_trans I.sz hb), fun x c e z => ?_, fun p hp z => ?_⟩
  · obtain ⟨v, q⟩ := I.cell x c e
    exact absurd (Nat.lt_of_lt_of_le q.lt (by rw [z]; exact hb)) (Nat.lt_irrefl _)
  · exact absurd (Nat.lt_of_lt_of_le (Heap.lt_size (I.pin p hp).1) (by rw [z]; exact hb)) (Nat.lt_irrefl _)
structure Turn (P : Program) (w : World) (K : PySem.W.Frag) (tg : Expr) (J : It) (fp : List Addr) (it : Addr) (tn : Nat → Heap → Prop) : Prop where
  mem : it ∈ fp
  obj : ∀ i h, tn i h → ∀ b ∈ fp, ∃ o, h.get? b = some o ∧ ∀ v, o.data ≠ .cell v
  keep : ∀ i h h', tn i h → (∀ b ∈ fp, ∀ o, h.get? b = some o → h'.get? b = some o) → tn i h'
  item : ∀ (X : Cx), X.prog = P → X.w = w → X.K = K → X.calm = true → ∀ (i : Nat) (pins : List (Addr × Obj)) (s : Shared) (σ : St) (H : Hp) (E : Value → Shared → Prop), Inv X pins σ H s → (∀ b ∈ fp, FpOk X pins H b) → tn i s.heap → J.go i H →
    wpAny (model P w) X.A (pyNext (.ref it)) (fun r s1 => ∃ u, r = some u ∧
      wpAny (model P w) X.A (letOwnedTupleGo tg (.ref it) u) (fun _ s2 => ∃ x H', Inv X pins σ H' s2 ∧ RelV x u ∧ J.yld i H x H' ∧ tn (i + 1) s2.heap ∧ ∀ b ∈ fp, H' b = none) E s1) E s
  done : ∀ (X : Cx), X.prog = P → X.w = w → X.K = K → X.calm = true → ∀ (i : Nat) (pins : List (Addr × Obj)) (s : Shared) (σ : St) (H : Hp) (E : Value → Shared → Prop), Inv X pins σ H s → (∀ b ∈ fp, FpOk X pins H b) → tn i s.heap → J.stop i H →
    wpAny (model P w) X.A (pyNext (.ref it)) (fun r s1 => r = none ∧ Inv X pins σ H s1) E s
  self : ∀ (A : Around) (i : Nat) (s : Shared) (Q : Value → Shared → Prop) (E : Value → Shared → Prop), tn i s.heap → Q (.ref it) s → wpAny (model P w) A (pyIter (.ref it)) Q E s
abbrev TI := St → Hp → (It → Hp → Prop) → Prop
/-- an iterator has come -/
def PIE (X : Cx) (pins : List (Addr × Obj)) (σ : St) (tg : Expr) (R : It → Hp → Prop) (itv : Value) (s2 : Shared) : Prop :=
  ∃ (it : Addr) (fp : List Addr) (tn : Nat → Heap → Prop) (J : It) (H' : Hp), itv = .ref it ∧ Inv X pins σ H' s2 ∧ Turn X.prog X.w X.K tg J fp it tn ∧ tn 0 s2.heap ∧ (∀ b ∈ fp, FpOk X pins H' b) ∧ R J H'
def PI (X : Cx) (tg iter : Expr) (wi : TI) : Prop :=
  ∀ (pins : List (Addr × Obj)) (s : Shared) (σ : St) (H : Hp) (R : It → Hp → Prop), Inv X pins σ H s → wi σ H R →
    wpAny (model X.prog X.w) X.A (eval iter X.env) (fun v s1 => wpAny (model X.prog X.w) X.A (pyIter v) (PIE X pins σ tg R) X.xe s1) X.xe s

/-- the step ahead of the store is nothing for an iterator that keeps no tuple -/
theorem go_of {M : Model} {A : Around} {E : Value → Shared → Prop} {s : Shared} {tg : Expr} {it : Addr} {u : Value} {o : Obj} {n : String} {vs : Array Value} {Q : Unit → Shared → Prop} (ho : s.heap.get? it = some o) (hc : o.cls = .type n) (hd : o.data = .fields vs)
    (hn : ["enumerate", "zip", "dict_itemiterator", "dict_reverseitemiterator", "odict_iterator", "itertools.zip_longest", "itertools.pairwise"].contains n = false) (hQ : Q () s) : wpAny M A (letOwnedTupleGo tg (.ref it) u) Q E s := by
  unfold letOwnedTupleGo
  cases tg <;> first
    | exact wpAny_pure hQ
    | (cases u <;> first
        | exact wpAny_pure hQ
        | (refine wpAny_bind (wpAny_load ho ?_)
           rw [hc, hd]
           show wpAny M A (if (["enumerate", "zip", "dict_itemiterator", "dict_reverseitemiterator", "odict_iterator", "itertools.zip_longest", "itertools.pairwise"].contains n && vs[0]? == some (rawInt _)) = true then _ else _) Q E s
           rw [if_neg (by intro h; rw [hn, Bool.false_and] at h; cases h)]
           exact wpAny_pure hQ))

/-- the list at a, as it stands at each turn (a loop may append to it) -/
def Itl (K : PySem.W.Frag) (a : Addr) : It :=
  ⟨fun i H => ∃ xs x, SqL K H a xs ∧ xs[i]? = some x, fun i H x H' => H' = H ∧ ∀ xs, SqL K H a xs → xs[i]? = some x, fun i H => ∃ xs, SqL K H a xs ∧ xs.length ≤ i⟩
def Itt (K : PySem.W.Frag) (a : Addr) : It :=
  ⟨fun i H => ∃ xs x, SqT K H a xs ∧ xs[i]? = some x, fun i H x H' => H' = H ∧ ∀ xs, SqT K H a xs → xs[i]? = some x, fun i H => ∃ xs, SqT K H a xs ∧ xs.length ≤ i⟩
/-- lo, lo + 1, .. (n of them) -/
def Itr (lo : Int) (n : Nat) : It := ⟨fun i _ => i < n, fun i H x H' => H' = H ∧ x = .int (lo + i), fun i _ => n ≤ i⟩
theorem turn_list {P : Program} {w : World} {K : PySem.W.Frag} {tg : Expr} (a it : Addr) : Turn P w K tg (Itl K a) [it] it (fun i h => h.IsListIter it a i) where
  mem := by simp
  obj := fun i h st b hb => by
    have e : b = it := by simpa using hb
    subst e
    obtain ⟨o, e, c, d⟩ := st
    exact ⟨o, e, fun v z => by rw [d] at z; cases z⟩
  keep := fun i h h' st k => st.at fun o e => k it (by simp) o e
  item := by
    intro X hP hw hK hc i pins s σ H E I hf st hg
    subst hP hw hK
    obtain ⟨xs, x, hq, hx⟩ := hg
    obtain ⟨its, rv, p, hz⟩ := I.list hq
    obtain ⟨u, hu, ru⟩ := rv.get hx
    obtain ⟨f0, f1, f2, f3, f4, f5⟩ := hf it (by simp)
    refine wpAny_pyNext_list_item st p.isList (x := u) (by simpa using hu) fun h' st' sb => ?_
    have I1 : Inv X pins σ H { s with heap := h' } := I.turned (t' := s.toks) (fun b o hb e => (sb.2 b hb).trans e) f0 f1 f3 f4 f5
    obtain ⟨o, e, c, d⟩ := id st'
    exact ⟨u, rfl, go_of (s := { s with heap := h' }) e c d (by decide) ⟨x, H, I1, ru, ⟨rfl, fun ys hy => by rw [I.list_inj hy hq]; exact hx⟩, st', fun b hb => (hf b hb).1⟩⟩
  done := by
    intro X hP hw hK hc i pins s σ H E I hf st hg
    subst hP hw hK
    obtain ⟨xs, hq, hx⟩ := hg
    obtain ⟨its, rv, p, hz⟩ := I.list hq
    obtain ⟨f0, f1, f2, f3, f4, f5⟩ := hf it (by simp)
    have hl := rv.length
    exact wpAny_pyNext_list_end (I.ok.hd hc) st p.isList (by simp; omega) fun h' eb => ⟨rfl, I.turned (t' := s.toks) (fun b o hb e => eb b o hb e) f0 f1 f3 f4 f5⟩
  self := fun _ _ _ _ _ st h => wpAny_pyIter_listiter st h
theorem turn_tuple {P : Program} {w : World} {K : PySem.W.Frag} {tg : Expr} (a it : Addr) : Turn P w K tg (Itt K a) [it] it (fun i h => h.IsTupleIter it a i) where
  mem := by simp
  obj := fun i h st b hb => by
    have e : b = it := by simpa using hb
    subst e
    obtain ⟨o, e, c, d⟩ := st
    exact ⟨o, e, fun v z => by rw [d] at z; cases z⟩
  keep := fun i h h' st k => st.at fun o e => k it (by simp) o e
  item := by
    intro X hP hw hK hc i pins s σ H E I hf st hg
    subst hP hw hK
    obtain ⟨xs, x, hq, hx⟩ := hg
    obtain ⟨its, rv, p, hz⟩ := I.tuple hq
    obtain ⟨u, hu, ru⟩ := rv.get hx
    obtain ⟨f0, f1, f2, f3, f4, f5⟩ := hf it (by simp)
    refine wpAny_pyNext_tuple_item st (show s.heap.IsTuple a its.toArray from p) (x := u) (by simpa using hu) fun h' st' sb => ?_
    have I1 : Inv X pins σ H { s with heap := h' } := I.turned (t' := s.toks) (fun b o hb e => (sb.2 b hb).trans e) f0 f1 f3 f4 f5
    obtain ⟨o, e, c, d⟩ := id st'
    exact ⟨u, rfl, go_of (s := { s with heap := h' }) e c d (by decide) ⟨x, H, I1, ru, ⟨rfl, fun ys hy => by rw [I.tuple_inj hy hq]; exact hx⟩, st', fun b hb => (hf b hb).1⟩⟩
  done := by
    intro X hP hw hK hc i pins s σ H E I hf st hg
    subst hP hw hK
    obtain ⟨xs, hq, hx⟩ := hg
    obtain ⟨its, rv, p, hz⟩ := I.tuple hq
    obtain ⟨f0, f1, f2, f3, f4, f5⟩ := hf it (by simp)
    have hl := rv.length
    exact wpAny_pyNext_tuple_end (I.ok.hd hc) st (show s.heap.IsTuple a its.toArray from p) (by simp; omega) fun h' eb => ⟨rfl, I.turned (t' := s.toks) (fun b o hb e => eb b o hb e) f0 f1 f3 f4 f5⟩
  self := fun _ _ _ _ _ st h => wpAny_pyIter_tupleiter st h
theorem turn_range {P : Program} {w : World} {K : PySem.W.Frag} {tg : Expr} (it : Addr) (lo : Int) (n : Nat) : Turn P w K tg (Itr lo n) [it] it (fun i h => IsRangeIter h it (lo + (i : Nat) * 1) ((n : Int) - (i : Nat)) 1) where
  mem := by simp
  obj := fun i h st b hb => by
    have e : b = it := by simpa using hb
    subst e
    exact ⟨_, st, fun v z => by
      have z' : Data.fields _ = Data.cell v := z
      cases z'⟩
  keep := fun i h h' st k => k it (by simp) _ st
  item := by
    intro X hP hw hK hc i pins s σ H E I hf st hg
    subst hP hw hK
    obtain ⟨f0, f1, f2, f3, f4, f5⟩ := hf it (by simp)
    have W := Walks.range (prog := X.prog) (w := X.w) (I.ok.hd hc) it lo 1 n
    refine W.item i s _ _ hg st fun v h' tk hv st' kk => ?_
    obtain ⟨t, rfl⟩ := hv
    have I1 : Inv X pins σ H { s with heap := h', toks := tk } := I.turned (fun b o hb e => kk b o (by simpa using hb) e) f0 f1 f3 f4 f5
    refine ⟨_, rfl, go_of (s := { s with heap := h', toks := tk }) (n := "range_iterator") st' rfl rfl (by decide) ⟨.int (lo + i), H, I1, ⟨t, ?_⟩, ⟨rfl, rfl⟩, st', fun b hb => (hf b hb).1⟩⟩
    rw [Int.mul_one]
  done := by
    intro X hP hw hK hc i pins s σ H E I hf st hg
    subst hP hw hK
    obtain ⟨f0, f1, f2, f3, f4, f5⟩ := hf it (by simp)
    exact wpAny_pyNext_range_end (I.ok.hd hc) st (by have : n ≤ i := hg; omega) fun h' eb => ⟨rfl, I.turned (t' := s.toks) (fun b o hb e => eb b o hb e) f0 f1 f3 f4 f5⟩
  self := fun _ _ _ _ _ st h => wpAny_pyIter_rangeiter st h
end L2

namespace L2
open PySem PySem.Spec PyProof.Rows
section
variable {X : Cx} {tg : Expr}
def iList (K : PySem.W.Frag) (tl : TE) : TI := fun σ H R => tl σ H fun x H1 => ∃ a, x = .ref a ∧ (∃ xs, SqL K H1 a xs) ∧ R (Itl K a) H1
def iTup (K : PySem.W.Frag) (tl : TE) : TI := fun σ H R => tl σ H fun x H1 => ∃ a, x = .ref a ∧ (∃ xs, SqT K H1 a xs) ∧ R (Itt K a) H1
theorem pi_list {l : Expr} {tl : TE} (hl : PE X l tl) : PI X tg l (iList X.K tl) := by
  intro pins s σ H R I h
  refine thn (hl pins s σ H _ I h) fun v s1 ⟨x, H1, I1, r1, q1⟩ => ?_
  obtain ⟨a, e, ⟨xs, hq⟩, q⟩ := q1
  subst e
  cases r1
  obtain ⟨its, rv, p, hz⟩ := I1.list hq
  refine wpAny_pyIter_list p.isList ?_
  refine ⟨s1.heap.objs.size, [s1.heap.objs.size], _, _, H1, rfl, I1.kept (t' := s1.toks) fun b o e => Heap.get?_push_of_some _ e, turn_list a _, ⟨_, Heap.get?_push_size _ rfl, rfl, rfl⟩, fun b hb => ?_, q⟩
  have e : b = s1.heap.objs.size := by simpa using hb
  subst e
  exact I1.fpOk (Nat.le_refl _) (I1.hok.fresh (Nat.le_refl _))
theorem pi_tup {l : Expr} {tl : TE} (hl : PE X l tl) : PI X tg l (iTup X.K tl) := by
  intro pins s σ H R I h
  refine thn (hl pins s σ H _ I h) fun v s1 ⟨x, H1, I1, r1, q1⟩ => ?_
  obtain ⟨a, e, ⟨xs, hq⟩, q⟩ := q1
  subst e
  cases r1
  obtain ⟨its, rv, p, hz⟩ := I1.tuple hq
  refine wpAny_pyIter_tuple (show s1.heap.IsTuple a its.toArray from p) ?_
  refine ⟨s1.heap.objs.size, [s1.heap.objs.size], _, _, H1, rfl, I1.kept (t' := s1.toks) fun b o e => Heap.get?_push_of_some _ e, turn_tuple a _, ⟨_, Heap.get?_push_size _ rfl, rfl, rfl⟩, fun b hb => ?_, q⟩
  have e : b = s1.heap.objs.size := by simpa using hb
  subst e
  exact I1.fpOk (Nat.le_refl _) (I1.hok.fresh (Nat.le_refl _))
/-- a range object just made, walked -/
theorem range_it {pins : List (Addr × Obj)} {σ : St} {H : Hp} {s : Shared} {R : It → Hp → Prop} {E : Value → Shared → Prop} {lo hi : Int} {t u v : Tok} {tk : Nat} (I : Inv X pins σ H s) (h1 : -(2 ^ 62) ≤ lo) (h2 : lo < 2 ^ 62) (h3 : -(2 ^ 62) ≤ hi) (h4 : hi < 2 ^ 62)
    (q : R (Itr lo (hi - lo).toNat) H) : wpAny (model X.prog X.w) X.A (pyIter (.ref s.heap.objs.size)) (PIE X pins σ tg R) E { s with heap := s.heap.push { cls := .type "range", data := .fields #[.int lo t, .int hi u, .int 1 v] }, toks := tk } := by
  refine wpAny_pyIter_range (IsRange.new ..) (small_one h1 h2 h3 h4) ?_
  have I1 : Inv X pins σ H { s with heap := s.heap.push { cls := .type "range", data := .fields #[.int lo t, .int hi u, .int 1 v] }, toks := tk } := I.kept fun b o e => Heap.get?_push_of_some _ e
  refine ⟨(s.heap.push { cls := .type "range", data := .fields #[.int lo t, .int hi u, .int 1 v] }).objs.size, [(s.heap.push { cls := .type "range", data := .fields #[.int lo t, .int hi u, .int 1 v] }).objs.size], _, _, H, rfl,
    I1.kept (t' := tk) fun b o e => Heap.get?_push_of_some _ e, turn_range _ lo (hi - lo).toNat, ?_, fun b hb => ?_, q⟩
  · have e1 : lo + ((0 : Nat) : Int) * 1 = lo := by simp
    have e2 : (((hi - lo).toNat : Nat) : Int) - ((0 : Nat) : Int) = Builtin.Range.rangeSize lo hi 1 := by rw [rangeSize_one]; split <;> omega
    show IsRangeIter _ _ (lo + ((0 : Nat) : Int) * 1) ((((hi - lo).toNat : Nat) : Int) - ((0 : Nat) : Int)) 1
    rw [e1, e2]
    exact Heap.get?_push_size _ rfl
  · have e : b = (s.heap.push { cls := .type "range", data := .fields #[.int lo t, .int hi u, .int 1 v] }).objs.size := by simpa using hb
    subst e
    exact I1.fpOk (Nat.le_refl _) (I1.hok.fresh (Nat.le_refl _))
def iRng1 (ta : TA) : TI := fun σ H R => ta σ H fun vs H1 => ∃ j : Int, vs = [.int j] ∧ -(2 ^ 62) ≤ j ∧ j < 2 ^ 62 ∧ R (Itr 0 j.toNat) H1
def iRng2 (ta : TA) : TI := fun σ H R => ta σ H fun vs H1 => ∃ i j : Int, vs = [.int i, .int j] ∧ (-(2 ^ 62) ≤ i ∧ i < 2 ^ 62 ∧ -(2 ^ 62) ≤ j ∧ j < 2 ^ 62) ∧ R (Itr i (j - i).toNat) H1
theorem pi_range1 {a : Expr} {ta : TA} {p pos : Pos} (hg : Gl X "range") (hm : X.mg "range" = none) (ha : PA X [a] ta) (hs : starEach [a] X.env = [(false, eval a X.env)] := by rfl) : PI X tg (.Call (.Name "range" p) [a] [] pos) (iRng1 ta) := by
  intro pins s σ H R I h
  refine Call_ (ld_blt I hg hm boot_range (PyProof.Rows.callWith_type1 (thn (ha pos pins s σ H _ I h) fun us s1 ⟨vs, H1, I1, r1, q1⟩ => ?_) hs rfl))
  obtain ⟨j, e, q1, q2, q⟩ := q1
  subst e
  cases r1 with
  | cons r rr =>
    cases rr
    obtain ⟨t, rfl⟩ := r
    exact call_range_1 (range_it I1 (by omega) (by omega) q1 q2 (by simpa using q))
theorem pi_range2 {a b : Expr} {ta : TA} {p pos : Pos} (hg : Gl X "range") (hm : X.mg "range" = none) (ha : PA X [a, b] ta) (hs : starEach [a, b] X.env = [(false, eval a X.env), (false, eval b X.env)] := by rfl) (hs2 : starEach [b] X.env = [(false, eval b X.env)] := by rfl) :
    PI X tg (.Call (.Name "range" p) [a, b] [] pos) (iRng2 ta) := by
  intro pins s σ H R I h
  refine Call_ (ld_blt I hg hm boot_range (PyProof.Rows.callWith_type1 (thn (ha pos pins s σ H _ I h) fun us s1 ⟨vs, H1, I1, r1, q1⟩ => ?_) (by rw [hs, hs2]) (by rw [hs2]; rfl)))
  obtain ⟨i, j, e, ⟨q1, q2, q3, q4⟩, q⟩ := q1
  subst e
  cases r1 with
  | cons r rr =>
    cases rr with
    | cons r' rr =>
      cases rr
      obtain ⟨t, rfl⟩ := r
      obtain ⟨t', rfl⟩ := r'
      exact call_range_2 (range_it I1 q1 q2 q3 q4 q)

/-! ### for -/
/-- W: the invariant by the turn and a measure; N: what the body is to reach -/
def tFor (wi : TI) (g : TG) (tb : TS) : TS := fun D σ H => wi σ H fun J H1 => ∃ W : Nat → Nat → St → Hp → Prop, (∃ m, W 0 m σ H1) ∧ ∀ i m σ H, W i m σ H →
  (J.stop i H ∧ D.nx σ H) ∨ (J.go i H ∧ ∃ N : St → Hp → Prop, (∀ σ' H', N σ' H' → ∃ m', m' < m ∧ W (i + 1) m' σ' H') ∧ ∀ x H', J.yld i H x H' → g x σ H' fun σ2 H2 => tb { D with nx := N, ct := N, bk := D.nx } σ2 H2)
/-- the records at fp as they stand -/
def pinsAt (fp : List Addr) (h : Heap) : List (Addr × Obj) := fp.filterMap fun b => (h.get? b).map fun o => (b, o)
theorem mem_pinsAt {fp : List Addr} {h : Heap} {b : Addr} {o : Obj} (hb : b ∈ fp) (e : h.get? b = some o) : (b, o) ∈ pinsAt fp h := List.mem_filterMap.mpr ⟨b, hb, by rw [e]; rfl⟩
theorem of_pinsAt {fp : List Addr} {h : Heap} {p : Addr × Obj} (hp : p ∈ pinsAt fp h) : p.1 ∈ fp ∧ h.get? p.1 = some p.2 := by
  obtain ⟨b, hb, e⟩ := List.mem_filterMap.mp hp
  cases q : h.get? b with
  | none => rw [q] at e; cases e
  | some o =>
    rw [q] at e
    have e' : (b, o) = p := Option.some.inj e
    subst e'
    exact ⟨hb, q⟩
theorem Inv.pinned {pins : List (Addr × Obj)} {σ : St} {H : Hp} {s : Shared} {fp : List Addr} (I : Inv X pins σ H s) (hf : ∀ b ∈ fp, FpOk X pins H b) (ho : ∀ b ∈ fp, ∃ o, s.heap.get? b = some o ∧ ∀ v, o.data ≠ .cell v) : Inv X (pins ++ pinsAt fp s.heap) σ H s :=
  I.pins_of fun p hp => (List.mem_append.mp hp).elim (fun z => I.pin p (List.mem_append_right _ z)) fun z => by
    obtain ⟨hb, e⟩ := of_pinsAt z
    obtain ⟨f0, f1, f2, _⟩ := hf p.1 hb
    obtain ⟨o, e', d⟩ := ho p.1 hb
    rw [e] at e'; cases e'
    exact ⟨e, f0, f1, f2, d⟩
theorem Inv.unpinned {pins pl : List (Addr × Obj)} {σ : St} {H : Hp} {s : Shared} (I : Inv X (pins ++ pl) σ H s) : Inv X pins σ H s := I.pins_of fun p hp => I.pin p (List.mem_append_right _ (List.mem_append_left _ hp))
theorem ps_for {iter : Expr} {body : List Stmt} {wi : TI} {g : TG} {tb : TS} {pos : Pos} (hp : PassesOwn (model X.prog X.w) X.A X.env X.xe) (hc : X.calm = true) (hi : PI X tg iter wi) (hg : PG X tg g) (hb : PSs X body tb)
    (hs : ∀ x, foldedSetIterable iter X.env x = pure x := by intro _; rfl) : PS X (.For tg iter body [] pos) (tFor wi g tb) := by
  intro pins s σ H D I h
  refine wpAny_For (thn (hi pins s σ H _ I h) fun v s1 h1 => thn h1 fun itv s2 h2 => ?_) hs
  obtain ⟨it, fp, tn, J, H2, e, I2, T, st2, f2, W, ⟨m0, w0⟩, turn⟩ := h2
  subst e
  -- what stays true of the iterator's objects through the loop
  have stat : ∀ {H' : Hp}, (∀ b ∈ fp, H' b = none) → ∀ b ∈ fp, FpOk X pins H' b := fun hn b hb => ⟨hn b hb, (f2 b hb).2⟩
  refine codeAny_forLoop_any (fun n s' => ∃ i σ' H', Inv X pins σ' H' s' ∧ tn i s'.heap ∧ (∀ b ∈ fp, H' b = none) ∧ W i n σ' H') ?_ m0 ⟨0, σ, H2, I2, st2, fun b hb => (f2 b hb).1, w0⟩
  rintro n s3 ⟨i, σ3, H3, I3, st3, fr3, w3⟩
  rcases turn i n σ3 H3 w3 with ⟨stop, qn⟩ | ⟨go, N, hN, step⟩
  · refine wpAny_passesOwn hp (thn (T.done X rfl rfl rfl hc i pins s3 σ3 H3 X.xe I3 (stat fr3) st3 stop) fun r s4 ⟨hr, I4⟩ => ?_)
    subst hr
    exact wpAny_execs_nil ⟨σ3, H3, I4, qn⟩
  · refine wpAny_passesOwn hp (thn (T.item X rfl rfl rfl hc i pins s3 σ3 H3 X.xe I3 (stat fr3) st3 go) fun r s4 ⟨u, hr, h4⟩ => ?_)
    subst hr
    refine wpAny_passesOwn hp (thn h4 fun _ s5 ⟨x, H5, I5, r5, y5, st5, fr5⟩ => ?_)
    have I5' := I5.pinned (stat fr5) (T.obj _ _ st5)
    refine wpAny_passesOwn hp (thn (hg _ s5 σ3 H5 x u _ I5' r5 (step x H5 y5)) fun _ s6 ⟨σ6, H6, I6, q6⟩ => ?_)
    refine wpAny_passesOwn hp (thn (hb _ s6 σ6 H6 _ I6 q6) fun f s7 q7 => ?_)
    have again : ∀ {σ7 : St} {H7 : Hp}, Inv X (pins ++ pinsAt fp s5.heap) σ7 H7 s7 → N σ7 H7 → ∃ m, m < n ∧ ∃ i σ' H', Inv X pins σ' H' s7 ∧ tn i s7.heap ∧ (∀ b ∈ fp, H' b = none) ∧ W i m σ' H' := fun {σ7 H7} I7 n7 => by
      obtain ⟨m', hm, w7⟩ := hN σ7 H7 n7
      refine ⟨m', hm, i + 1, σ7, H7, I7.unpinned, T.keep _ _ _ st5 fun b hb o e => (I7.pin (b, o) (List.mem_append_right _ (List.mem_append_right _ (mem_pinsAt hb e)))).1, fun b hb => ?_, w7⟩
      obtain ⟨o, e, d⟩ := T.obj _ _ st5 b hb
      exact (I7.pin (b, o) (List.mem_append_right _ (List.mem_append_right _ (mem_pinsAt hb e)))).2.1
    cases f with
    | next => obtain ⟨σ7, H7, I7, n7⟩ := q7; exact again I7 n7
    | cont => obtain ⟨σ7, H7, I7, n7⟩ := q7; exact again I7 n7
    | brk => obtain ⟨σ7, H7, I7, q7⟩ := q7; exact ⟨σ7, H7, I7.unpinned, q7⟩
    | ret v => obtain ⟨x7, σ7, H7, I7, r7, q7⟩ := q7; exact ⟨x7, σ7, H7, I7.unpinned, r7, q7⟩
end

/-! ### the forms one uses -/
/-- over a list that the body leaves as it is -/
theorem for_list {K : PySem.W.Frag} {a : Addr} {xs : List V} {g : TG} {tb : TS} {D : Ends} {σ : St} {H : Hp} (Pv : Nat → St → Hp → Prop) (h0 : Pv 0 σ H) (hl : ∀ i σ H, i ≤ xs.length → Pv i σ H → SqL K H a xs)
    (hs : ∀ i x σ H, xs[i]? = some x → Pv i σ H → g x σ H fun σ2 H2 => tb { D with nx := Pv (i + 1), ct := Pv (i + 1), bk := D.nx } σ2 H2) (hd : ∀ σ H, Pv xs.length σ H → D.nx σ H) :
    ∃ W : Nat → Nat → St → Hp → Prop, (∃ m, W 0 m σ H) ∧ ∀ i m σ H, W i m σ H →
      ((Itl K a).stop i H ∧ D.nx σ H) ∨ ((Itl K a).go i H ∧ ∃ N : St → Hp → Prop, (∀ σ' H', N σ' H' → ∃ m', m' < m ∧ W (i + 1) m' σ' H') ∧ ∀ x H', (Itl K a).yld i H x H' → g x σ H' fun σ2 H2 => tb { D with nx := N, ct := N, bk := D.nx } σ2 H2) := by
  refine ⟨fun i m σ H => m = xs.length - i ∧ i ≤ xs.length ∧ Pv i σ H, ⟨xs.length, by simp, Nat.zero_le _, h0⟩, ?_⟩
  rintro i m σ H ⟨rfl, hi, p⟩
  have q := hl i σ H hi p
  by_cases hlt : i < xs.length
  · refine .inr ⟨⟨xs, xs[i], q, by simp [hlt]⟩, Pv (i + 1), fun σ' H' p' => ⟨xs.length - (i + 1), by omega, rfl, hlt, p'⟩, fun x H' y => ?_⟩
    obtain ⟨e, y⟩ := y
    subst e
    exact hs i x σ _ (y xs q) p
  · have e : i = xs.length := by omega
    subst e
    exact .inl ⟨⟨xs, q, Nat.le_refl _⟩, hd σ H p⟩
theorem for_tup {K : PySem.W.Frag} {a : Addr} {xs : List V} {g : TG} {tb : TS} {D : Ends} {σ : St} {H : Hp} (Pv : Nat → St → Hp → Prop) (h0 : Pv 0 σ H) (hl : ∀ i σ H, i ≤ xs.length → Pv i σ H → SqT K H a xs)
    (hs : ∀ i x σ H, xs[i]? = some x → Pv i σ H → g x σ H fun σ2 H2 => tb { D with nx := Pv (i + 1), ct := Pv (i + 1), bk := D.nx } σ2 H2) (hd : ∀ σ H, Pv xs.length σ H → D.nx σ H) :
    ∃ W : Nat → Nat → St → Hp → Prop, (∃ m, W 0 m σ H) ∧ ∀ i m σ H, W i m σ H →
      ((Itt K a).stop i H ∧ D.nx σ H) ∨ ((Itt K a).go i H ∧ ∃ N : St → Hp → Prop, (∀ σ' H', N σ' H' → ∃ m', m' < m ∧ W (i + 1) m' σ' H') ∧ ∀ x H', (Itt K a).yld i H x H' → g x σ H' fun σ2 H2 => tb { D with nx := N, ct := N, bk := D.nx } σ2 H2) := by
  refine ⟨fun i m σ H => m = xs.length - i ∧ i ≤ xs.length ∧ Pv i σ H, ⟨xs.length, by simp, Nat.zero_le _, h0⟩, ?_⟩
  rintro i m σ H ⟨rfl, hi, p⟩
  have q := hl i σ H hi p
  by_cases hlt : i < xs.length
  · refine .inr ⟨⟨xs, xs[i], q, by simp [hlt]⟩, Pv (i + 1), fun σ' H' p' => ⟨xs.length - (i + 1), by omega, rfl, hlt, p'⟩, fun x H' y => ?_⟩
    obtain ⟨e, y⟩ := y
    subst e
    exact hs i x σ _ (y xs q) p
  · have e : i = xs.length := by omega
    subst e
    exact .inl ⟨⟨xs, q, Nat.le_refl _⟩, hd σ H p⟩
theorem for_range {lo : Int} {n : Nat} {g : TG} {tb : TS} {D : Ends} {σ : St} {H : Hp} (Pv : Nat → St → Hp → Prop) (h0 : Pv 0 σ H)
    (hs : ∀ i σ H, i < n → Pv i σ H → g (.int (lo + i)) σ H fun σ2 H2 => tb { D with nx := Pv (i + 1), ct := Pv (i + 1), bk := D.nx } σ2 H2) (hd : ∀ σ H, Pv n σ H → D.nx σ H) :
    ∃ W : Nat → Nat → St → Hp → Prop, (∃ m, W 0 m σ H) ∧ ∀ i m σ H, W i m σ H →
      ((Itr lo n).stop i H ∧ D.nx σ H) ∨ ((Itr lo n).go i H ∧ ∃ N : St → Hp → Prop, (∀ σ' H', N σ' H' → ∃ m', m' < m ∧ W (i + 1) m' σ' H') ∧ ∀ x H', (Itr lo n).yld i H x H' → g x σ H' fun σ2 H2 => tb { D with nx := N, ct := N, bk := D.nx } σ2 H2) := by
  refine ⟨fun i m σ H => m = n - i ∧ i ≤ n ∧ Pv i σ H, ⟨n, by simp, Nat.zero_le _, h0⟩, ?_⟩
  rintro i m σ H ⟨rfl, hi, p⟩
  by_cases hlt : i < n
  · refine .inr ⟨hlt, Pv (i + 1), fun σ' H' p' => ⟨n - (i + 1), by omega, rfl, hlt, p'⟩, fun x H' y => ?_⟩
    obtain ⟨e, y⟩ := y
    subst e y
    exact hs i σ _ hlt p
  · have e : i = n := by omega
    subst e
    exact .inl ⟨Nat.le_refl _, hd σ H p⟩
/-- while, by a word and a measure of the state -/
theorem while_by {c : TT} {tb : TS} {D : Ends} {σ : St} {H : Hp} (Pv : St → Hp → Prop) (μ : St → Hp → Nat) (h0 : Pv σ H)
    (hs : ∀ σ H, Pv σ H → c σ H fun b H1 => if b = true then tb { D with nx := fun σ' H' => Pv σ' H' ∧ μ σ' H' < μ σ H, ct := fun σ' H' => Pv σ' H' ∧ μ σ' H' < μ σ H, bk := D.nx } σ H1 else D.nx σ H1)
    (mono : ∀ σ H Q Q', (∀ b H1, Q b H1 → Q' b H1) → c σ H Q → c σ H Q') : tWhile c tb D σ H := by
  refine ⟨fun m σ H => m = μ σ H ∧ Pv σ H, ⟨_, rfl, h0⟩, ?_⟩
  rintro m σ H ⟨rfl, p⟩
  refine mono σ H _ _ (fun b H1 q => ?_) (hs σ H p)
  cases b with
  | true => exact ⟨_, fun σ' H' ⟨p', l⟩ => ⟨_, l, rfl, p'⟩, q⟩
  | false => exact q
end L2

namespace L2
open PySem PySem.Spec PyProof.Rows

abbrev R2 := V → V → Hp → VK → Prop
/-- a two-place operation on values: f is binaryOp op, inplaceOp op or compareOp op -/
def OpR (X : Cx) (f : Value → Value → Sem Value) (r : R2) : Prop :=
  ∀ (pins : List (Addr × Obj)) (s : Shared) (σ : St) (H : Hp) (x y : V) (v u : Value) (Q : VK), Inv X pins σ H s → RelV x v → RelV y u → r x y H Q →
    wpAny (model X.prog X.w) X.A (f v u) (EP X pins σ Q) X.xe s
/-- a one-place operation -/
def UnR (X : Cx) (f : Value → Sem Value) (r : V → Hp → VK → Prop) : Prop :=
  ∀ (pins : List (Addr × Obj)) (s : Shared) (σ : St) (H : Hp) (x : V) (v : Value) (Q : VK), Inv X pins σ H s → RelV x v → r x H Q →
    wpAny (model X.prog X.w) X.A (f v) (EP X pins σ Q) X.xe s
/-- a call of a value that is known (a builtin, a type) with values -/
def CallR (X : Cx) (f : Value) (r : List V → Hp → VK → Prop) : Prop :=
  ∀ (pins : List (Addr × Obj)) (s : Shared) (σ : St) (H : Hp) (xs : List V) (us : List Value) (Q : VK), Inv X pins σ H s → Vals xs us → r xs H Q →
    wpAny (model X.prog X.w) X.A (call f us) (EP X pins σ Q) X.xe s
/-- a value's truth -/
def TruR (X : Cx) (r : V → Hp → (Bool → Hp → Prop) → Prop) : Prop :=
  ∀ (pins : List (Addr × Obj)) (s : Shared) (σ : St) (H : Hp) (x : V) (v : Value) (Q : Bool → Hp → Prop), Inv X pins σ H s → RelV x v → r x H Q →
    wpAny (model X.prog X.w) X.A (truthy v) (TP X pins σ Q) X.xe s

def tOp (r : R2) (ta tb : TE) : TE := fun σ H Q => ta σ H fun x H1 => tb σ H1 fun y H2 => r x y H2 Q
def tUn (r : V → Hp → VK → Prop) (ta : TE) : TE := fun σ H Q => ta σ H fun x H1 => r x H1 Q
/-- ints in, under C, and a value out -/
def rI (C : Int → Int → Prop) (g : Int → Int → V) : R2 := fun x y H Q => ∃ i j, x = .int i ∧ y = .int j ∧ C i j ∧ Q (g i j) H
def rI0 (g : Int → Int → V) : R2 := fun x y H Q => ∃ i j, x = .int i ∧ y = .int j ∧ Q (g i j) H
def rU (g : Int → V) : V → Hp → VK → Prop := fun x H Q => ∃ i, x = .int i ∧ Q (g i) H

section
variable {X : Cx} {a b c : Expr} {ta tb tc : TE} {pos : Pos}

theorem binT (ha : PE X a ta) (hb : PE X b tb) {pins : List (Addr × Obj)} {s : Shared} {σ : St} {H : Hp} {R : V → V → Hp → Prop} (I : Inv X pins σ H s)
    (h : ta σ H fun x H1 => tb σ H1 fun y H2 => R x y H2) {Q : Value → Shared → Prop} {f : Value → Value → Sem Value}
    (hf : ∀ v u s2 x y H2, Inv X pins σ H2 s2 → RelV x v → RelV y u → R x y H2 → wpAny (model X.prog X.w) X.A (f v u) Q X.xe s2) :
    wpAny (model X.prog X.w) X.A (eval a X.env) (fun v s₁ => wpAny (model X.prog X.w) X.A (eval b X.env) (fun u s₂ => wpAny (model X.prog X.w) X.A (f v u) Q X.xe s₂) X.xe s₁) X.xe s := by
  refine thn (ha pins s σ H _ I h) fun v s1 ⟨x, H1, I1, r1, q1⟩ => ?_
  refine thn (hb pins s1 σ H1 _ I1 q1) fun u s2 ⟨y, H2, I2, r2, q2⟩ => ?_
  exact hf v u s2 x y H2 I2 r1 r2 q2

theorem pe_op {op : Operator} {r : R2} (ho : OpR X (binaryOp op) r) (ha : PE X a ta) (hb : PE X b tb) : PE X (.BinOp a op b pos) (tOp r ta tb) := by
  intro pins s σ H Q I h
  exact wpAny_BinOp (binT ha hb I h fun v u s2 x y H2 I2 rx ry q => ho pins s2 σ H2 x y v u Q I2 rx ry q)
theorem pe_un {op : UnaryOp} {r : V → Hp → VK → Prop} (ho : UnR X (unaryOp op) r) (ha : PE X a ta) : PE X (.UnaryOp op a pos) (tUn r ta) := by
  intro pins s σ H Q I h
  exact UnaryOp_ (thn (ha pins s σ H _ I h) fun v s1 ⟨x, H1, I1, r1, q1⟩ => ho pins s1 σ H1 x v Q I1 r1 q1)
/-- a op= e at a name: the name's slot i -/
theorem augR {op : Operator} {r : R2} (ho : OpR X (inplaceOp op) r) {pins : List (Addr × Obj)} {s : Shared} {σ : St} {H : Hp} {x y : V} {v u : Value} {Q : VK} (I : Inv X pins σ H s)
    (rx : RelV x v) (ry : RelV y u) (q : r x y H Q) : wpAny (model X.prog X.w) X.A (inplaceOp op v u) (EP X pins σ Q) X.xe s := ho pins s σ H x y v u Q I rx ry q

/-! ### ints -/
theorem opI {f : Value → Value → Sem Value} {C : Int → Int → Prop} {g : Int → Int → Int}
    (rule : ∀ (i j : Int) (t u : Tok) (s : Shared) (Q : Value → Shared → Prop) (E : Value → Shared → Prop), C i j → Q (.int (g i j) s.toks) { s with toks := s.toks + 1 } → wpAny (model X.prog X.w) X.A (f (.int i t) (.int j u)) Q E s) :
    OpR X f (rI C fun i j => .int (g i j)) := by
  intro pins s σ H x y v u Q I rx ry h
  obtain ⟨i, j, rfl, rfl, hc, q⟩ := h
  obtain ⟨t, rfl⟩ := rx
  obtain ⟨t', rfl⟩ := ry
  exact rule i j t t' s _ _ hc ⟨.int (g i j), H, I.tok _, ⟨_, rfl⟩, q⟩
theorem opI0 {f : Value → Value → Sem Value} {g : Int → Int → Int}
    (rule : ∀ (i j : Int) (t u : Tok) (s : Shared) (Q : Value → Shared → Prop) (E : Value → Shared → Prop), Q (.int (g i j) s.toks) { s with toks := s.toks + 1 } → wpAny (model X.prog X.w) X.A (f (.int i t) (.int j u)) Q E s) :
    OpR X f (rI0 fun i j => .int (g i j)) := by
  intro pins s σ H x y v u Q I rx ry h
  obtain ⟨i, j, rfl, rfl, q⟩ := h
  obtain ⟨t, rfl⟩ := rx
  obtain ⟨t', rfl⟩ := ry
  exact rule i j t t' s _ _ ⟨.int (g i j), H, I.tok _, ⟨_, rfl⟩, q⟩
theorem opB0 {f : Value → Value → Sem Value} {g : Int → Int → Bool}
    (rule : ∀ (i j : Int) (t u : Tok) (s : Shared) (Q : Value → Shared → Prop) (E : Value → Shared → Prop), Q (.bool (g i j)) s → wpAny (model X.prog X.w) X.A (f (.int i t) (.int j u)) Q E s) :
    OpR X f (rI0 fun i j => .bl (g i j)) := by
  intro pins s σ H x y v u Q I rx ry h
  obtain ⟨i, j, rfl, rfl, q⟩ := h
  obtain ⟨t, rfl⟩ := rx
  obtain ⟨t', rfl⟩ := ry
  exact rule i j t t' s _ _ ⟨.bl (g i j), H, I, rfl, q⟩

def CDiv (i j : Int) : Prop := 0 < j ∧ j < 1073741824
def CDivN (i j : Int) : Prop := j ≠ 0 ∧ j.natAbs < 1073741824
def CPow (i j : Int) : Prop := 0 ≤ j ∧ j ≤ 1000000 ∧ i.natAbs < 2 ^ 64
def CMul (i j : Int) : Prop := (-(2 ^ 64) < i ∧ i < 2 ^ 64) ∨ (-(2 ^ 64) < j ∧ j < 2 ^ 64)
theorem CMul.ok {i j : Int} (h : CMul i j) : IntMulOk i j := by
  rcases h with ⟨h1, h2⟩ | ⟨h1, h2⟩
  · exact .of_left (intBits_le_64 h1 h2)
  · exact .of_right (intBits_le_64 h1 h2)
theorem two_pow_nn (k : Nat) : (0 : Int) ≤ 2 ^ k := by
  rw [two_pow_cast]
  exact Int.natCast_nonneg _

theorem op_add : OpR X (binaryOp .Add) (rI0 fun i j => .int (i + j)) := opI0 fun _ _ _ _ _ _ _ q => add_int q
theorem op_sub : OpR X (binaryOp .Sub) (rI0 fun i j => .int (i - j)) := opI0 fun _ _ _ _ _ _ _ q => sub_int q
theorem op_mul : OpR X (binaryOp .Mult) (rI CMul fun i j => .int (i * j)) := opI fun _ _ _ _ _ _ _ hc q => mul_int q hc.ok
/-- // by a positive divisor -/
theorem op_fdiv : OpR X (binaryOp .FloorDiv) (rI CDiv fun i j => .int (i / j)) := opI fun i j _ _ _ _ _ hc q => by
  have h1 : (0 : Int) < j := hc.1
  have h2 : j < 1073741824 := hc.2
  exact floordiv_int (by omega) (by rw [Int.fdiv_eq_ediv_of_nonneg i (by omega)]; exact q) (.inl (PyProof.noPylong_small (by omega)))
theorem op_fdivN : OpR X (binaryOp .FloorDiv) (rI CDivN fun i j => .int (i.fdiv j)) := opI fun _ _ _ _ _ _ _ hc q => floordiv_int hc.1 q (.inl (PyProof.noPylong_small hc.2))
/-- % by a positive divisor of any size -/
theorem op_mod : OpR X (binaryOp .Mod) (rI (fun _ j => 0 < j) fun i j => .int (i % j)) := opI fun i j _ _ _ _ _ hc q => by
  have h1 : (0 : Int) < j := hc
  exact mod_int' (by omega) (by rw [Int.fmod_eq_emod_of_nonneg i (by omega)]; exact q)
theorem op_modN : OpR X (binaryOp .Mod) (rI (fun _ j => j ≠ 0) fun i j => .int (i.fmod j)) := opI fun _ _ _ _ _ _ _ hc q => mod_int' hc q
theorem op_pow : OpR X (binaryOp .Pow) (rI CPow fun i j => .int (i ^ j.toNat)) := opI fun _ _ _ _ _ _ _ hc q => pow_int_small hc.1 hc.2.1 hc.2.2 q
theorem op_shl : OpR X (binaryOp .LShift) (rI CPow fun i j => .int (i * 2 ^ j.toNat)) := opI fun _ _ _ _ _ _ _ hc q => lshift_int_small hc.1 hc.2.1 hc.2.2 q
theorem op_shr : OpR X (binaryOp .RShift) (rI (fun _ j => 0 ≤ j) fun i j => .int (i / 2 ^ j.toNat)) := opI fun i j _ _ _ _ _ hc q =>
  rshift_int hc (by rw [Int.fdiv_eq_ediv_of_nonneg i (two_pow_nn _)]; exact q)
theorem op_and : OpR X (binaryOp .BitAnd) (rI0 fun i j => .int (Builtin.bitAnd i j)) := opI0 fun _ _ _ _ _ _ _ q => and_int q
theorem op_or : OpR X (binaryOp .BitOr) (rI0 fun i j => .int (Builtin.bitOr i j)) := opI0 fun _ _ _ _ _ _ _ q => or_int q
theorem op_xor : OpR X (binaryOp .BitXor) (rI0 fun i j => .int (Builtin.bitXor i j)) := opI0 fun _ _ _ _ _ _ _ q => xor_int q

theorem iop_add : OpR X (inplaceOp .Add) (rI0 fun i j => .int (i + j)) := opI0 fun _ _ _ _ _ _ _ q => iadd_int q
theorem iop_sub : OpR X (inplaceOp .Sub) (rI0 fun i j => .int (i - j)) := opI0 fun _ _ _ _ _ _ _ q => isub_int q
theorem iop_mul : OpR X (inplaceOp .Mult) (rI CMul fun i j => .int (i * j)) := opI fun _ _ _ _ _ _ _ hc q => imul_int q hc.ok
theorem iop_fdiv : OpR X (inplaceOp .FloorDiv) (rI CDiv fun i j => .int (i / j)) := opI fun i j _ _ _ _ _ hc q => by
  have h1 : (0 : Int) < j := hc.1
  have h2 : j < 1073741824 := hc.2
  exact ifloordiv_int (by omega) (by rw [Int.fdiv_eq_ediv_of_nonneg i (by omega)]; exact q) (.inl (PyProof.noPylong_small (by omega)))
theorem iop_mod : OpR X (inplaceOp .Mod) (rI (fun _ j => 0 < j) fun i j => .int (i % j)) := opI fun i j _ _ _ _ _ hc q => by
  have h1 : (0 : Int) < j := hc
  exact imod_int (by omega) (by rw [Int.fmod_eq_emod_of_nonneg i (by omega)]; exact q)
theorem iop_shl : OpR X (inplaceOp .LShift) (rI CPow fun i j => .int (i * 2 ^ j.toNat)) := opI fun _ _ _ _ _ _ _ hc q => ilshift_int_small hc.1 hc.2.1 hc.2.2 q
theorem iop_shr : OpR X (inplaceOp .RShift) (rI (fun _ j => 0 ≤ j) fun i j => .int (i / 2 ^ j.toNat)) := opI fun i j _ _ _ _ _ hc q =>
  irshift_int hc (by rw [Int.fdiv_eq_ediv_of_nonneg i (two_pow_nn _)]; exact q)
theorem iop_and : OpR X (inplaceOp .BitAnd) (rI0 fun i j => .int (Builtin.bitAnd i j)) := opI0 fun _ _ _ _ _ _ _ q => iand_int q
theorem iop_or : OpR X (inplaceOp .BitOr) (rI0 fun i j => .int (Builtin.bitOr i j)) := opI0 fun _ _ _ _ _ _ _ q => ior_int q
theorem iop_xor : OpR X (inplaceOp .BitXor) (rI0 fun i j => .int (Builtin.bitXor i j)) := opI0 fun _ _ _ _ _ _ _ q => ixor_int q

theorem unI {f : Value → Sem Value} {g : Int → Int}
    (rule : ∀ (i : Int) (t : Tok) (s : Shared) (Q : Value → Shared → Prop) (E : Value → Shared → Prop), Q (.int (g i) s.toks) { s with toks := s.toks + 1 } → wpAny (model X.prog X.w) X.A (f (.int i t)) Q E s) :
    UnR X f (rU fun i => .int (g i)) := by
  intro pins s σ H x v Q I rx h
  obtain ⟨i, rfl, q⟩ := h
  obtain ⟨t, rfl⟩ := rx
  exact rule i t s _ _ ⟨.int (g i), H, I.tok _, ⟨_, rfl⟩, q⟩
theorem un_neg : UnR X (unaryOp .USub) (rU fun i => .int (-i)) := unI fun _ _ _ _ _ q => neg_int q
theorem un_inv : UnR X (unaryOp .Invert) (rU fun i => .int (Builtin.bitNot i)) := unI fun _ _ _ _ _ q => invert_int q

/-! ### bools among ints: n += (a < b) -/
theorem op_add_ib : OpR X (binaryOp .Add) (fun x y H Q => ∃ i k, x = .int i ∧ y = .bl k ∧ Q (.int (i + b2i k)) H) := by
  intro pins s σ H x y v u Q I rx ry h
  obtain ⟨i, k, rfl, rfl, q⟩ := h
  obtain ⟨t, rfl⟩ := rx
  cases ry
  exact add_int_bool ⟨.int (i + b2i k), H, I.tok _, ⟨_, rfl⟩, q⟩
end

/-! ### comparisons -/
/-- the scalars that == tells apart as data does -/
def scal : V → V → Bool
  | .non, .non => true | .non, .int _ => true | .int _, .non => true | .non, .bl _ => true | .bl _, .non => true | .non, .str _ => true | .str _, .non => true
  | .int _, .int _ => true | .bl _, .bl _ => true | .str _, .str _ => true | .byt _, .byt _ => true
  | .int _, .str _ => true | .str _, .int _ => true | .bl _, .str _ => true | .str _, .bl _ => true
  | _, _ => false
def rEq : R2 := fun x y H Q => scal x y = true ∧ Q (.bl (decide (x = y))) H
def rNe : R2 := fun x y H Q => scal x y = true ∧ Q (.bl (!decide (x = y))) H

theorem dec_int {i j : Int} : decide (V.int i = V.int j) = (i == j) := by
  rw [Bool.eq_iff_iff]
  simp
theorem dec_bl {i j : Bool} : decide (V.bl i = V.bl j) = (i == j) := by
  rw [Bool.eq_iff_iff]
  simp
theorem dec_str {i j : Str} : decide (V.str i = V.str j) = (i == j) := by
  rw [Bool.eq_iff_iff]
  simp
theorem dec_byt {i j : Array UInt8} : decide (V.byt i = V.byt j) = (i.toList == j.toList) := by
  rw [Bool.eq_iff_iff]
  cases i
  cases j
  simp

section
variable {X : Cx} {a b c : Expr} {ta tb tc : TE} {pos : Pos}
theorem fin_bl {pins : List (Addr × Obj)} {σ : St} {H : Hp} {s : Shared} {Q : VK} {k k' : Bool} (I : Inv X pins σ H s) (q : Q (.bl k) H) (e : k = k') : EP X pins σ Q (.bool k') s := by
  subst e
  exact ⟨.bl k, H, I, rfl, q⟩
theorem op_eq : OpR X (compareOp .Eq) rEq := by
  intro pins s σ H x y v u Q I rx ry h
  obtain ⟨hs, q⟩ := h
  cases x with
  | non =>
    cases rx
    cases y with
    | non => cases ry; exact PySem.EqNone.eq_none_none (fin_bl I q (by simp))
    | bl j => cases ry; exact PySem.EqNone.eq_none_bool (fin_bl I q (by simp))
    | int j => obtain ⟨t', rfl⟩ := ry; exact PySem.EqNone.eq_none_int (fin_bl I q (by simp))
    | str j => obtain ⟨t', rfl⟩ := ry; exact PySem.EqNone.eq_none_str (fin_bl I q (by simp))
    | _ => exact absurd (show false = true from hs) Bool.false_ne_true
  | bl i =>
    cases rx
    cases y with
    | non => cases ry; exact PySem.EqNone.eq_bool_none (fin_bl I q (by simp))
    | bl j => cases ry; exact eq_bool (fin_bl I q dec_bl)
    | str j => obtain ⟨t', rfl⟩ := ry; exact PySem.EqMixed.eq_bool_str (fin_bl I q (by simp))
    | _ => exact absurd (show false = true from hs) Bool.false_ne_true
  | int i =>
    obtain ⟨t, rfl⟩ := rx
    cases y with
    | non => cases ry; exact PySem.EqNone.eq_int_none (fin_bl I q (by simp))
    | int j => obtain ⟨t', rfl⟩ := ry; exact eq_int (fin_bl I q dec_int)
    | str j => obtain ⟨t', rfl⟩ := ry; exact PySem.EqMixed.eq_int_str (fin_bl I q (by simp))
    | _ => exact absurd (show false = true from hs) Bool.false_ne_true
  | str i =>
    obtain ⟨t, rfl⟩ := rx
    cases y with
    | non => cases ry; exact PySem.EqNone.eq_str_none (fin_bl I q (by simp))
    | bl j => cases ry; exact PySem.EqMixed.eq_str_bool (fin_bl I q (by simp))
    | int j => obtain ⟨t', rfl⟩ := ry; exact PySem.EqMixed.eq_str_int (fin_bl I q (by simp))
    | str j => obtain ⟨t', rfl⟩ := ry; exact eq_str (fin_bl I q dec_str)
    | _ => exact absurd (show false = true from hs) Bool.false_ne_true
  | byt i =>
    obtain ⟨t, rfl⟩ := rx
    cases y with
    | byt j => obtain ⟨t', rfl⟩ := ry; exact PySem.W.eq_bytes (fin_bl I q dec_byt)
    | _ => exact absurd (show false = true from hs) Bool.false_ne_true
  | _ => cases y <;> exact absurd (show false = true from hs) Bool.false_ne_true
theorem op_ne : OpR X (compareOp .NotEq) rNe := by
  intro pins s σ H x y v u Q I rx ry h
  obtain ⟨hs, q⟩ := h
  cases x with
  | non =>
    cases rx
    cases y with
    | non => cases ry; exact PySem.EqNone.ne_none_none (fin_bl I q (by simp))
    | bl j => cases ry; exact PySem.EqNone.ne_none_bool (fin_bl I q (by simp))
    | int j => obtain ⟨t', rfl⟩ := ry; exact PySem.EqNone.ne_none_int (fin_bl I q (by simp))
    | str j => obtain ⟨t', rfl⟩ := ry; exact PySem.EqNone.ne_none_str (fin_bl I q (by simp))
    | _ => exact absurd (show false = true from hs) Bool.false_ne_true
  | bl i =>
    cases rx
    cases y with
    | non => cases ry; exact PySem.EqNone.ne_bool_none (fin_bl I q (by simp))
    | bl j => cases ry; exact ne_bool (fin_bl I q (congrArg not dec_bl))
    | str j => obtain ⟨t', rfl⟩ := ry; exact PySem.EqMixed.ne_bool_str (fin_bl I q (by simp))
    | _ => exact absurd (show false = true from hs) Bool.false_ne_true
  | int i =>
    obtain ⟨t, rfl⟩ := rx
    cases y with
    | non => cases ry; exact PySem.EqNone.ne_int_none (fin_bl I q (by simp))
    | int j => obtain ⟨t', rfl⟩ := ry; exact ne_int (fin_bl I q (congrArg not dec_int))
    | str j => obtain ⟨t', rfl⟩ := ry; exact PySem.EqMixed.ne_int_str (fin_bl I q (by simp))
    | _ => exact absurd (show false = true from hs) Bool.false_ne_true
  | str i =>
    obtain ⟨t, rfl⟩ := rx
    cases y with
    | non => cases ry; exact PySem.EqNone.ne_str_none (fin_bl I q (by simp))
    | bl j => cases ry; exact PySem.EqMixed.ne_str_bool (fin_bl I q (by simp))
    | int j => obtain ⟨t', rfl⟩ := ry; exact PySem.EqMixed.ne_str_int (fin_bl I q (by simp))
    | str j => obtain ⟨t', rfl⟩ := ry; exact ne_str (fin_bl I q (congrArg not dec_str))
    | _ => exact absurd (show false = true from hs) Bool.false_ne_true
  | byt i =>
    obtain ⟨t, rfl⟩ := rx
    cases y with
    | byt j => obtain ⟨t', rfl⟩ := ry; exact PySem.W.ne_bytes (fin_bl I q (congrArg not dec_byt))
    | _ => exact absurd (show false = true from hs) Bool.false_ne_true
  | _ => cases y <;> exact absurd (show false = true from hs) Bool.false_ne_true

theorem op_lt : OpR X (compareOp .Lt) (rI0 fun i j => .bl (decide (i < j))) := opB0 fun _ _ _ _ _ _ _ q => lt_int q
theorem op_le : OpR X (compareOp .LtE) (rI0 fun i j => .bl (decide (i ≤ j))) := opB0 fun _ _ _ _ _ _ _ q => le_int q
theorem op_gt : OpR X (compareOp .Gt) (rI0 fun i j => .bl (decide (j < i))) := opB0 fun _ _ _ _ _ _ _ q => gt_int q
theorem op_ge : OpR X (compareOp .GtE) (rI0 fun i j => .bl (decide (j ≤ i))) := opB0 fun _ _ _ _ _ _ _ q => ge_int q
theorem op_lt_str : OpR X (compareOp .Lt) (fun x y H Q => ∃ i j, x = .str i ∧ y = .str j ∧ Q (.bl (decide (i.cps.toList < j.cps.toList))) H) := by
  intro pins s σ H x y v u Q I rx ry h
  obtain ⟨i, j, rfl, rfl, q⟩ := h
  obtain ⟨t, rfl⟩ := rx
  obtain ⟨t', rfl⟩ := ry
  exact lt_str (fin_bl I q rfl)
/-- the one string within the other -/
theorem op_in_str : OpR X (compareOp .In) (fun x y H Q => ∃ i j, x = .str i ∧ y = .str j ∧ Q (.bl (!(Builtin.Str.occurrences j i 0 j.length 1).isEmpty)) H) := by
  intro pins s σ H x y v u Q I rx ry h
  obtain ⟨i, j, rfl, rfl, q⟩ := h
  obtain ⟨t, rfl⟩ := rx
  obtain ⟨t', rfl⟩ := ry
  exact in_str (fin_bl I q rfl)

/-- is None, is not None: the right side a value none -/
theorem op_isN : OpR X (compareOp .Is) (fun x y H Q => y = .non ∧ Q (.bl (decide (x = .non))) H) := by
  intro pins s σ H x y v u Q I rx ry h
  obtain ⟨rfl, q⟩ := h
  cases ry
  refine is_none_gen (fin_bl I q ?_)
  cases x <;> first
    | (cases rx; rfl)
    | (obtain ⟨t, rfl⟩ := rx; rfl)
theorem op_notN : OpR X (compareOp .IsNot) (fun x y H Q => y = .non ∧ Q (.bl (!decide (x = .non))) H) := by
  intro pins s σ H x y v u Q I rx ry h
  obtain ⟨rfl, q⟩ := h
  cases ry
  refine isnot_none_gen (fin_bl I q ?_)
  cases x <;> first
    | (cases rx; rfl)
    | (obtain ⟨t, rfl⟩ := rx; rfl)

theorem op_notin_str : OpR X (compareOp .NotIn) (fun x y H Q => ∃ i j, x = .str i ∧ y = .str j ∧ Q (.bl (!(!(Builtin.Str.occurrences j i 0 j.length 1).isEmpty))) H) := by
  intro pins s σ H x y v u Q I rx ry h
  obtain ⟨i, j, rfl, rfl, q⟩ := h
  obtain ⟨t, rfl⟩ := rx
  obtain ⟨t', rfl⟩ := ry
  exact notIn_str (fin_bl I q rfl)
/-- is, is not of two objects that are tracked lists or instances -/
def isObj : HO → Bool
  | .lst _ => true
  | .ins _ _ _ => true
  | _ => false
theorem obj_there {pins : List (Addr × Obj)} {s : Shared} {σ : St} {H : Hp} {a : Addr} {o : HO} (I : Inv X pins σ H s) (h : H a = some o) (p : isObj o = true) : ∃ ob, s.heap.get? a = some ob ∧ ob.cls ≠ .type "tuple" := by
  cases o with
  | lst xs =>
    obtain ⟨_, its, n, _, e⟩ : xs.length ≤ sizeLine ∧ ∃ (its : List Value) (n : Nat), Vals xs its ∧ s.heap.get? a = some { cls := .type "list", data := .seq its.toArray n } := I.hok a _ h
    exact ⟨_, e, (by show Value.type "list" ≠ .type "tuple"; decide +kernel)⟩
  | ins C dx fs =>
    have x := I.hok a _ h
    obtain ⟨_, _, _, e, _⟩ := x
    exact ⟨_, e, (by show Value.ref C ≠ .type "tuple"; exact fun z => by cases z)⟩
  | _ => exact absurd (show false = true from p) Bool.false_ne_true
theorem op_is_ref : OpR X (compareOp .Is) (fun x y H Q => ∃ a b oa ob, x = .ref a ∧ y = .ref b ∧ H a = some oa ∧ isObj oa = true ∧ H b = some ob ∧ isObj ob = true ∧ Q (.bl (decide (a = b))) H) := by
  intro pins s σ H x y v u Q I rx ry h
  obtain ⟨a, b, oa, ob, rfl, rfl, ha, pa, hb, pb, q⟩ := h
  cases rx
  cases ry
  obtain ⟨o1, e1, n1⟩ := obj_there I ha pa
  obtain ⟨o2, e2, _⟩ := obj_there I hb pb
  by_cases z : a = b
  · subst z
    exact wpAny_is_ref_self (fin_bl I q (by simp))
  · exact wpAny_is_ref_other z e1 e2 n1 (fin_bl I q (by simp [z]))
theorem op_isnot_ref : OpR X (compareOp .IsNot) (fun x y H Q => ∃ a b oa ob, x = .ref a ∧ y = .ref b ∧ H a = some oa ∧ isObj oa = true ∧ H b = some ob ∧ isObj ob = true ∧ Q (.bl (!decide (a = b))) H) := by
  intro pins s σ H x y v u Q I rx ry h
  obtain ⟨a, b, oa, ob, rfl, rfl, ha, pa, hb, pb, q⟩ := h
  cases rx
  cases ry
  obtain ⟨o1, e1, n1⟩ := obj_there I ha pa
  obtain ⟨o2, e2, _⟩ := obj_there I hb pb
  by_cases z : a = b
  · subst z
    exact wpAny_isNot_ref_self (fin_bl I q (by simp))
  · exact wpAny_isNot_ref_other z e1 e2 n1 (fin_bl I q (by simp [z]))

/-- two rules for one operation: by cases -/
theorem OpR.or {f : Value → Value → Sem Value} {r r' : R2} (h : OpR X f r) (h' : OpR X f r') : OpR X f (fun x y H Q => r x y H Q ∨ r' x y H Q) := by
  intro pins s σ H x y v u Q I rx ry q
  rcases q with q | q
  · exact h pins s σ H x y v u Q I rx ry q
  · exact h' pins s σ H x y v u Q I rx ry q

theorem nomark (b : Expr) {op : CmpOp} (h : op ≠ .In := by decide) (h2 : op ≠ .NotIn := by decide) : behindInMarks op b = false := by
  have e1 : (op == CmpOp.In) = false := by cases op <;> first | rfl | exact absurd rfl h
  have e2 : (op == CmpOp.NotIn) = false := by cases op <;> first | rfl | exact absurd rfl h2
  cases b <;> simp [behindInMarks, e1, e2]
/-- a comparison as a value; hm: nomark b, or (for in, not in) by with_unfolding_all rfl -/
theorem pe_cmpR {op : CmpOp} {r : R2} (ho : OpR X (compareOp op) r) (ha : PE X a ta) (hb : PE X b tb) (hm : behindInMarks op b = false) : PE X (.Compare a [op] [b] pos) (tOp r ta tb) := by
  intro pins s σ H Q I h
  exact wpAny_Compare1 (binT ha hb I h fun v u s2 x y H2 I2 rx ry q => ho pins s2 σ H2 x y v u Q I2 rx ry q) hm
/-- a reading of a value as a test -/
def tTest (t : TE) : TT := fun σ H Q => t σ H fun x H' => ∃ k, x = .bl k ∧ Q k H'
theorem pt_cmpR {op : CmpOp} {r : R2} (ho : OpR X (compareOp op) r) (ha : PE X a ta) (hb : PE X b tb) (hm : behindInMarks op b = false) : PT X (.Compare a [op] [b] pos) (tTest (tOp r ta tb)) := by
  intro pins s σ H Q I h
  refine wpAny_isTrue_Compare1 (thn (ha pins s σ H _ I h) fun v s1 ⟨x, H1, I1, r1, q1⟩ => thn (hb pins s1 σ H1 _ I1 q1) fun u s2 ⟨y, H2, I2, r2, q2⟩ =>
    thn (ho pins s2 σ H2 x y v u _ I2 r1 r2 q2) fun c s3 ⟨z, H3, I3, r3, k, e, q3⟩ => ?_) hm
  subst e
  cases r3
  exact wpAny_truthy_bool ⟨H3, I3, q3⟩
/-- a op1 b op2 c -/
def tChain (r r' : R2) (ta tb tc : TE) : TE := fun σ H Q => ta σ H fun x H1 => tb σ H1 fun y H2 => r x y H2 fun z H3 => ∃ k, z = .bl k ∧
  (if k = true then tc σ H3 fun w' H4 => r' y w' H4 Q else Q (.bl false) H3)
theorem pe_chain {op op' : CmpOp} {r r' : R2} (ho : OpR X (compareOp op) r) (ho' : OpR X (compareOp op') r') (ha : PE X a ta) (hb : PE X b tb) (hc : PE X c tc)
    (hm : lastMarks [op, op'] [b, c] = false := by with_unfolding_all rfl) : PE X (.Compare a [op, op'] [b, c] pos) (tChain r r' ta tb tc) := by
  intro pins s σ H Q I h
  refine Compare_chain (thn (ha pins s σ H _ I h) fun v s1 ⟨x, H1, I1, r1, q1⟩ => chain_link (thn (hb pins s1 σ H1 _ I1 q1) fun u s2 ⟨y, H2, I2, r2, q2⟩ =>
    thn (ho pins s2 σ H2 x y v u _ I2 r1 r2 q2) fun d s3 ⟨z, H3, I3, r3, k, e, q3⟩ => ?_)) hm
  subst e
  cases r3
  refine wpAny_truthy_bool ?_
  cases k with
  | false => exact ite_ff ⟨.bl false, H3, I3, rfl, q3⟩
  | true => exact ite_tt (chain_last (thn (hc pins s3 σ H3 _ I3 q3) fun w' s4 ⟨z', H4, I4, r4, q4⟩ => ho' pins s4 σ H4 y z' u w' Q I4 r2 r4 q4))
theorem pt_chain {op op' : CmpOp} {r r' : R2} (ho : OpR X (compareOp op) r) (ho' : OpR X (compareOp op') r') (ha : PE X a ta) (hb : PE X b tb) (hc : PE X c tc)
    (hm : lastMarks [op, op'] [b, c] = false := by with_unfolding_all rfl) : PT X (.Compare a [op, op'] [b, c] pos) (tTest (tChain r r' ta tb tc)) := by
  intro pins s σ H Q I h
  refine isTrue_chain (thn (ha pins s σ H _ I h) fun v s1 ⟨x, H1, I1, r1, q1⟩ => test_link (thn (hb pins s1 σ H1 _ I1 q1) fun u s2 ⟨y, H2, I2, r2, q2⟩ =>
    thn (ho pins s2 σ H2 x y v u _ I2 r1 r2 q2) fun d s3 ⟨z, H3, I3, r3, k, e, q3⟩ => ?_)) hm
  subst e
  cases r3
  refine wpAny_truthy_bool ?_
  cases k with
  | false =>
    obtain ⟨k', e', q'⟩ := q3
    cases e'
    exact ite_ff ⟨H3, I3, q'⟩
  | true =>
    refine ite_tt (test_last (thn (hc pins s3 σ H3 _ I3 q3) fun w' s4 ⟨z', H4, I4, r4, q4⟩ => thn (ho' pins s4 σ H4 y z' u w' _ I4 r2 r4 q4) fun d' s5 ⟨z2, H5, I5, r5, k2, e2, q5⟩ => ?_))
    subst e2
    cases r5
    exact wpAny_truthy_bool ⟨H5, I5, q5⟩

/-! ### truth -/
/-- a value's truth by the abstract heap -/
def TruV (K : PySem.W.Frag) (x : V) (H : Hp) (k : Bool) : Prop :=
  match x with
  | .non => k = false
  | .bl b => k = b
  | .int i => k = (i != 0)
  | .str y => y.length ≤ sizeLine ∧ k = ((y.length : Int) != 0)
  | .byt y => y.size ≤ sizeLine ∧ k = ((y.size : Int) != 0)
  | .ref p => (∃ xs, SqL K H p xs ∧ k = !xs.isEmpty) ∨ (∃ xs, SqT K H p xs ∧ k = !xs.isEmpty) ∨ ∃ kvs, H p = some (.dK kvs) ∧ k = !kvs.isEmpty
  | _ => False
theorem isEmpty_kv {κ : Type} {kvs : List (κ × V)} {vs : List (κ × Value)} (r : KV kvs vs) : (!vs.isEmpty) = !kvs.isEmpty := by
  cases r <;> rfl
theorem isEmpty_of {xs : List V} {its : List Value} (r : Vals xs its) : (!its.toArray.isEmpty) = !xs.isEmpty := by
  cases r <;> simp
theorem line63 : (sizeLine : Nat) < 2 ^ 63 := by rw [sizeLine_eq]; decide
theorem tru_ok : TruR X (fun x H Q => ∃ k, TruV X.K x H k ∧ Q k H) := by
  intro pins s σ H x v Q I rx h
  obtain ⟨k, e, q⟩ := h
  have hl := line63
  have hs : sizeLine = 16777216 := sizeLine_eq
  cases x with
  | non =>
    cases rx
    have e' : k = false := e
    subst e'
    exact truthy_none ⟨H, I, q⟩
  | bl b =>
    cases rx
    have e' : k = b := e
    subst e'
    exact wpAny_truthy_bool ⟨H, I, q⟩
  | int i =>
    obtain ⟨t, rfl⟩ := rx
    have e' : k = (i != 0) := e
    subst e'
    exact PySem.P.truthy_int ⟨H, I, q⟩
  | str y =>
    obtain ⟨t, rfl⟩ := rx
    obtain ⟨hy, e'⟩ : y.length ≤ sizeLine ∧ k = ((y.length : Int) != 0) := e
    subst e'
    exact PySem.P.truthy_str (by omega) ⟨H, I.tok _, q⟩
  | byt y =>
    obtain ⟨t, rfl⟩ := rx
    obtain ⟨hy, e'⟩ : y.size ≤ sizeLine ∧ k = ((y.size : Int) != 0) := e
    subst e'
    exact PySem.W.truthy_bytes (by omega) ⟨H, I.tok _, q⟩
  | ref p =>
    cases rx
    have e' : (∃ xs, SqL X.K H p xs ∧ k = !xs.isEmpty) ∨ (∃ xs, SqT X.K H p xs ∧ k = !xs.isEmpty) ∨ ∃ kvs, H p = some (.dK kvs) ∧ k = !kvs.isEmpty := e
    rcases e' with ⟨xs, hx, e'⟩ | ⟨xs, hx, e'⟩ | ⟨kvs, hx, e'⟩
    · subst e'
      obtain ⟨its, r, pl, hz⟩ := I.list hx
      have hlen := r.length
      exact wpAny_truthy_list pl.isList (by simp only [List.size_toArray]; omega) ⟨H, I.tok _, by rw [isEmpty_of r]; exact q⟩
    · subst e'
      obtain ⟨its, r, pl, hz⟩ := I.tuple hx
      have hlen := r.length
      exact truthy_tuple pl (by simp only [List.size_toArray]; omega) ⟨H, I.tok _, by rw [isEmpty_of r]; exact q⟩
    · subst e'
      obtain ⟨hz, hS, vs, r, m⟩ : kvs.length ≤ sizeLine ∧ (p == sysModules) = false ∧ ∃ vs, KV kvs vs ∧ s.heap.DictOf (mixKind X.prog X.w) p vs := I.hok p _ hx
      have hlen : kvs.length = vs.length := Paired.length r
      exact wpAny_truthy_dict hS m (by omega) ⟨H, I.tok _, by rw [isEmpty_kv r]; exact q⟩
  | _ => exact (show False from e).elim
/-- any expression whose test is its value's truth (a name, a call, a subscript, a field ..: he by fun _ => rfl) -/
theorem pt_truth (ha : PE X a ta) (he : ∀ whole, isTrue a X.env whole = (do let v ← whole; standAt a.pos; holding [v] (truthy v))) :
    PT X a (fun σ H Q => ta σ H fun x H' => ∃ k, TruV X.K x H' k ∧ Q k H') := by
  intro pins s σ H Q I h
  exact isTrue_plain (thn (ha pins s σ H _ I h) fun v s1 ⟨x, H1, I1, r1, q1⟩ => tru_ok pins s1 σ H1 x v Q I1 r1 q1) (he _)

/-! ### strs and bytes -/
theorem pe_byt {x : List UInt8} {k : Nat} : PE X (.Constant (.bytes x) k pos) (fun _ H Q => Q (.byt x.toArray) H) := fun _ _ _ H _ I h => PySem.W.Constant_bytes ⟨.byt x.toArray, H, I.tok _, ⟨_, rfl⟩, h⟩
theorem op_add_str : OpR X (binaryOp .Add) (fun x y H Q => ∃ i j, x = .str i ∧ y = .str j ∧ i.length + j.length ≤ sizeLine ∧ Q (.str (i ++ j)) H) := by
  intro pins s σ H x y v u Q I rx ry h
  obtain ⟨i, j, rfl, rfl, hz, q⟩ := h
  obtain ⟨t, rfl⟩ := rx
  obtain ⟨t', rfl⟩ := ry
  exact add_str (fun t' tk => ⟨.str (i ++ j), H, I.tok _, ⟨_, rfl⟩, q⟩) hz
theorem iop_add_str : OpR X (inplaceOp .Add) (fun x y H Q => ∃ i j, x = .str i ∧ y = .str j ∧ i.length + j.length ≤ sizeLine ∧ Q (.str (i ++ j)) H) := by
  intro pins s σ H x y v u Q I rx ry h
  obtain ⟨i, j, rfl, rfl, hz, q⟩ := h
  obtain ⟨t, rfl⟩ := rx
  obtain ⟨t', rfl⟩ := ry
  exact iadd_str (fun t' tk => ⟨.str (i ++ j), H, I.tok _, ⟨_, rfl⟩, q⟩) hz
theorem op_add_byt : OpR X (binaryOp .Add) (fun x y H Q => ∃ i j, x = .byt i ∧ y = .byt j ∧ i.size + j.size ≤ 16777216 ∧ Q (.byt (i ++ j)) H) := by
  intro pins s σ H x y v u Q I rx ry h
  obtain ⟨i, j, rfl, rfl, hz, q⟩ := h
  obtain ⟨t, rfl⟩ := rx
  obtain ⟨t', rfl⟩ := ry
  exact PySem.W.KBy.add_bytes hz (fun t' tk => ⟨.byt (i ++ j), H, I.tok _, ⟨_, rfl⟩, q⟩)

def PlainIxT (b : Expr) : Prop := ∀ o i, subscripted b false o i = operate [o, i] (getItem o i)
/-- s[i], 0 ≤ i < len -/
theorem pe_item_str (ha : PE X a ta) (hb : PE X b tb) (hs : PlainIxT b) :
    PE X (.Subscript a b pos) (tOp (fun x y H Q => ∃ z i c, x = .str z ∧ y = .int i ∧ 0 ≤ i ∧ i < 2 ^ 63 ∧ i < z.length ∧ z.cps[i.toNat]? = some c ∧ Q (.str ⟨#[c]⟩) H) ta tb) := by
  intro pins s σ H Q I h
  refine Subscript_ (binT ha hb I h fun v u s2 x y H2 I2 rx ry q => ?_)
  obtain ⟨z, i, c, rfl, rfl, h0, h63, h1, hc, q⟩ := q
  obtain ⟨t, rfl⟩ := rx
  obtain ⟨t', rfl⟩ := ry
  have e : seqIndex? i z.length = some i.toNat := PySem.StrLaws.seqIndex_nonneg h0 h1
  exact tail_any (typeIs_str s2 z t) slot_str_getitem.lookup (getItem_str (c := c) (by
    have e1 : decide (i < -(2 ^ 63 : Int)) = false := decide_eq_false (by omega)
    have e2 : decide (i ≥ 2 ^ 63) = false := decide_eq_false (by omega)
    rw [e1, e2] <;> rfl) (by rw [e]; exact hc) ⟨.str ⟨#[c]⟩, H2, I2.tok _, ⟨_, rfl⟩, q⟩) (hs _ _)
/-- b[i], 0 ≤ i < len -/
theorem pe_item_byt (ha : PE X a ta) (hb : PE X b tb) (hs : PlainIxT b) :
    PE X (.Subscript a b pos) (tOp (fun x y H Q => ∃ (z : List UInt8) (i : Int), x = .byt z.toArray ∧ y = .int i ∧ z.length ≤ sizeLine ∧ 0 ≤ i ∧ i < z.length ∧ Q (.int ((z.getD i.toNat 0).toNat : Nat)) H) ta tb) := by
  intro pins s σ H Q I h
  refine Subscript_ (binT ha hb I h fun v u s2 x y H2 I2 rx ry q => ?_)
  obtain ⟨z, i, rfl, rfl, hz, h0, h1, q⟩ := q
  obtain ⟨t, rfl⟩ := rx
  obtain ⟨t', rfl⟩ := ry
  have hl : sizeLine = 16777216 := sizeLine_eq
  exact tail_any (PySem.W.typeIs_bytes s2 z.toArray t) PySem.W.FB.slot_bytes_getitem.lookup (PySem.W.getItem_bytes (by omega) h0 h1 ⟨.int ((z.getD i.toNat 0).toNat : Nat), H2, I2.tok _, ⟨_, rfl⟩, q⟩) (hs _ _)

/-! ### scalar builtins, by CallR -/
theorem vals1 {x : V} {us : List Value} (r : Vals [x] us) : ∃ u, us = [u] ∧ RelV x u := by
  cases r with
  | cons r1 r2 => cases r2; exact ⟨_, rfl, r1⟩
theorem vals2 {x y : V} {us : List Value} (r : Vals [x, y] us) : ∃ u w', us = [u, w'] ∧ RelV x u ∧ RelV y w' := by
  cases r with
  | cons r1 r2 =>
    cases r2 with
    | cons r3 r4 => cases r4; exact ⟨_, _, rfl, r1, r3⟩
theorem call_abs : CallR X (.builtin "abs") (fun xs H Q => ∃ i, xs = [.int i] ∧ Q (.int (if i < 0 then -i else i)) H) := by
  intro pins s σ H xs us Q I r h
  obtain ⟨i, rfl, q⟩ := h
  obtain ⟨u, rfl, t, rfl⟩ := vals1 r
  exact call_abs_int fun u tk => ⟨.int (if i < 0 then -i else i), H, I.tok _, ⟨_, rfl⟩, q⟩
theorem call_max2 (hc : X.calm = true) : CallR X (.builtin "max") (fun xs H Q => ∃ i j, xs = [.int i, .int j] ∧ Q (.int (if j > i then j else i)) H) := by
  intro pins s σ H xs us Q I r h
  obtain ⟨i, j, rfl, q⟩ := h
  obtain ⟨u, w', rfl, ⟨t, rfl⟩, ⟨t', rfl⟩⟩ := vals2 r
  refine max_two_ints (I.ok.hd hc) fun h' tk k => ⟨_, H, I.kept k, ?_, q⟩
  by_cases hj : j > i
  · rw [if_pos hj, if_pos hj]; exact ⟨_, rfl⟩
  · rw [if_neg hj, if_neg hj]; exact ⟨_, rfl⟩
theorem call_min2 (hc : X.calm = true) : CallR X (.builtin "min") (fun xs H Q => ∃ i j, xs = [.int i, .int j] ∧ Q (.int (if j < i then j else i)) H) := by
  intro pins s σ H xs us Q I r h
  obtain ⟨i, j, rfl, q⟩ := h
  obtain ⟨u, w', rfl, ⟨t, rfl⟩, ⟨t', rfl⟩⟩ := vals2 r
  refine min_two_ints (I.ok.hd hc) fun h' tk k => ⟨_, H, I.kept k, ?_, q⟩
  by_cases hj : j < i
  · rw [if_pos hj, if_pos hj]; exact ⟨_, rfl⟩
  · rw [if_neg hj, if_neg hj]; exact ⟨_, rfl⟩
theorem call_int1 : CallR X (.type "int") (fun xs H Q => (∃ i, xs = [.int i] ∧ Q (.int i) H) ∨ ∃ k, xs = [.bl k] ∧ Q (.int (if k then 1 else 0)) H) := by
  intro pins s σ H xs us Q I r h
  rcases h with ⟨i, rfl, q⟩ | ⟨k, rfl, q⟩
  · obtain ⟨u, rfl, t, rfl⟩ := vals1 r
    exact call_int_int ⟨.int i, H, I, ⟨_, rfl⟩, q⟩
  · obtain ⟨u, rfl, r1⟩ := vals1 r
    cases r1
    exact call_int_bool ⟨.int (if k then 1 else 0), H, I.tok _, ⟨_, rfl⟩, q⟩
theorem call_bool1 : CallR X (.type "bool") (fun xs H Q => (∃ i, xs = [.int i] ∧ Q (.bl (i != 0)) H) ∨ ∃ k, xs = [.bl k] ∧ Q (.bl k) H) := by
  intro pins s σ H xs us Q I r h
  rcases h with ⟨i, rfl, q⟩ | ⟨k, rfl, q⟩
  · obtain ⟨u, rfl, t, rfl⟩ := vals1 r
    exact call_bool_int ⟨.bl (i != 0), H, I, rfl, q⟩
  · obtain ⟨u, rfl, r1⟩ := vals1 r
    cases r1
    exact call_bool_bool ⟨.bl k, H, I, rfl, q⟩
theorem call_str_int : CallR X (.type "str") (fun xs H Q => ∃ i, xs = [.int i] ∧ i.natAbs.log2 < 1920 ∧ Q (.str (toString i)) H) := by
  intro pins s σ H xs us Q I r h
  obtain ⟨i, rfl, hz, q⟩ := h
  obtain ⟨u, rfl, t, rfl⟩ := vals1 r
  exact PySem.P.str_of_int hz ⟨.str _, H, I.tok _, ⟨_, rfl⟩, q⟩
theorem call_ord : CallR X (.builtin "ord") (fun xs H Q => ∃ x, xs = [.str x] ∧ x.length = 1 ∧ Q (.int (x.cps.getD 0 0 : Nat)) H) := by
  intro pins s σ H xs us Q I r h
  obtain ⟨x, rfl, hz, q⟩ := h
  obtain ⟨u, rfl, t, rfl⟩ := vals1 r
  exact ord_of_one hz ⟨.int _, H, I.tok _, ⟨_, rfl⟩, q⟩
theorem call_chr : CallR X (.builtin "chr") (fun xs H Q => ∃ i, xs = [.int i] ∧ 0 ≤ i ∧ i ≤ 1114111 ∧ Q (.str ⟨#[i.toNat]⟩) H) := by
  intro pins s σ H xs us Q I r h
  obtain ⟨i, rfl, h0, h1, q⟩ := h
  obtain ⟨u, rfl, t, rfl⟩ := vals1 r
  exact chr_of_range h0 h1 ⟨.str _, H, I.tok _, ⟨_, rfl⟩, q⟩
/-- len of a str, a bytes, a list, a tuple -/
def LenV (K : PySem.W.Frag) (x : V) (H : Hp) (n : Nat) : Prop :=
  match x with
  | .str y => y.length ≤ sizeLine ∧ n = y.length
  | .byt y => y.size ≤ sizeLine ∧ n = y.size
  | .ref p => (∃ xs, SqL K H p xs ∧ n = xs.length) ∨ ∃ xs, SqT K H p xs ∧ n = xs.length
  | _ => False
theorem call_len : CallR X (.builtin "len") (fun xs H Q => ∃ x n, xs = [x] ∧ LenV X.K x H n ∧ Q (.int n) H) := by
  intro pins s σ H xs us Q I r h
  obtain ⟨x, n, rfl, e, q⟩ := h
  obtain ⟨u, rfl, rx⟩ := vals1 r
  have hl := line63
  have hs : sizeLine = 16777216 := sizeLine_eq
  cases x with
  | str y =>
    obtain ⟨t, rfl⟩ := rx
    obtain ⟨hy, e'⟩ : y.length ≤ sizeLine ∧ n = y.length := e
    subst e'
    exact len_str (by omega) ⟨.int _, H, I.tok _, ⟨_, rfl⟩, q⟩
  | byt y =>
    obtain ⟨t, rfl⟩ := rx
    obtain ⟨hy, e'⟩ : y.size ≤ sizeLine ∧ n = y.size := e
    subst e'
    exact PySem.W.len_bytes (by omega) ⟨.int _, H, I.tok _, ⟨_, rfl⟩, q⟩
  | ref p =>
    cases rx
    have e' : (∃ xs, SqL X.K H p xs ∧ n = xs.length) ∨ ∃ xs, SqT X.K H p xs ∧ n = xs.length := e
    rcases e' with ⟨xs, hx, e'⟩ | ⟨xs, hx, e'⟩
    · subst e'
      obtain ⟨its, r', pl, hz⟩ := I.list hx
      have hlen := r'.length
      exact Calls.call_len_list pl.isList (by simp only [List.size_toArray]; omega) ⟨.int xs.length, H, I.tok _, ⟨_, by simp only [List.size_toArray]; rw [hlen]⟩, q⟩
    · subst e'
      obtain ⟨its, r', pl, hz⟩ := I.tuple hx
      have hlen := r'.length
      exact len_tuple pl (by simp only [List.size_toArray]; omega) ⟨.int xs.length, H, I.tok _, ⟨_, by simp only [List.size_toArray]; rw [hlen]⟩, q⟩
  | _ => exact (show False from e).elim
/-- divmod: a new tuple -/
theorem call_divmod : CallR X (.builtin "divmod") (fun xs H Q => ∃ i j, xs = [.int i, .int j] ∧ CDiv i j ∧ ∀ p, H p = none → Q (.ref p) (upd H p (.tup [.int (i / j), .int (i % j)]))) := by
  intro pins s σ H xs us Q I r h
  obtain ⟨i, j, rfl, ⟨h1, h2⟩, q⟩ := h
  obtain ⟨u, w', rfl, ⟨t, rfl⟩, ⟨t', rfl⟩⟩ := vals2 r
  refine divmod_int (by omega) ?_ (.inl (PyProof.noPylong_small (by omega)))
  rw [Int.fdiv_eq_ediv_of_nonneg i (by omega), Int.fmod_eq_emod_of_nonneg i (by omega)]
  have hn : H s.heap.objs.size = none := I.hok.fresh (Nat.le_refl _)
  refine ⟨.ref s.heap.objs.size, _, ?_, rfl, q _ hn⟩
  refine I.laid (fun b o e => Heap.get?_push_of_some _ e) (Nat.le_refl _) ⟨by simp only [List.length_cons, List.length_nil]; rw [sizeLine_eq]; decide, [.int (i / j) s.toks, .int (i % j) (s.toks + 1)], .cons ⟨_, rfl⟩ (.cons ⟨_, rfl⟩ .nil), ?_⟩
  exact ⟨_, Heap.get?_push_size s.heap rfl, rfl, 0, rfl⟩
end
end L2

namespace L2
open PySem PySem.Spec PyProof.Rows

/-! ### an instance, its attributes a map -/
structure ObjM (h : Heap) (x dx C : Addr) (mA : Str → Option Value) : Prop where
  obj : h.get? x = some (PySem.W.instObj C dx)
  ns : h.Ns1 dx mA
  ne : dx ≠ x

theorem lookIn_ns {h : Heap} {dx : Addr} {mA : Str → Option Value} (n : h.Ns1 dx mA) : ∃ od, h.get? dx = some od ∧ ∀ name, PySem.W.lookIn name od = some (mA name) := by
  obtain ⟨o, es, ep, ho, hd, hk, _, hm⟩ := n
  refine ⟨o, ho, fun name => ?_⟩
  have e := hm name
  unfold nsFind findBy at e
  rw [← Array.find?_toList] at e
  unfold PySem.W.lookIn
  rw [hd]
  dsimp only
  split
  · rename_i y q
    rw [q] at e
    exact congrArg some e
  · rename_i q
    rw [q] at e
    have a : es.toList.any (·.refKey) = false := by
      rw [List.any_eq_false]
      intro y hy
      obtain ⟨z, t, hkey⟩ := hk y (Array.mem_toList_iff.mp hy)
      simp [DictEntry.refKey, hkey]
    have a' : ¬ es.toList.any (·.refKey) = true := by rw [a]; exact Bool.false_ne_true
    rw [if_neg a']
    exact congrArg some e

theorem ObjM.look {h : Heap} {x dx C : Addr} {mA : Str → Option Value} (I : ObjM h x dx C mA) : ∃ od, PySem.W.InstAt h x (PySem.W.instObj C dx) C (some od) ∧ ∀ name, PySem.W.lookIn name od = some (mA name) :=
  let ⟨od, ho, hl⟩ := lookIn_ns I.ns
  ⟨od, ⟨I.obj, rfl, rfl, ho⟩, hl⟩

section
variable {prog : Program} {w : World} {A : Around} {E : Value → Shared → Prop} {s : Shared} {K : PySem.W.Frag} {x dx C f : Addr} {mA : Str → Option Value} {name : Str} {v : Value}

theorem get_map {expr : Bool} {Q : Value → Shared → Prop} (X : K.In s.heap) (I : ObjM s.heap x dx C mA) (hg : PySem.W.plainGet K C name = true) (hh : PySem.W.hasDictIn K C = true)
    (ha : PySem.W.findIn K (.ref C) name = some none) (hv : mA name = some v) (hv' : PySem.W.handedIn v = true) (h : Q v { s with toks := s.toks + 1 }) :
    wpAny (model prog w) A (getAttr (.ref x) name expr) Q E s := by
  obtain ⟨od, J, hl⟩ := I.look
  exact PySem.W.get_value X J (PySem.W.plainGet_of hg).1 (PySem.W.findObj_own hh ha rfl (by rw [hl, hv])) hv' h

theorem get_const {expr : Bool} {a : Value} {Q : Value → Shared → Prop} (X : K.In s.heap) (I : ObjM s.heap x dx C mA) (hg : PySem.W.plainGet K C name = true) (hh : PySem.W.hasDictIn K C = true)
    (ha : PySem.W.findIn K (.ref C) name = some (some a)) (hn : PySem.W.specialIn K a "__get__" = some none) (hc : PySem.W.copiedNames.contains name = false) (hv : mA name = none) (hv' : PySem.W.handedIn a = true)
    (h : Q a { s with toks := s.toks + 1 }) : wpAny (model prog w) A (getAttr (.ref x) name expr) Q E s := by
  obtain ⟨od, J, hl⟩ := I.look
  exact PySem.W.get_value X J (PySem.W.plainGet_of hg).1 (PySem.W.findObj_cls hh ha hn hv' hc (by rw [hl, hv])) hv' h

theorem get_meth {pl : Sem Bool} {Q : Value × List Value → Shared → Prop} (X : K.In s.heap) (I : ObjM s.heap x dx C mA) (hg : PySem.W.plainGet K C name = true)
    (hf : PySem.W.findIn K (.ref C) name = some (some (.ref f))) (ht : PySem.W.isFn K (.ref f) = true) (hv : mA name = none) (h : Q (.ref f, [.ref x]) s) :
    wpAny (model prog w) A (getMethod (.ref x) name pl) Q E s := by
  obtain ⟨od, J, hl⟩ := I.look
  exact PySem.W.method_fn X J (PySem.W.plainGet_of hg).1 (PySem.W.plainGet_of hg).2 hf (beq_iff_eq.mp ht) (by show (PySem.W.lookIn name od).map (·.isSome) = some false; rw [hl, hv]; rfl) h

theorem set_map {ns : List Str} {Q : Unit → Shared → Prop} (X : K.In s.heap) (I : ObjM s.heap x dx C mA)
    (hs : PySem.W.findIn K (.ref C) "__setattr__" = some (some (.builtin "object.__setattr__"))) (hp : PySem.W.plainOver K C = true) (ht : PySem.W.takerIn K C name = some none) (hh : PySem.W.hasDictIn K C = true)
    (hw : PySem.Within mA ns) (hsz : ns.length ≤ sizeLine)
    (h : ∀ h', ObjM h' x dx C (fun y => if y = name then some v else mA y) → Heap.SameBut dx s.heap h' → Q () { s with heap := h', toks := s.toks + 2 }) :
    wpAny (model prog w) A (setAttr (.ref x) name v) Q E s := by
  obtain ⟨od, J, hl⟩ := I.look
  refine PySem.W.set_plain X J hs (PySem.W.osa_open (s := { s with toks := s.toks + 1 }) (r := none) X J hp ht fun b => ?_)
  obtain ⟨cd, hc, hd'⟩ := PySem.W.any_some hh
  have hx : s.heap.get? x = some ⟨.ref C, some dx, .plain, #[]⟩ := I.obj
  refine wpAny_bind (wpAny_pure (wpAny_bind (wpAny_bind (wpAny_loadPart hx (wpAny_bind (PySem.W.Looks.here (s := { s with toks := s.toks + 1 }) (PySem.W.looks_clsIn X hc) ?_))))))
  rw [hd']
  refine wpAny_pure (a := some dx) (wpAny_bind (wpAny_pure (wpAny_bind ?_)))
  refine wpAny_nsSet1 (s := { s with toks := s.toks + 1 }) I.ns fun h' hn2 hs2 => ?_
  obtain ⟨oD, esD, epD, hoD, hdD, hcD⟩ := hn2.count (PySem.Within.cons name v hw)
  refine wpAny_bind (wpAny_lookBehind hoD (by rw [hdD]; exact pastItsLine_dict (Nat.le_trans hcD (by rw [List.length_cons]; omega))) ?_)
  exact wpAny_pure (h _ ⟨(hs2.2 _ (Ne.symm I.ne)).trans I.obj, hn2, I.ne⟩ hs2)

/-- C(..): the dict at the heap's end, the instance behind it; then its __init__ -/
theorem make_map {R : Result → Shared → Prop} {vs : List Value} {kw : List (Str × Value)} (X : K.In s.heap) (hm : PySem.W.makesIn K C = true)
    (hi : PySem.W.findIn K (.ref C) "__init__" = some (some (.ref f))) (hf : PySem.W.typeIn K (.ref f) = some (.type "function"))
    (h : codeAny (model prog w) (A.under (.builtin "type.__call__" ⟨.ref C :: vs, kw⟩)) (.call (.ref f) ⟨.ref (s.heap.objs.size + 1) :: vs, kw⟩) (PySem.W.InitBack (s.heap.objs.size + 1) R)
      { s with heap := (s.heap.push PySem.W.emptyDict).push (PySem.W.instObj C s.heap.objs.size) }) :
    codeAny (model prog w) A (.call (.ref C) ⟨vs, kw⟩) R s := by
  obtain ⟨hh, g, d, t, os⟩ := s
  exact PySem.W.make_core (PySem.W.makes_of X hm) (PySem.W.looks_findIn X hi) (fun self => PySem.W.bind_fn X self hf) (.inl rfl) h
/-- C() where there is no __init__ but object's -/
theorem make_map0 {R : Result → Shared → Prop} (X : K.In s.heap) (hm : PySem.W.makesIn K C = true)
    (hi : PySem.W.findIn K (.ref C) "__init__" = some (some (.builtin "object.__init__")))
    (hb : ∀ self, PySem.W.Looks (model prog w) s.heap (bindSpecial (.builtin "object.__init__") self) (.builtin "object.__init__", [self]))
    (h : codeAny (model prog w) (A.under (.builtin "type.__call__" ⟨[.ref C], []⟩)) (.call (.builtin "object.__init__") ⟨[.ref (s.heap.objs.size + 1)], []⟩) (PySem.W.InitBack (s.heap.objs.size + 1) R)
      { s with heap := (s.heap.push PySem.W.emptyDict).push (PySem.W.instObj C s.heap.objs.size) }) :
    codeAny (model prog w) A (.call (.ref C) ⟨[], []⟩) R s := by
  obtain ⟨hh, g, d, t, os⟩ := s
  exact PySem.W.make_core (PySem.W.makes_of X hm) (PySem.W.looks_findIn X hi) hb (.inr ⟨rfl, rfl⟩) h
end

/-! ### the attributes as a list of pairs -/
def putF (f : Str) (v : V) : List (Str × V) → List (Str × V)
  | [] => [(f, v)]
  | (g, x) :: r => if g = f then (g, v) :: r else (g, x) :: putF f v r
theorem lookup_putF (f g : Str) (v : V) : ∀ fs : List (Str × V), (putF f v fs).lookup g = if g = f then some v else fs.lookup g
  | [] => by
    show List.lookup g [(f, v)] = _
    by_cases h : g = f
    · have hb : (g == f) = true := beq_iff_eq.mpr h
      simp only [List.lookup, hb, if_pos h]
    · have hb : (g == f) = false := beq_eq_false_iff_ne.mpr h
      simp only [List.lookup, hb, if_neg h]
  | (k, x) :: r => by
    have ih := lookup_putF f g v r
    rw [show putF f v ((k, x) :: r) = (if k = f then (k, v) :: r else (k, x) :: putF f v r) from rfl]
    by_cases hk : k = f
    · rw [if_pos hk]
      by_cases h : g = k
      · have hb : (g == k) = true := beq_iff_eq.mpr h
        simp only [List.lookup, hb, if_pos (h.trans hk)]
      · have hb : (g == k) = false := beq_eq_false_iff_ne.mpr h
        simp only [List.lookup, hb, if_neg (fun e : g = f => h (e.trans hk.symm))]
    · rw [if_neg hk]
      by_cases h : g = k
      · have hb : (g == k) = true := beq_iff_eq.mpr h
        simp only [List.lookup, hb, if_neg (fun e : g = f => hk (h.symm.trans e))]
      · have hb : (g == k) = false := beq_eq_false_iff_ne.mpr h
        simp only [List.lookup, hb]
        exact ih
theorem keys_putF (f : Str) (v : V) : ∀ fs : List (Str × V), f ∈ (putF f v fs).map (·.1) ∧ ∀ g, g ∈ fs.map (·.1) → g ∈ (putF f v fs).map (·.1)
  | [] => ⟨by simp [putF], fun g h => by simp at h⟩
  | (k, x) :: r => by
    obtain ⟨i1, i2⟩ := keys_putF f v r
    rw [show putF f v ((k, x) :: r) = (if k = f then (k, v) :: r else (k, x) :: putF f v r) from rfl]
    by_cases hk : k = f
    · rw [if_pos hk]
      subst hk
      exact ⟨by simp, fun g h => by simpa using h⟩
    · rw [if_neg hk]
      refine ⟨?_, fun g h => ?_⟩
      · rw [List.map_cons]
        exact List.mem_cons_of_mem _ i1
      · rw [List.map_cons] at h ⊢
        rcases List.mem_cons.mp h with e | e
        · exact List.mem_cons.mpr (.inl e)
        · exact List.mem_cons_of_mem _ (i2 g e)
theorem length_putF (f : Str) (v : V) : ∀ fs : List (Str × V), (putF f v fs).length ≤ fs.length + 1
  | [] => by simp [putF]
  | (k, x) :: r => by
    have ih := length_putF f v r
    rw [show putF f v ((k, x) :: r) = (if k = f then (k, v) :: r else (k, x) :: putF f v r) from rfl]
    by_cases hk : k = f
    · rw [if_pos hk, List.length_cons, List.length_cons]; omega
    · rw [if_neg hk, List.length_cons, List.length_cons]; omega

theorem RelO.some_of {v : V} {o : Option Value} (r : RelO (some v) o) : ∃ u, o = some u ∧ RelV v u := by
  cases o with
  | none => exact (show False from r).elim
  | some u => exact ⟨u, rfl, r⟩
theorem RelO.none_of {o : Option Value} (r : RelO none o) : o = none := by
  cases o with
  | none => rfl
  | some u => exact (show False from r).elim
theorem handed_of {v : V} {u : Value} (r : RelV v u) : PySem.W.handedIn u = true := by
  cases v with
  | non => cases (show u = Value.none from r); rfl
  | bl b => cases (show u = Value.bool b from r); rfl
  | int i => obtain ⟨t, e⟩ := (show ∃ t, u = Value.int i t from r); cases e; rfl
  | str x => obtain ⟨t, e⟩ := (show ∃ t, u = Value.str x t from r); cases e; rfl
  | byt b => obtain ⟨t, e⟩ := (show ∃ t, u = Value.bytes b t from r); cases e; rfl
  | flt b => obtain ⟨t, e⟩ := (show ∃ t, u = Value.float b t from r); cases e; rfl
  | ref a => cases (show u = Value.ref a from r); rfl
  | ty n => cases (show u = Value.type n from r); rfl

section
variable {P : Program} {w : World} {H H' : Hp} {h h' : Heap} {a C dx : Addr} {fs fs' : List (Str × V)}
theorem ins_get (hok : HOk P w H h) (e : H a = some (.ins C dx fs)) : ∃ mA, ObjM h a dx C mA ∧ (∀ f, RelO (fs.lookup f) (mA f)) ∧ PySem.Within mA (fs.map (·.1)) ∧ fs.length ≤ 1000 ∧ H dx = some (.own a) := by
  obtain ⟨d, z, ne, ob, mA, n, r, q⟩ := (show ObjOk P w H h a (.ins C dx fs) from hok a _ e)
  exact ⟨mA, ⟨ob, n, ne⟩, r, q, z, d⟩
end

/-! ### what of the text a class must have -/
structure Cls (K : PySem.W.Frag) (C : Addr) : Prop where
  pg : PySem.W.plainGet K C Str.empty = true
  hd : PySem.W.hasDictIn K C = true
  po : PySem.W.plainOver K C = true
  sa : PySem.W.findIn K (.ref C) "__setattr__" = some (some (.builtin "object.__setattr__"))
theorem Cls.get {K : PySem.W.Frag} {C : Addr} (c : Cls K C) (f : Str) : PySem.W.plainGet K C f = true := c.pg
/-- no class of it has the name -/
def NoAttr (K : PySem.W.Frag) (C : Addr) (f : Str) : Prop := PySem.W.findIn K (.ref C) f = some none
theorem NoAttr.taker {K : PySem.W.Frag} {C : Addr} {f : Str} (n : NoAttr K C f) : PySem.W.takerIn K C f = some none := by
  unfold PySem.W.takerIn
  rw [show PySem.W.findIn K (.ref C) f = some none from n]
  rfl
/-- a constant of the class -/
structure Con (K : PySem.W.Frag) (C : Addr) (f : Str) (v : V) (u : Value) : Prop where
  at_ : PySem.W.findIn K (.ref C) f = some (some u)
  rel : RelV v u
  get : PySem.W.specialIn K u "__get__" = some none
  cp : PySem.W.copiedNames.contains f = false
/-- a method: a plain def of the class or of one above it -/
structure Meth (K : PySem.W.Frag) (C : Addr) (m : Str) (f : Addr) : Prop where
  at_ : PySem.W.findIn K (.ref C) m = some (some (.ref f))
  fn : PySem.W.isFn K (.ref f) = true
  kp : PySem.W.keepIn K (.ref f) = true

section
variable {X : Cx} {pins : List (Addr × Obj)} {σ : St} {H : Hp} {s : Shared} {a C dx : Addr} {fs : List (Str × V)} {f : Str} {v : V} {A : Around} {E : Value → Shared → Prop}

theorem getattr_ok {b : Bool} {Q : Value → Shared → Prop} (I : Inv X pins σ H s) (e : H a = some (.ins C dx fs)) (c : Cls X.K C) (n : NoAttr X.K C f) (l : fs.lookup f = some v)
    (h : ∀ u s', Inv X pins σ H s' → RelV v u → Q u s') : wpAny (model X.prog X.w) A (getAttr (.ref a) f b) Q E s := by
  obtain ⟨mA, O, r, _, _, _⟩ := ins_get I.hok e
  obtain ⟨u, hu, ru⟩ := RelO.some_of (v := v) (o := mA f) (by rw [← l]; exact r f)
  exact get_map I.kIn O (c.get f) c.hd n hu (handed_of ru) (h u _ (I.tok _) ru)

theorem getcon_ok {b : Bool} {u : Value} {Q : Value → Shared → Prop} (I : Inv X pins σ H s) (e : H a = some (.ins C dx fs)) (c : Cls X.K C) (k : Con X.K C f v u) (l : fs.lookup f = none)
    (h : ∀ s', Inv X pins σ H s' → Q u s') : wpAny (model X.prog X.w) A (getAttr (.ref a) f b) Q E s := by
  obtain ⟨mA, O, r, _, _, _⟩ := ins_get I.hok e
  have hn : mA f = none := RelO.none_of (by rw [← l]; exact r f)
  exact get_const I.kIn O (c.get f) c.hd k.at_ k.get k.cp hn (handed_of k.rel) (h _ (I.tok _))

theorem getmeth_ok {m : Str} {g : Addr} {pl : Sem Bool} {Q : Value × List Value → Shared → Prop} (I : Inv X pins σ H s) (e : H a = some (.ins C dx fs)) (c : Cls X.K C) (k : Meth X.K C m g) (l : fs.lookup m = none)
    (h : Q (.ref g, [.ref a]) s) : wpAny (model X.prog X.w) A (getMethod (.ref a) m pl) Q E s := by
  obtain ⟨mA, O, r, _, _, _⟩ := ins_get I.hok e
  have hn : mA m = none := RelO.none_of (by rw [← l]; exact r m)
  exact get_meth I.kIn O (c.get m) k.at_ k.fn hn h

theorem setattr_ok {y : V} {u : Value} {Q : Unit → Shared → Prop} (I : Inv X pins σ H s) (e : H a = some (.ins C dx fs)) (c : Cls X.K C) (n : NoAttr X.K C f) (hl : fs.length < 1000) (ry : RelV y u)
    (h : ∀ s', Inv X pins σ (upd H a (.ins C dx (putF f y fs))) s' → Q () s') : wpAny (model X.prog X.w) A (setAttr (.ref a) f u) Q E s := by
  obtain ⟨mA, O, r, wi, _, ho⟩ := ins_get I.hok e
  have hz : (fs.map (·.1)).length ≤ sizeLine := by rw [List.length_map, sizeLine_eq]; omega
  refine set_map I.kIn O c.sa c.po n.taker c.hd wi hz fun h' O' sb => h _ ?_
  have hd : ∃ o, h'.get? dx = some o := let ⟨o, _, _, e', _⟩ := O'.ns; ⟨o, e'⟩
  refine I.write (x := a) (e := dx) (by rw [e]; exact True.intro) (.inr ho) (fun b q hb z => (sb.2 b hb).trans z) hd ?_
  refine ⟨by rw [upd_ne O.ne]; exact ho, ?_, O.ne, O'.obj, _, O'.ns, fun g => ?_, fun g hg => ?_⟩
  · have := length_putF f y fs; omega
  · show RelO ((putF f y fs).lookup g) (if g = f then some u else mA g)
    rw [lookup_putF]
    by_cases q : g = f
    · rw [if_pos q, if_pos q]; exact ry
    · rw [if_neg q, if_neg q]; exact r g
  · by_cases q : g = f
    · rw [q]; exact (keys_putF f y fs).1
    · refine (keys_putF f y fs).2 g (wi g fun z => hg ?_)
      show (if g = f then some u else mA g) = none
      rw [if_neg q]; exact z

/-- a new instance, tracked, without attributes -/
theorem Inv.made (I : Inv X pins σ H s) : Inv X pins σ (upd (upd H s.heap.objs.size (.own (s.heap.objs.size + 1))) (s.heap.objs.size + 1) (.ins C s.heap.objs.size []))
    { s with heap := (s.heap.push PySem.W.emptyDict).push (PySem.W.instObj C s.heap.objs.size) } := by
  have e1 : (s.heap.push PySem.W.emptyDict).get? s.heap.objs.size = some PySem.W.emptyDict := Heap.get?_push_size s.heap rfl
  have e2 : ((s.heap.push PySem.W.emptyDict).push (PySem.W.instObj C s.heap.objs.size)).get? (s.heap.objs.size + 1) = some (PySem.W.instObj C s.heap.objs.size) := by
    have := Heap.get?_push_size (s.heap.push PySem.W.emptyDict) (o := PySem.W.instObj C s.heap.objs.size) rfl
    rwa [Heap.size_push] at this
  have e3 : (s.heap.push PySem.W.emptyDict).Ns s.heap.objs.size (fun _ => none) := ⟨PySem.W.emptyDict, #[], _, e1, rfl, (fun e he => absurd he (by simp)), fun _ => rfl⟩
  have I1 := I.laid (a := s.heap.objs.size) (o := .own (s.heap.objs.size + 1)) (h' := s.heap.push PySem.W.emptyDict) (t' := s.toks) (fun b u q => Heap.get?_push_of_some _ q) (Nat.le_refl _) ⟨_, e1⟩
  refine I1.laid (a := s.heap.objs.size + 1) (o := .ins C s.heap.objs.size []) (t' := s.toks) (fun b u q => Heap.get?_push_of_some _ q) (Nat.le_of_eq (Heap.size_push _ _)) ?_
  have ne : s.heap.objs.size ≠ s.heap.objs.size + 1 := Nat.ne_of_lt (Nat.lt_succ_self _)
  refine ⟨by rw [upd_ne ne, upd_same], Nat.zero_le _, ne, e2, fun _ => none, (Heap.Ns1.of_empty e3).at fun o q => Heap.get?_push_of_some _ q, fun _ => True.intro, fun y hy => absurd rfl hy⟩

/-- e.f where nothing but the object is asked: through attributeBase (super) and the last hold -/
theorem attr_of {prog : Program} {w : World} {env : Env} {e : Expr} {f : Str} {pos : Pos} {s : Shared} {Q : Value → Shared → Prop} (hb : attributeBase e f env (eval e env) = eval e env)
    (h : wpAny (model prog w) A (eval e env) (fun o s₁ => wpAny (model prog w) A (getAttr o f true) Q E s₁) E s) : wpAny (model prog w) A (eval (.Attribute e f pos) env) Q E s :=
  Attribute_any_ h (by rw [arm_eval_Attribute, hb])
end

/-! ### readings and rules -/
/-- e.f, an attribute of the instance -/
def tFld (K : PySem.W.Frag) (ta : TE) (f : Str) : TE := fun σ H Q => ta σ H fun x H1 => ∃ a C dx fs v, x = .ref a ∧ H1 a = some (.ins C dx fs) ∧ Cls K C ∧ NoAttr K C f ∧ fs.lookup f = some v ∧ Q v H1
/-- e.f, a constant of the class -/
def tCon (K : PySem.W.Frag) (ta : TE) (f : Str) : TE := fun σ H Q => ta σ H fun x H1 => ∃ a C dx fs v u, x = .ref a ∧ H1 a = some (.ins C dx fs) ∧ Cls K C ∧ Con K C f v u ∧ fs.lookup f = none ∧ Q v H1
/-- e.f = value -/
def sFld (K : PySem.W.Frag) (ta tv : TE) (f : Str) : TS := fun D σ H => tv σ H fun y H1 => ta σ H1 fun x H2 => ∃ a C dx fs, x = .ref a ∧ H2 a = some (.ins C dx fs) ∧ Cls K C ∧ NoAttr K C f ∧ fs.length < 1000 ∧
  D.nx σ (upd H2 a (.ins C dx (putF f y fs)))
/-- an augmented operator on two values -/
def InOp (X : Cx) (op : Operator) (rd : V → V → Hp → VK → Prop) : Prop :=
  ∀ (pins : List (Addr × Obj)) (s : Shared) (σ : St) (H : Hp) (x y : V) (u v : Value) (Q : VK), Inv X pins σ H s → RelV x u → RelV y v → rd x y H Q → wpAny (model X.prog X.w) X.A (inplaceOp op u v) (EP X pins σ Q) X.xe s
/-- e.f op= value -/
def sFldAug (K : PySem.W.Frag) (ta tv : TE) (rd : V → V → Hp → VK → Prop) (f : Str) : TS := fun D σ H => ta σ H fun x H1 => ∃ a C dx fs v, x = .ref a ∧ H1 a = some (.ins C dx fs) ∧ Cls K C ∧ NoAttr K C f ∧ fs.lookup f = some v ∧
  tv σ H1 fun y H2 => rd v y H2 fun z H3 => ∃ dx' fs', H3 a = some (.ins C dx' fs') ∧ fs'.length < 1000 ∧ D.nx σ (upd H3 a (.ins C dx' (putF f z fs')))

section
variable {X : Cx} {o e value : Expr} {f : Str} {pos pos' tpos : Pos} {ta tv : TE}
theorem pe_fld (he : PE X e ta) (hb : attributeBase e f X.env (eval e X.env) = eval e X.env) : PE X (.Attribute e f pos) (tFld X.K ta f) := by
  intro pins s σ H Q I h
  refine attr_of hb (thn (he pins s σ H _ I h) fun u s1 ⟨x, H1, I1, rx, a, C, dx, fs, v, ex, ea, c, n, l, q⟩ => ?_)
  subst ex
  obtain rfl : u = Value.ref a := rx
  exact getattr_ok I1 ea c n l fun u' s2 I2 ru => ⟨v, H1, I2, ru, q⟩
theorem pe_con (he : PE X e ta) (hb : attributeBase e f X.env (eval e X.env) = eval e X.env) : PE X (.Attribute e f pos) (tCon X.K ta f) := by
  intro pins s σ H Q I h
  refine attr_of hb (thn (he pins s σ H _ I h) fun u s1 ⟨x, H1, I1, rx, a, C, dx, fs, v, u0, ex, ea, c, k, l, q⟩ => ?_)
  subst ex
  obtain rfl : u = Value.ref a := rx
  exact getcon_ok I1 ea c k l fun s2 I2 => ⟨v, H1, I2, k.rel, q⟩
theorem ps_fld (ha : PE X o ta) (hv : PE X value tv) (hs : swapsWith value (some (.Attribute o f pos')) pos.line X.env = pure false) : PS X (.Assign [.Attribute o f pos'] value pos) (sFld X.K ta tv f) := by
  intro pins s σ H D I h
  refine plainObj_wpAny_Assign_Attribute (thn (hv pins s σ H _ I h) fun u s1 ⟨y, H1, I1, ry, q⟩ => thn (ha pins s1 σ H1 _ I1 q) fun ov s2 ⟨x, H2, I2, rx, a, C, dx, fs, ex, ea, c, n, l, q2⟩ => ?_) hs
  subst ex
  obtain rfl : ov = Value.ref a := rx
  exact setattr_ok I2 ea c n l ry fun s3 I3 => ⟨σ, _, I3, q2⟩
theorem ps_fldaug {op : Operator} {rd : V → V → Hp → VK → Prop} (ha : PE X o ta) (hv : PE X value tv) (hop : InOp X op rd) : PS X (.AugAssign (.Attribute o f tpos) op value pos) (sFldAug X.K ta tv rd f) := by
  intro pins s σ H D I h
  refine wpAny_AugAssign_AttributeAny (thn (ha pins s σ H _ I h) fun ov s1 ⟨x, H1, I1, rx, a, C, dx, fs, v, ex, ea, c, n, l, q⟩ => ?_)
  subst ex
  obtain rfl : ov = Value.ref a := rx
  refine getattr_ok I1 ea c n l fun u s2 I2 ru => thn (hv pins s2 σ H1 _ I2 q) fun w3 s3 ⟨y, H2, I3, ry, q3⟩ => thn (hop pins s3 σ H2 v y u w3 _ I3 ru ry q3) fun w4 s4 ⟨z, H3, I4, rz, dx', fs', ea', l', q4⟩ => ?_
  exact setattr_ok I4 ea' c n l' rz fun s5 I5 => ⟨σ, _, I5, q4⟩
def rAdd : V → V → Hp → VK → Prop := fun x y H Q => ∃ i j, x = .int i ∧ y = .int j ∧ Q (.int (i + j)) H
def rSub : V → V → Hp → VK → Prop := fun x y H Q => ∃ i j, x = .int i ∧ y = .int j ∧ Q (.int (i - j)) H
theorem in_add : InOp X .Add rAdd := by
  rintro pins s σ H x y u v Q I rx ry ⟨i, j, rfl, rfl, q⟩
  obtain ⟨t, rfl⟩ := (show ∃ t, u = Value.int i t from rx)
  obtain ⟨t', rfl⟩ := (show ∃ t', v = Value.int j t' from ry)
  exact PyProof.Rows.iadd_int ⟨.int (i + j), H, I.tok _, ⟨_, rfl⟩, q⟩
theorem in_sub : InOp X .Sub rSub := by
  rintro pins s σ H x y u v Q I rx ry ⟨i, j, rfl, rfl, q⟩
  obtain ⟨t, rfl⟩ := (show ∃ t, u = Value.int i t from rx)
  obtain ⟨t', rfl⟩ := (show ∃ t', v = Value.int j t' from ry)
  exact PyProof.Rows.isub_int ⟨.int (i - j), H, I.tok _, ⟨_, rfl⟩, q⟩

/-- what is between an instance and its method: the tree of a method call -/
theorem methcall_of {pl : Sem Bool} {m : Str} {apos : Pos} {args : List Expr} {pins : List (Addr × Obj)} {s : Shared} {σ : St} {H : Hp} {Q : Value → Shared → Prop} {te : TE} (he : PE X e te) (I : Inv X pins σ H s)
    (h : te σ H fun x H1 => ∃ a C dx fs g, x = .ref a ∧ H1 a = some (.ins C dx fs) ∧ Cls X.K C ∧ Meth X.K C m g ∧ fs.lookup m = none ∧
      ∀ s1, Inv X pins σ H1 s1 → wpAny (model X.prog X.w) X.A (callWith pos (.ref g) [.ref a] (backTo pos (starEach args X.env)) (backToKw pos (keywordEach [] X.env))) Q X.xe s1)
    (ht : eval (.Call (.Attribute e m apos) args [] pos) X.env = (do
      let ov ← eval e X.env
      standAt apos.atName
      let (f, first) ← holding [ov] (getMethod ov m pl)
      callWith pos f first (backTo pos (starEach args X.env)) (backToKw pos (keywordEach [] X.env)))) :
    wpAny (model X.prog X.w) X.A (eval (.Call (.Attribute e m apos) args [] pos) X.env) Q X.xe s := by
  refine PySem.W.methodCall_KW (pl := pl) (thn (he pins s σ H _ I h) fun u s1 ⟨x, H1, I1, rx, a, C, dx, fs, g, ex, ea, c, k, l, q⟩ => ?_) ht
  subst ex
  obtain rfl : u = Value.ref a := rx
  exact getmeth_ok I1 ea c k l (q s1 I1)
end

/-! ### isinstance -/
section
variable {X : Cx} {pins : List (Addr × Obj)} {σ : St} {H : Hp} {s : Shared} {A : Around} {E : Value → Shared → Prop} {Q : Value → Shared → Prop} {c : Value} {b : Bool}
/-- the type of a value, as the fragment's deciders take it; for an instance its class -/
inductive TyOf (K : PySem.W.Frag) (H : Hp) : V → Value → Prop where
  | non : TyOf K H .non (.type "NoneType")
  | bl (x : Bool) : TyOf K H (.bl x) (.type "bool")
  | int (i : Int) : TyOf K H (.int i) (.type "int")
  | str (x : Str) : TyOf K H (.str x) (.type "str")
  | flt (x : UInt64) : TyOf K H (.flt x) (.type "float")
  | lst {a : Addr} {xs : List V} (e : H a = some (.lst xs)) : TyOf K H (.ref a) (.type "list")
  | frz {a : Addr} {o : Obj} {xs : List V} (e : H a = some (.frz o (.lst xs))) : TyOf K H (.ref a) (.type "list")
  | tup {a : Addr} {xs : List V} (e : H a = some (.tup xs)) : TyOf K H (.ref a) (.type "tuple")
  | dK {a : Addr} {kvs : List (Key × V)} (e : H a = some (.dK kvs)) : TyOf K H (.ref a) (.type "dict")
  | dT {a : Addr} {kvs : List (List Key × V)} (e : H a = some (.dT kvs)) : TyOf K H (.ref a) (.type "dict")
  | ins {a C dx : Addr} {fs : List (Str × V)} (e : H a = some (.ins C dx fs)) (cl : Cls K C) (ha : PySem.W.findIn K (.ref C) "__class__" = some (some (.builtin "object.__class__")))
      (hn : PySem.W.specialIn K (.builtin "object.__class__") "__get__" = some (some (.builtin "getset_descriptor.__get__"))) (htk : PySem.W.takesIn K (.builtin "object.__class__") = some true)
      (hm : PySem.W.mroIn K C (.type "object") = some true) : TyOf K H (.ref a) (.ref C)
/-- isinstance(x, c) for one class c, a built-in or an own one: kitOne's answer -/
theorem isinst_ok {x : V} {u t : Value} (I : Inv X pins σ H s) (rx : RelV x u) (ty : TyOf X.K H x t) (e : PySem.W.kitOne X.K t c = some b) (h : ∀ tk, Q (.bool b) { s with toks := tk }) :
    wpAny (model X.prog X.w) A (call (.builtin "isinstance") [u, c]) Q E s := by
  cases ty with
  | non => cases (show u = Value.none from rx); exact PySem.W.kia_one PySem.W.kitx_none I.kIn True.intro e (fun z => nomatch z) h
  | bl y => cases (show u = Value.bool y from rx); exact PySem.W.kia_one PySem.W.kitx_bool I.kIn True.intro e (fun z => nomatch z) h
  | int i => obtain ⟨t, q⟩ := (show ∃ t, u = Value.int i t from rx); cases q; exact PySem.W.kia_one PySem.W.kitx_int I.kIn True.intro e (fun z => nomatch z) h
  | str y => obtain ⟨t, q⟩ := (show ∃ t, u = Value.str y t from rx); cases q; exact PySem.W.kia_one PySem.W.kitx_str I.kIn True.intro e (fun z => nomatch z) h
  | flt y => obtain ⟨t, q⟩ := (show ∃ t, u = Value.float y t from rx); cases q; exact PySem.W.kia_one PySem.W.kitx_float I.kIn True.intro e (fun z => nomatch z) h
  | @lst a xs ea =>
    cases (show u = Value.ref a from rx)
    obtain ⟨_, _, n, _, h1⟩ := (show ObjOk X.prog X.w H s.heap a (.lst xs) from I.hok a _ ea)
    exact PySem.W.kia_one PySem.W.kitx_list I.kIn ⟨_, h1, rfl⟩ e (fun z => nomatch z) h
  | @frz a ob xs ea =>
    cases (show u = Value.ref a from rx)
    obtain ⟨_, _, _, n, _, h1⟩ := (show ObjOk X.prog X.w H s.heap a (.frz ob (.lst xs)) from I.hok a _ ea)
    exact PySem.W.kia_one PySem.W.kitx_list I.kIn ⟨_, h1, rfl⟩ e (fun z => nomatch z) h
  | @tup a xs ea =>
    cases (show u = Value.ref a from rx)
    obtain ⟨_, _, _, p⟩ := (show ObjOk X.prog X.w H s.heap a (.tup xs) from I.hok a _ ea)
    obtain ⟨o, h1, h2, _⟩ := p
    exact PySem.W.kia_one PySem.W.kitx_tuple I.kIn ⟨o, h1, h2⟩ e (fun z => nomatch z) h
  | @dK a kvs ea =>
    cases (show u = Value.ref a from rx)
    obtain ⟨_, _, vs, _, p⟩ := (show ObjOk X.prog X.w H s.heap a (.dK kvs) from I.hok a _ ea)
    obtain ⟨o, es, ep, h1, h2, _⟩ := p
    exact PySem.W.kia_one PySem.W.kitx_dict I.kIn ⟨o, h1, h2.1⟩ e (fun z => nomatch z) h
  | @dT a kvs ea =>
    cases (show u = Value.ref a from rx)
    obtain ⟨_, _, xs, _, o, es, ep, h1, h2, _⟩ := (show ObjOk X.prog X.w H s.heap a (.dT kvs) from I.hok a _ ea)
    exact PySem.W.kia_one PySem.W.kitx_dict I.kIn ⟨o, h1, h2.1⟩ e (fun z => nomatch z) h
  | @ins a C dx fs ea cl ha hn htk hm =>
    cases (show u = Value.ref a from rx)
    obtain ⟨mA, O, _⟩ := ins_get I.hok ea
    obtain ⟨od, J, _⟩ := O.look
    exact PySem.W.kia_one (PySem.W.kitx_own (cl.get _) cl.hd ha hn htk hm) I.kIn J e (fun z => nomatch z) h
end
end L2

namespace L2
open PySem PySem.Spec PyProof.Rows

/-! ### room -/
structure Room (k : Nat) (A : Around) : Prop where
  hd : A.handled = none
  dp : A.depth + 3 * k + 5 < recursionLimit
  un : A.units + 16 * k + 200 < cLine
theorem Room.mono {j k : Nat} {A : Around} (r : Room k A) (h : j ≤ k) : Room j A := ⟨r.hd, by have := r.dp; omega, by have := r.un; omega⟩
theorem Room.deeper {k : Nat} {A : Around} (r : Room (k + 1) A) (env : Env) : Room k (A.deeper env) :=
  ⟨r.hd, by have := r.dp; show A.depth + 1 + 3 * k + 5 < _; omega, by have := r.un; show A.units + 3 + 16 * k + 200 < _; omega⟩
theorem Room.in1 {k : Nat} {A : Around} (r : Room (k + 1) A) : Room k A.in1 :=
  ⟨r.hd, by have := r.dp; show A.depth + 3 * k + 5 < _; omega, by have := r.un; show A.units + 1 + 16 * k + 200 < _; omega⟩
theorem make_depth {A : Around} {C : Addr} {us : List Value} {kw : List (Str × Value)} : (A.under (.builtin "type.__call__" ⟨.ref C :: us, kw⟩)).depth = A.depth + 1 := by
  first | rfl | simp [Around.under, Code.weight, Code.isCreation, Code.isGuard, Code.isCaller, Code.frames, Code.isFrame, guardIds]
theorem make_units {A : Around} {C : Addr} {us : List Value} {kw : List (Str × Value)} : (A.under (.builtin "type.__call__" ⟨.ref C :: us, kw⟩)).units = A.units + 1 := by
  first | rfl | simp [Around.under, Code.cUnits, Code.frames, Code.isFrame]
theorem Room.make {k : Nat} {A : Around} (r : Room (k + 1) A) (C : Addr) (us : List Value) (kw : List (Str × Value)) : Room k (A.under (.builtin "type.__call__" ⟨.ref C :: us, kw⟩)) :=
  ⟨r.hd, by have := r.dp; rw [make_depth]; omega, by have := r.un; rw [make_units]; omega⟩
theorem Room.depth {k : Nat} {A : Around} (r : Room k A) : A.depth < recursionLimit := by have := r.dp; omega
theorem Room.units {k : Nat} {A : Around} (r : Room k A) : A.units + 64 < cLine := by have := r.un; omega
theorem Room.units0 {k : Nat} {A : Around} (r : Room k A) : A.units < cLine := by have := r.un; omega

/-! ### argument lists and displays -/
def tNil : TA := fun _ H Q => Q [] H
def tCons (ta : TE) (tr : TA) : TA := fun σ H Q => ta σ H fun x H1 => tr σ H1 fun xs H2 => Q (x :: xs) H2
section
variable {X : Cx} {e : Expr} {es : List Expr} {te : TE} {t : TA} {pos : Pos}
theorem pa_nil : PA X [] tNil := fun _ _ _ _ H Q I h => Calls.spliced_nil ⟨[], H, I, .nil, h⟩
theorem pa_cons (ha : PE X e te) (hr : PA X es t) (hs : starEach (e :: es) X.env = (false, eval e X.env) :: starEach es X.env := by rfl) : PA X (e :: es) (tCons te t) := by
  intro pos pins s σ H Q I h
  rw [hs]
  show wpAny _ _ (spliced ((false, eval e X.env) :: backTo pos (starEach es X.env))) _ _ s
  refine Calls.spliced_cons (thn (ha pins s σ H _ I h) fun u s1 ⟨x, H1, I1, r1, q1⟩ => ?_)
  exact thn (hr pos pins s1 σ H1 _ I1 q1) fun us s2 ⟨xs, H2, I2, r2, q2⟩ => ⟨x :: xs, H2, I2, .cons r1 r2, q2⟩

/-- a tuple, a list of written items -/
def tTup (t : TA) : TE := fun σ H Q => t σ H fun xs H1 => xs.length ≤ sizeLine ∧ ∀ p, H1 p = none → Q (.ref p) (upd H1 p (.tup xs))
def tLst (t : TA) : TE := fun σ H Q => t σ H fun xs H1 => xs.length ≤ sizeLine ∧ ∀ p, H1 p = none → Q (.ref p) (upd H1 p (.lst xs))
theorem pe_tup {x1} (h : PA X es t) : PE X (.Tuple es x1 pos) (tTup t) := by
  intro pins s σ H Q I hq
  refine wpAny_Tuple_spliced (thn (h pos pins s σ H _ I hq) fun us s1 ⟨xs, H1, I1, r, z, q⟩ => ⟨by rw [← r.length]; exact z, ?_⟩)
  have hf : H1 s1.heap.objs.size = none := I1.hok.fresh (Nat.le_refl _)
  refine ⟨.ref s1.heap.objs.size, upd H1 s1.heap.objs.size (.tup xs), I1.laid (t' := s1.toks) (fun b u e => Heap.get?_push_of_some _ e) (Nat.le_refl _) ?_, rfl, q _ hf⟩
  exact ⟨z, us, r, ⟨_, Heap.get?_push_size _ rfl, rfl, _, rfl⟩⟩
theorem pe_lst (h : PA X es t) : PE X (.List es pos) (tLst t) := by
  intro pins s σ H Q I hq
  refine wpAny_List_spliced (thn (h pos pins s σ H _ I hq) fun us s1 ⟨xs, H1, I1, r, z, q⟩ => ⟨by rw [← r.length]; exact z, ?_⟩)
  have hf : H1 s1.heap.objs.size = none := I1.hok.fresh (Nat.le_refl _)
  refine ⟨.ref s1.heap.objs.size, upd H1 s1.heap.objs.size (.lst xs), I1.laid (t' := s1.toks) (fun b u e => Heap.get?_push_of_some _ e) (Nat.le_refl _) ?_, rfl, q _ hf⟩
  exact ⟨z, us, 0, r, Heap.get?_push_size _ rfl⟩
end

/-! ### what a def promises -/
/-- a def's promise: the bound arguments in the parameters' order, the heap, the wanted end, the wanted exception -/
abbrev Sp := List V → Hp → VK → XK → Prop
/-- how an exception lies behind a call (file 08 gives it): the callers' frames, abstract heap and state ahead of the call, the wish, the exception, the state -/
abbrev CXT := List Env → Hp → Shared → XK → Value → Shared → Prop

/-- the state at a call -/
structure Env0 (P : Program) (w : World) (K : PySem.W.Frag) (mg : Str → Option Value) (base : Heap) (A : Around) (outer : List Env) (s : Shared) (H : Hp) : Prop where
  frames : A.frames = some outer
  mod : Mod K mg base
  bs : ∀ b o, base.get? b = some o → s.heap.get? b = some o ∧ H b = none
  bsz : base.objs.size ≤ s.heap.objs.size
  funs : s.heap.FunFrames base outer
  frf : ∀ b ∈ frs outer, H b = none
  hok : HOk P w H s.heap
  bare : AllBare s.gens
/-- a call's end -/
def CE (outer : List Env) (P : Program) (w : World) (H : Hp) (s : Shared) (Q : VK) (u : Value) (s' : Shared) : Prop :=
  ∃ v H', s'.os = s.os ∧ AllBare s'.gens ∧ Un (frs outer) [] H H' s.heap s'.heap ∧ HOk P w H' s'.heap ∧ RelV v u ∧ Q v H'
def CR (CX : CXT) (outer : List Env) (P : Program) (w : World) (H : Hp) (s : Shared) (Q : VK) (E : XK) (r : Result) (s' : Shared) : Prop :=
  match r with
  | .ok (.ret u) => CE outer P w H s Q u s'
  | .ok _ => False
  | .error e => CX outer H s E e s'
structure FnOk (P : Program) (w : World) (K : PySem.W.Frag) (mg : Str → Option Value) (base : Heap) (CX : CXT) (k : Nat) (f : Addr) (fd : FuncData) (ps : List Str) (sp : Sp) : Prop where
  len : ∀ vs H Q E, sp vs H Q E → vs.length = ps.length
  run : ∀ (A : Around) (outer : List Env) (s : Shared) (H : Hp) (args : Args) (us : List Value) (vs : List V) (Q : VK) (E : XK), Room k A → Env0 P w K mg base A outer s H → BindsTo s fd args (ps.zip us) → Vals vs us → sp vs H Q E →
    codeAny (model P w) A (.call (.ref f) args) (CR CX outer P w H s Q E) s
theorem FnOk.mono {P : Program} {w : World} {K : PySem.W.Frag} {mg : Str → Option Value} {base : Heap} {CX : CXT} {j k : Nat} {f : Addr} {fd : FuncData} {ps : List Str} {sp : Sp} (F : FnOk P w K mg base CX j f fd ps sp) (h : j ≤ k) :
    FnOk P w K mg base CX k f fd ps sp := ⟨F.len, fun A outer s H args us vs Q E hr => F.run A outer s H args us vs Q E (hr.mono h)⟩
/-- a weaker promise -/
theorem FnOk.imp {P : Program} {w : World} {K : PySem.W.Frag} {mg : Str → Option Value} {base : Heap} {CX : CXT} {k : Nat} {f : Addr} {fd : FuncData} {ps : List Str} {sp sp' : Sp} (F : FnOk P w K mg base CX k f fd ps sp)
    (h : ∀ vs H Q E, sp' vs H Q E → sp vs H Q E) : FnOk P w K mg base CX k f fd ps sp' :=
  ⟨fun vs H Q E q => F.len vs H Q E (h _ _ _ _ q), fun A outer s H args us vs Q E hr he hb hv hs => F.run A outer s H args us vs Q E hr he hb hv (h _ _ _ _ hs)⟩

theorem Env0.make {P : Program} {w : World} {K : PySem.W.Frag} {mg : Str → Option Value} {base : Heap} {A : Around} {outer : List Env} {s : Shared} {H : Hp} (e : Env0 P w K mg base A outer s H) (C : Addr) (us : List Value) (kw : List (Str × Value)) :
    Env0 P w K mg base (A.under (.builtin "type.__call__" ⟨.ref C :: us, kw⟩)) outer s H := ⟨by first | exact e.frames | (simpa [Around.under, Code.envs, Code.isFrame, pushEnvs] using e.frames), e.mod, e.bs, e.bsz, e.funs, e.frf, e.hok, e.bare⟩
theorem Env0.in1 {P : Program} {w : World} {K : PySem.W.Frag} {mg : Str → Option Value} {base : Heap} {A : Around} {outer : List Env} {s : Shared} {H : Hp} (e : Env0 P w K mg base A outer s H) :
    Env0 P w K mg base A.in1 outer s H := ⟨e.frames, e.mod, e.bs, e.bsz, e.funs, e.frf, e.hok, e.bare⟩

section
variable {X : Cx} {pins : List (Addr × Obj)} {σ : St} {H : Hp} {s s' : Shared}
/-- from a body: what a callee wants -/
theorem Inv.env0 (I : Inv X pins σ H s) : Env0 X.prog X.w X.K X.mg X.base X.A X.stack s H :=
  ⟨I.ok.frames, I.ok.mod, I.bs, Nat.le_trans I.ok.bsz I.sz, I.stack, I.stkFree, I.hok, I.bare⟩
/-- behind a call -/
theorem Inv.after {Q : VK} {u : Value} (I : Inv X pins σ H s) (h : CE X.stack X.prog X.w H s Q u s') : EP X pins σ Q u s' := by
  obtain ⟨v, H', os, bare, un, hok, r, q⟩ := h
  obtain ⟨hh, g, d, t, os'⟩ := s'
  obtain rfl : os' = s.os := os
  exact ⟨v, H', I.call (h' := hh) (g' := g) (d' := d) (t' := t) (ch := []) un hok bare (fun b z => absurd z (by simp)), r, q⟩
end

/-! ### calls -/
/-- f(..): the written arguments, then the defaults dvs; E: what is wanted of an exception -/
def tCall (sp : Sp) (dvs : List V) (E : XK) (t : TA) : TE := fun σ H Q => t σ H fun vs H1 => sp (vs ++ dvs) H1 Q E
/-- o.m(..) of an instance of the class at C -/
def tMeth (C : Addr) (m : Str) (sp : Sp) (dvs : List V) (E : XK) (ta : TE) (t : TA) : TE := fun σ H Q => ta σ H fun x H1 => ∃ a dx fs, x = .ref a ∧ H1 a = some (.ins C dx fs) ∧ fs.lookup m = none ∧
  t σ H1 fun vs H2 => sp (x :: (vs ++ dvs)) H2 Q E
/-- C(..): a new instance and its dict, then __init__ -/
def tMake (C : Addr) (sp : Sp) (dvs : List V) (E : XK) (t : TA) : TE := fun σ H Q => t σ H fun vs H1 => ∀ x dx, H1 x = none → H1 dx = none → dx ≠ x →
  sp (.ref x :: (vs ++ dvs)) (upd (upd H1 dx (.own x)) x (.ins C dx [])) (fun v H2 => v = .non ∧ Q (.ref x) H2) E

/-- how the parameters are bound: us the positional arguments, kw the keywords' values by name, ds the defaults that fill up -/
def Binds (K : PySem.W.Frag) (fd : FuncData) (ps : List Str) (ds : List Value) : Prop :=
  ∀ (s : Shared) (us : List Value), K.In s.heap → (us ++ ds).length = ps.length → BindsTo s fd ⟨us, []⟩ (ps.zip (us ++ ds))
/-- every parameter is given -/
theorem Binds.all {K : PySem.W.Frag} {fd : FuncData} {ps : List Str} (h : ∀ us : List Value, us.length = ps.length → bindArgs fd ⟨us, []⟩ = pure (ps.zip us)) : Binds K fd ps [] := fun s us _ hl => by
  rw [List.append_nil] at hl ⊢
  exact .of_eq (h us hl)

/-- an exception of a callee reaches what this body wants of exceptions -/
def Passes (CX : CXT) (X : Cx) (E : XK) : Prop := ∀ (pins : List (Addr × Obj)) (σ : St) (H : Hp) (s : Shared) (e : Value) (s' : Shared), Inv X pins σ H s → CX X.stack H s E e s' → X.xe e s'

section
variable {X : Cx} {CX : CXT} {k : Nat} {f C : Addr} {fd : FuncData} {ps : List Str} {sp : Sp} {dvs : List V} {ds : List Value} {E : XK} {x m : Str} {p pos apos : Pos} {e o : Expr} {es : List Expr} {ta : TE} {t : TA}

/-- the callee runs -/
theorem run_fn {pins : List (Addr × Obj)} {σ : St} {H : Hp} {s : Shared} {Q : VK} {us : List Value} {vs : List V} (F : FnOk X.prog X.w X.K X.mg X.base CX k f fd ps sp) (hr : Room k X.A) (hb : Binds X.K fd ps ds) (hd : Vals dvs ds) (hx : Passes CX X E)
    (I : Inv X pins σ H s) (r : Vals vs us) (h : sp (vs ++ dvs) H Q E) : wpAny (model X.prog X.w) X.A (call (.ref f) us) (EP X pins σ Q) X.xe s := by
  have r2 : Vals (vs ++ dvs) (us ++ ds) := r.append hd
  have hl : (us ++ ds).length = ps.length := by rw [← r2.length]; exact F.len _ _ _ _ h
  refine wpAny_call (codeAny_mono (F.run X.A X.stack s H ⟨us, []⟩ (us ++ ds) (vs ++ dvs) Q E hr I.env0 (hb s us I.kIn hl) r2 h) fun r s' hq => ?_)
  cases r with
  | error e => exact hx pins σ H s e s' I hq
  | ok fl =>
    cases fl with
    | ret u => exact I.after hq
    | next => exact False.elim hq
    | brk => exact False.elim hq
    | cont => exact False.elim hq

theorem pe_call (F : FnOk X.prog X.w X.K X.mg X.base CX k f fd ps sp) (hr : Room k X.A) (hg : Gl X x) (hm : X.mg x = some (.ref f)) (hk : PySem.W.keepIn X.K (.ref f) = true) (hb : Binds X.K fd ps ds) (hd : Vals dvs ds) (hx : Passes CX X E)
    (ha : PA X (e :: es) t) (hdb : (x == ("__debug__" : Str)) = false := by decide) (he : starEach (e :: es) X.env = (false, eval e X.env) :: starEach es X.env := by rfl) (hpl : (backTo pos (starEach es X.env)).any (·.1) = false := by rfl) :
    PE X (.Call (.Name x p) (e :: es) [] pos) (tCall sp dvs E t) := by
  intro pins s σ H Q I h
  refine wpAny_Call_Name_kw (ld_glob I hg hm ?_ hdb)
  refine PySem.W.callWith_K (h₀ := X.base) I.ok.mod.kin hk (thn (ha pos pins s σ H _ I h) fun us s1 ⟨vs, H1, I1, r, q⟩ => ⟨I1.kIn, ?_⟩) he hpl
  exact run_fn F hr hb hd hx I1 r q
theorem pe_call0 (F : FnOk X.prog X.w X.K X.mg X.base CX k f fd ps sp) (hr : Room k X.A) (hg : Gl X x) (hm : X.mg x = some (.ref f)) (hk : PySem.W.keepIn X.K (.ref f) = true) (hb : Binds X.K fd ps ds) (hd : Vals dvs ds) (hx : Passes CX X E)
    (hdb : (x == ("__debug__" : Str)) = false := by decide) : PE X (.Call (.Name x p) [] [] pos) (tCall sp dvs E tNil) := by
  intro pins s σ H Q I h
  refine wpAny_Call_Name_kw (ld_glob I hg hm ?_ hdb)
  exact PySem.W.callWith_K0 I.kIn hk (run_fn (us := []) F hr hb hd hx I .nil h)

/-- o.m(e, ..) -/
theorem pe_meth {pl : Sem Bool} (he : PE X o ta) (c : Cls X.K C) (hm : Meth X.K C m f) (F : FnOk X.prog X.w X.K X.mg X.base CX k f fd ps sp) (hr : Room k X.A) (hb : Binds X.K fd ps ds) (hd : Vals dvs ds) (hx : Passes CX X E) (ha : PA X (e :: es) t)
    (hst : starEach (e :: es) X.env = (false, eval e X.env) :: starEach es X.env := by rfl) (hpl : (backTo pos (starEach es X.env)).any (·.1) = false := by rfl)
    (ht : eval (.Call (.Attribute o m apos) (e :: es) [] pos) X.env = (do
      let ov ← eval o X.env
      standAt apos.atName
      let (f, first) ← holding [ov] (getMethod ov m pl)
      callWith pos f first (backTo pos (starEach (e :: es) X.env)) (backToKw pos (keywordEach [] X.env))) := by rfl) :
    PE X (.Call (.Attribute o m apos) (e :: es) [] pos) (tMeth C m sp dvs E ta t) := by
  intro pins s σ H Q I h
  refine PySem.W.methodCall_KW (pl := pl) (thn (he pins s σ H _ I h) fun u s1 ⟨x, H1, I1, rx, a, dx, fs, ex, ea, l, q⟩ => ?_) ht
  subst ex
  obtain rfl : u = Value.ref a := rx
  refine getmeth_ok I1 ea c hm l ?_
  refine PySem.W.callWith_K (first := [.ref a]) (h₀ := X.base) I.ok.mod.kin hm.kp (thn (ha pos pins s1 σ H1 _ I1 q) fun us s2 ⟨vs, H2, I2, r, q2⟩ => ⟨I2.kIn, ?_⟩) hst hpl
  exact run_fn (us := .ref a :: us) (vs := .ref a :: vs) F hr hb hd hx I2 (.cons rfl r) q2
/-- o.m() -/
theorem pe_meth0 {pl : Sem Bool} (he : PE X o ta) (c : Cls X.K C) (hm : Meth X.K C m f) (F : FnOk X.prog X.w X.K X.mg X.base CX k f fd ps sp) (hr : Room k X.A) (hb : Binds X.K fd ps ds) (hd : Vals dvs ds) (hx : Passes CX X E)
    (ht : eval (.Call (.Attribute o m apos) [] [] pos) X.env = (do
      let ov ← eval o X.env
      standAt apos.atName
      let (f, first) ← holding [ov] (getMethod ov m pl)
      callWith pos f first (backTo pos (starEach [] X.env)) (backToKw pos (keywordEach [] X.env))) := by rfl) :
    PE X (.Call (.Attribute o m apos) [] [] pos) (tMeth C m sp dvs E ta tNil) := by
  intro pins s σ H Q I h
  refine PySem.W.methodCall_KW (pl := pl) (thn (he pins s σ H _ I h) fun u s1 ⟨x, H1, I1, rx, a, dx, fs, ex, ea, l, q⟩ => ?_) ht
  subst ex
  obtain rfl : u = Value.ref a := rx
  refine getmeth_ok I1 ea c hm l ?_
  exact PySem.W.callWith_K0 (first := [.ref a]) I1.kIn hm.kp (run_fn (us := [.ref a]) (vs := [.ref a]) F hr hb hd hx I1 (.cons rfl .nil) q)

/-- what a class must have to be made -/
structure Mk (K : PySem.W.Frag) (C f : Addr) : Prop where
  makes : PySem.W.makesIn K C = true
  init : PySem.W.findIn K (.ref C) "__init__" = some (some (.ref f))
  fn : PySem.W.isFn K (.ref f) = true
  kp : PySem.W.keepIn K (.ref C) = true

theorem run_make {pins : List (Addr × Obj)} {σ : St} {H : Hp} {s : Shared} {Q : VK} {us : List Value} {vs : List V} (M : Mk X.K C f) (F : FnOk X.prog X.w X.K X.mg X.base CX k f fd ps sp) (hr : Room (k + 1) X.A) (hb : Binds X.K fd ps ds) (hd : Vals dvs ds)
    (hx : Passes CX X E) (I : Inv X pins σ H s) (r : Vals vs us)
    (h : ∀ x dx, H x = none → H dx = none → dx ≠ x → sp (.ref x :: (vs ++ dvs)) (upd (upd H dx (.own x)) x (.ins C dx [])) (fun v H2 => v = .non ∧ Q (.ref x) H2) E) :
    wpAny (model X.prog X.w) X.A (call (.ref C) us) (EP X pins σ Q) X.xe s := by
  have hq := h (s.heap.objs.size + 1) s.heap.objs.size (I.hok.fresh (Nat.le_succ _)) (I.hok.fresh (Nat.le_refl _)) (Nat.ne_of_lt (Nat.lt_succ_self _))
  have I2 := Inv.made (C := C) I
  have r2 : Vals (V.ref (s.heap.objs.size + 1) :: (vs ++ dvs)) (Value.ref (s.heap.objs.size + 1) :: (us ++ ds)) := .cons rfl (r.append hd)
  have hl : (Value.ref (s.heap.objs.size + 1) :: us ++ ds).length = ps.length := by
    have e := r2.length
    rw [F.len _ _ _ _ hq] at e
    exact e.symm
  refine wpAny_call (make_map (f := f) I.kIn M.makes M.init (beq_iff_eq.mp M.fn) (codeAny_mono (F.run _ X.stack _ _ ⟨Value.ref (s.heap.objs.size + 1) :: us, []⟩ (Value.ref (s.heap.objs.size + 1) :: (us ++ ds)) _ _ E (hr.make C us [])
    (I2.env0.make C us []) (hb _ (Value.ref (s.heap.objs.size + 1) :: us) I2.kIn hl) r2 hq) fun r s' hq' => ?_))
  cases r with
  | error e => exact hx pins σ _ _ e s' I2 hq'
  | ok fl =>
    cases fl with
    | ret u =>
      obtain ⟨v, H', I3, rv, ev, q3⟩ := I2.after hq'
      subst ev
      exact ⟨rv, ⟨V.ref (s.heap.objs.size + 1), H', I3, rfl, q3⟩⟩
    | next => exact False.elim hq'
    | brk => exact False.elim hq'
    | cont => exact False.elim hq'
theorem pe_make (M : Mk X.K C f) (F : FnOk X.prog X.w X.K X.mg X.base CX k f fd ps sp) (hr : Room (k + 1) X.A) (hg : Gl X x) (hm : X.mg x = some (.ref C)) (hb : Binds X.K fd ps ds) (hd : Vals dvs ds) (hx : Passes CX X E)
    (ha : PA X (e :: es) t) (hdb : (x == ("__debug__" : Str)) = false := by decide) (he : starEach (e :: es) X.env = (false, eval e X.env) :: starEach es X.env := by rfl) (hpl : (backTo pos (starEach es X.env)).any (·.1) = false := by rfl) :
    PE X (.Call (.Name x p) (e :: es) [] pos) (tMake C sp dvs E t) := by
  intro pins s σ H Q I h
  refine wpAny_Call_Name_kw (ld_glob I hg hm ?_ hdb)
  refine PySem.W.callWith_K (h₀ := X.base) I.ok.mod.kin M.kp (thn (ha pos pins s σ H _ I h) fun us s1 ⟨vs, H1, I1, r, q⟩ => ⟨I1.kIn, ?_⟩) he hpl
  exact run_make M F hr hb hd hx I1 r q
theorem pe_make0 (M : Mk X.K C f) (F : FnOk X.prog X.w X.K X.mg X.base CX k f fd ps sp) (hr : Room (k + 1) X.A) (hg : Gl X x) (hm : X.mg x = some (.ref C)) (hb : Binds X.K fd ps ds) (hd : Vals dvs ds) (hx : Passes CX X E)
    (hdb : (x == ("__debug__" : Str)) = false := by decide) : PE X (.Call (.Name x p) [] [] pos) (tMake C sp dvs E tNil) := by
  intro pins s σ H Q I h
  refine wpAny_Call_Name_kw (ld_glob I hg hm ?_ hdb)
  exact PySem.W.callWith_K0 I.kIn M.kp (run_make (us := []) M F hr hb hd hx I .nil h)
end

/-! ### keywords -/
/-- the values of the keywords, from the left -/
def PK (X : Cx) (kws : List Keyword) (t : TA) : Prop :=
  ∀ (pos : Pos) (pins : List (Addr × Obj)) (s : Shared) (σ : St) (H : Hp) (Q : List V → Hp → Prop), Inv X pins σ H s → t σ H Q → wpAny (model X.prog X.w) X.A (evalAll ((backToKw pos (keywordEach kws X.env)).map (·.2))) (AP X pins σ Q) X.xe s
section
variable {X : Cx} {CX : CXT} {k : Nat} {f C : Addr} {fd : FuncData} {ps ks : List Str} {sp : Sp} {E : XK} {x m : Str} {p pos apos kpos : Pos} {e o : Expr} {es : List Expr} {kws : List Keyword} {te ta : TE} {t tk : TA} {nm : Option Str}
theorem pk_nil : PK X [] tNil := fun _ _ _ _ H Q I h => wpAny_evalAll_nil ⟨[], H, I, .nil, h⟩
theorem pk_cons (ha : PE X e te) (hr : PK X kws t) : PK X (⟨nm, e, kpos⟩ :: kws) (tCons te t) := by
  intro pos pins s σ H Q I h
  show wpAny _ _ (evalAll ((do let v ← eval e X.env; standAt pos; pure v) :: (backToKw pos (keywordEach kws X.env)).map (·.2))) _ _ s
  refine wpAny_evalAll_cons (wpAny_bind (thn (ha pins s σ H _ I h) fun u s1 ⟨x, H1, I1, r1, q1⟩ => wpAny_bind (wpAny_standAt (wpAny_pure ?_))))
  exact thn (hr pos pins s1 σ H1 _ I1 q1) fun us s2 ⟨xs, H2, I2, r2, q2⟩ => ⟨x :: xs, H2, I2, .cons r1 r2, q2⟩

/-- how a call with keywords binds: g puts the positional values us and the keywords' values ws (names ks) in the parameters' order, defaults among them -/
structure KBinds (K : PySem.W.Frag) (fd : FuncData) (ps ks : List Str) (g : List Value → List Value → List Value) (gV : List V → List V → List V) : Prop where
  to : ∀ (s : Shared) (us ws : List Value), K.In s.heap → (g us ws).length = ps.length → BindsTo s fd ⟨us, ks.zip ws⟩ (ps.zip (g us ws))
  rel : ∀ {vs : List V} {us : List Value} {zs : List V} {ws : List Value}, Vals vs us → Vals zs ws → Vals (gV vs zs) (g us ws)
def tCallK (sp : Sp) (gV : List V → List V → List V) (E : XK) (t tk : TA) : TE := fun σ H Q => t σ H fun vs H1 => tk σ H1 fun zs H2 => sp (gV vs zs) H2 Q E
variable {g : List Value → List Value → List Value} {gV : List V → List V → List V}
theorem run_fnk {pins : List (Addr × Obj)} {σ : St} {H : Hp} {s : Shared} {Q : VK} {us ws : List Value} {vs zs : List V} (F : FnOk X.prog X.w X.K X.mg X.base CX k f fd ps sp) (hr : Room k X.A) (hb : KBinds X.K fd ps ks g gV) (hx : Passes CX X E)
    (I : Inv X pins σ H s) (r : Vals vs us) (rz : Vals zs ws) (h : sp (gV vs zs) H Q E) : wpAny (model X.prog X.w) X.A (call (.ref f) us (ks.zip ws)) (EP X pins σ Q) X.xe s := by
  have r2 := hb.rel r rz
  have hl : (g us ws).length = ps.length := by rw [← r2.length]; exact F.len _ _ _ _ h
  refine wpAny_call (codeAny_mono (F.run X.A X.stack s H ⟨us, ks.zip ws⟩ (g us ws) (gV vs zs) Q E hr I.env0 (hb.to s us ws I.kIn hl) r2 h) fun r s' hq => ?_)
  cases r with
  | error e => exact hx pins σ H s e s' I hq
  | ok fl =>
    cases fl with
    | ret u => exact I.after hq
    | next => exact False.elim hq
    | brk => exact False.elim hq
    | cont => exact False.elim hq
/-- f(e, .., k = v, ..) -/
theorem pe_callK (F : FnOk X.prog X.w X.K X.mg X.base CX k f fd ps sp) (hr : Room k X.A) (hg : Gl X x) (hm : X.mg x = some (.ref f)) (hk : PySem.W.keepIn X.K (.ref f) = true) (hb : KBinds X.K fd ps ks g gV) (hx : Passes CX X E)
    (ha : PA X (e :: es) t) (hkw : PK X kws tk) (hall : (backToKw pos (keywordEach kws X.env)).all (·.1.isSome) = true := by rfl) (hks : (backToKw pos (keywordEach kws X.env)).filterMap (·.1) = ks := by rfl)
    (hdb : (x == ("__debug__" : Str)) = false := by decide) (he : starEach (e :: es) X.env = (false, eval e X.env) :: starEach es X.env := by rfl)
    (hpl : ((backTo pos (starEach (e :: es) X.env)).any (·.1) || (backToKw pos (keywordEach kws X.env)).any (·.1.isNone)) = false := by rfl) :
    PE X (.Call (.Name x p) (e :: es) kws pos) (tCallK sp gV E t tk) := by
  intro pins s σ H Q I h
  refine wpAny_Call_Name_kw (ld_glob I hg hm ?_ hdb)
  refine PySem.W.callWith_KW (h₀ := X.base) I.ok.mod.kin hk hall (thn (ha pos pins s σ H _ I h) fun us s1 ⟨vs, H1, I1, r, q⟩ => ?_) hpl he
  refine thn (hkw pos pins s1 σ H1 _ I1 q) fun ws s2 ⟨zs, H2, I2, rz, q2⟩ => ⟨I2.kIn, ?_⟩
  rw [hks]
  exact run_fnk F hr hb hx I2 r rz q2
end

/-! ### a def's body keeps its promise -/
/-- names: the parameters first -/
structure FnScope (N P : List Str) (sc : Scope) : Prop where
  kind : sc.kind = .function
  co : sc.isCoroutine = false
  gen : sc.isGenerator = false
  nd : N.Nodup
  pre : N.take P.length = P
  par : ∀ x ∈ P, sc.names.lookup x = some .local ∨ sc.names.lookup x = some .cell
  nofree : ∀ y ∈ sc.names, y.2 ≠ .free

theorem bindL_out {kindOf : Str → Option NameKind} {x : Str} : ∀ {binds : List (Str × Value)} {m : Str → Option Value}, (∀ v, (x, v) ∉ binds) → bindL kindOf binds m x = m x
  | [], _, _ => rfl
  | (n, v) :: r, m, h => by
    unfold bindL
    rw [bindL_out fun w hw => h w (List.mem_cons_of_mem _ hw)]
    split
    · have : x ≠ n := by rintro rfl; exact h v List.mem_cons_self
      simp [this]
    · rfl
theorem bindC_out {kindOf : Str → Option NameKind} {x : Str} : ∀ {binds : List (Str × Value)} {m : Str → Option Value}, (∀ v, (x, v) ∉ binds) → bindC kindOf binds m x = m x
  | [], _, _ => rfl
  | (n, v) :: r, m, h => by
    unfold bindC
    rw [bindC_out fun w hw => h w (List.mem_cons_of_mem _ hw)]
    split
    · rfl
    · have : x ≠ n := by rintro rfl; exact h v List.mem_cons_self
      simp [this]
theorem bindL_get {kindOf : Str → Option NameKind} {x : Str} {v : Value} : ∀ {P : List Str} {vs : List Value} {i : Nat} {m : Str → Option Value}, P.Nodup → P[i]? = some x → vs[i]? = some v → kindOf x = some .local →
    bindL kindOf (P.zip vs) m x = some v
  | [], _, _, _, _, h, _, _ => by simp at h
  | _ :: _, [], _, _, _, _, h, _ => by simp at h
  | p :: P, w :: vs, 0, m, nd, h1, h2, hk => by
    simp at h1 h2; subst h1; subst h2
    show bindL kindOf ((p, w) :: P.zip vs) m p = _
    unfold bindL
    rw [bindL_out fun v hv => (List.nodup_cons.mp nd).1 (List.of_mem_zip hv).1, if_pos hk]
    simp
  | p :: P, w :: vs, i + 1, m, nd, h1, h2, hk => by
    show bindL kindOf ((p, w) :: P.zip vs) m x = _
    unfold bindL
    exact bindL_get (i := i) (List.nodup_cons.mp nd).2 (by simpa using h1) (by simpa using h2) hk
theorem bindC_get {kindOf : Str → Option NameKind} {x : Str} {v : Value} : ∀ {P : List Str} {vs : List Value} {i : Nat} {m : Str → Option Value}, P.Nodup → P[i]? = some x → vs[i]? = some v → kindOf x ≠ some .local →
    bindC kindOf (P.zip vs) m x = some v
  | [], _, _, _, _, h, _, _ => by simp at h
  | _ :: _, [], _, _, _, _, h, _ => by simp at h
  | p :: P, w :: vs, 0, m, nd, h1, h2, hk => by
    simp at h1 h2; subst h1; subst h2
    show bindC kindOf ((p, w) :: P.zip vs) m p = _
    unfold bindC
    rw [bindC_out fun v hv => (List.nodup_cons.mp nd).1 (List.of_mem_zip hv).1, if_neg hk]
    simp
  | p :: P, w :: vs, i + 1, m, nd, h1, h2, hk => by
    show bindC kindOf ((p, w) :: P.zip vs) m x = _
    unfold bindC
    exact bindC_get (i := i) (List.nodup_cons.mp nd).2 (by simpa using h1) (by simpa using h2) hk

/-- the names' values at the entry -/
def start (N : List Str) (vs : List V) : St := vs.map some ++ List.replicate (N.length - vs.length) none

/-- the context of a def's body, at its entry; an exception leaves the frame, then lies as CX says -/
def cxOf (CX : CXT) (P : Program) (w : World) (K : PySem.W.Frag) (mg : Str → Option Value) (base : Heap) (N : List Str) (qual : Str) (scope : Scope) (f : Addr) (cd : Value) (A : Around) (outer : List Env) (s : Shared) (H : Hp) (E : XK) : Cx where
  prog := P
  w := w
  K := K
  mg := mg
  base := base
  A := A.deeper (envOfC qual scope s.heap.objs.size f cd)
  N := N
  s₀ := s
  H₀ := H
  env := envOfC qual scope s.heap.objs.size f cd
  outer := outer
  stack := envOfC qual scope s.heap.objs.size f cd :: outer
  ex := []
  calm := true
  fn := fun _ => true
  pn := []
  xe := fun e s' => wpAny (model P w) (A.deeper (envOfC qual scope s.heap.objs.size f cd)) (leaving (envOfC qual scope s.heap.objs.size f cd) e) (fun _ s'' => CX outer H s E e s'') (fun e' s'' => CX outer H s E e' s'') s'

theorem cell_has {sc : Scope} {n : Nat} {x : Str} (h : sc.names.lookup x = some .cell) : ∃ c, (cellsFrom n sc.names []).lookup x = some c := by
  have q := PySem.W.cellsFrom_some sc.names n [] (.inl h)
  exact Option.isSome_iff_exists.mp q

theorem inv_start {CX : CXT} {P : Program} {w : World} {K : PySem.W.Frag} {mg : Str → Option Value} {base : Heap} {N ps : List Str} {qual : Str} {scope : Scope} {f : Addr} {cd : Value} {A : Around} {outer : List Env} {s s1 : Shared} {H : Hp} {E : XK} {us : List Value} {vs : List V}
    (S : FnScope N ps scope) (hd : A.handled = none) (e0 : Env0 P w K mg base A outer s H) (hl : vs.length = ps.length) (r : Vals vs us)
    (x : InCallC s s.heap.objs.size (bindL (envOfC qual scope s.heap.objs.size f cd).kindOf (ps.zip us) fun _ => none) (cellsFrom (s.heap.objs.size + 1) scope.names []) (bindC (envOfC qual scope s.heap.objs.size f cd).kindOf (ps.zip us) fun _ => none) s1) :
    Inv (cxOf CX P w K mg base N qual scope f cd A outer s H E) [] (start N vs) H s1 := by
  have hpl : ps.length ≤ N.length := by have := congrArg List.length S.pre; rw [List.length_take] at this; omega
  obtain ⟨h1, tk, rfl, hk⟩ := x.done
  have noA : ∀ b : Addr, b ∉ (cxOf CX P w K mg base N qual scope f cd A outer s H E).ex := fun b z => absurd (show b ∈ ([] : List Addr) from z) (by simp)
  refine ⟨⟨e0.mod, S.kind, rfl, rfl, Nat.le_refl _, fun y z c h1 h2 => ?_, fun y hy => ?_, fun y c _ h => ?_, fun _ => hd, Around.frames_deeper e0.frames, .inr ⟨rfl, rfl⟩, fun b z => absurd z (noA b), e0.bs, e0.bsz, fun b _ _ => noA b, fun b z => absurd z (noA b), e0.funs, e0.frf⟩,
    rfl, e0.bare, Un.kept hk, ⟨_, x.toInCall.ns, fun i y v h1 h2 h3 => ?_⟩, fun y c h => ⟨_, x.cell y c h⟩, e0.hok.fresh (Nat.le_refl _), fun y c h => ?_, fun p hp => absurd (show p ∈ ([] : List (Addr × Obj)) from hp) (by simp), e0.hok.kept hk, ?_⟩
  · exact name_of_addr x.apart (PySem.mem_of_lookup h1) (PySem.mem_of_lookup h2)
  · have hy : scope.names.lookup y = some .cell ∨ scope.names.lookup y = some .free := hy
    rcases hy with hy | hy
    · exact cell_has hy
    · exact absurd rfl (S.nofree _ (PySem.mem_of_lookup hy))
  · exact Nat.le_of_lt (x.above y c (PySem.mem_of_lookup h))
  · have hi : i < vs.length := by
      unfold start at h2
      by_cases hi : i < vs.length
      · exact hi
      · rw [List.getElem?_append_right (by simpa using hi)] at h2
        rw [List.getElem?_replicate] at h2
        split at h2 <;> cases h2
    have ha : vs[i]? = some v := by
      unfold start at h2
      rw [List.getElem?_append_left (by simpa using hi), List.getElem?_map] at h2
      cases e : vs[i]? with
      | none => rw [e] at h2; cases h2
      | some a => rw [e] at h2; cases h2; rfl
    obtain ⟨u, hu, rv⟩ := r.get ha
    have hp : ps[i]? = some y := by
      rw [← S.pre, List.getElem?_take_of_lt (by omega)]; exact h1
    have ndP : ps.Nodup := by rw [← S.pre]; exact S.nd.sublist (List.take_sublist _ _)
    refine ⟨u, rv, ?_⟩
    rcases S.par y (List.mem_of_getElem? hp) with k | k
    · exact .inl ⟨k, bindL_get ndP hp hu k⟩
    · obtain ⟨c, e⟩ := cell_has (n := s.heap.objs.size + 1) k
      refine .inr ⟨.inl k, c, e, ?_⟩
      have q := x.cell y c e
      rw [bindC_get ndP hp hu (by show scope.names.lookup y ≠ _; rw [k]; decide)] at q
      exact q
  · exact e0.hok.fresh (Nat.le_of_lt (x.above y c (PySem.mem_of_lookup h)))
  · unfold start
    show _ = N.length
    rw [List.length_append, List.length_map, List.length_replicate]
    omega

/-- THE RULE: a def (or a method) of the text, by its body. The body's reading t is chosen for each entry; it is run at the parameters' values -/
theorem fn_of {CX : CXT} {P : Program} {w : World} {K : PySem.W.Frag} {mg : Str → Option Value} {base : Heap} {k : Nat} {f : Addr} {name qual : Str} {params : Arguments} {body : List Stmt} {scope : Scope} {dV kV doc pm cdv ct oc : Value} {an od : Option Addr}
    {osl : Array (Option Value)} {N ps : List Str} {sp : Sp} (lk : K.lookup f = some ⟨oc, od, .func (PySem.W.fnOf name qual params body scope dV kV doc pm an cdv ct), osl⟩) (hcd : PySem.W.codeIn K cdv qual = true) (S : FnScope N ps scope)
    (len : ∀ vs H Q E, sp vs H Q E → vs.length = ps.length)
    (hbody : ∀ (A : Around) (outer : List Env) (s : Shared) (H : Hp) (vs : List V) (Q : VK) (E : XK), Room k (A.deeper (envOfC qual scope s.heap.objs.size f cdv)) → sp vs H Q E →
      ∃ t, PSs (cxOf CX P w K mg base N qual scope f cdv A outer s H E) body t ∧ t { nx := fun _ H' => Q .non H', rt := Q } (start N vs) H) :
    FnOk P w K mg base CX (k + 1) f (PySem.W.fnOf name qual params body scope dV kV doc pm an cdv ct) ps sp := by
  refine ⟨len, fun A outer s H args us vs Q E hr e0 hb r hsp => ?_⟩
  have hl := len _ _ _ _ hsp
  have KX : K.In s.heap := e0.mod.kin.keeps fun b o e => (e0.bs b o e).1
  have lim : s.heap.NoLimit := e0.mod.nolimit.keeps fun b o e => (e0.bs b o e).1
  have hkind : ∀ y ∈ ps.zip us, scope.names.lookup y.1 = some .local ∨ (scope.names.lookup y.1 = some .cell ∧ ((cellsFrom (s.heap.objs.size + 1) scope.names []).lookup y.1).isSome = true) := fun ⟨n, v⟩ hy => by
    rcases S.par n (List.of_mem_zip hy).1 with q | q
    · exact .inl q
    · exact .inr ⟨q, PySem.W.cellsFrom_some _ _ _ (.inl q)⟩
  refine codeAny_call_function hr.depth (KX _ _ lk) rfl S.co S.gen rfl (PySem.W.codeRec_of KX hcd) (hb _ _ _ _ ?_)
  refine wpAny_newFunctionEnv_cells S.kind hkind fun env he s1 x => ?_
  subst he
  refine ⟨lim.keeps x.toInCall.keep, codeAny_func ?_⟩
  obtain ⟨t, ht, hq⟩ := hbody A outer s H vs Q E (hr.deeper _) hsp
  have I : Inv (cxOf CX P w K mg base N qual scope f cdv A outer s H E) [] (start N vs) H s1 := inv_start S hr.hd e0 hl r x
  refine wpAny_mono (ht [] s1 (start N vs) H _ I hq) (fun fl s' hs => ?_) fun e s' hs => hs
  have fin : ∀ {σ' : St} {H' : Hp} {v : V} {u : Value}, Inv (cxOf CX P w K mg base N qual scope f cdv A outer s H E) [] σ' H' s' → RelV v u → Q v H' → CE outer P w H s Q u s' :=
    fun {σ' H' v u} J rv q => ⟨v, H', J.os, J.bare, J.base, J.hok, rv, q⟩
  cases fl with
  | ret u =>
    obtain ⟨v, σ', H', J, rv, q⟩ := hs
    exact fin J rv q
  | next =>
    obtain ⟨σ', H', J, q⟩ := hs
    exact fin (v := V.non) (u := Value.none) J rfl q
  | brk =>
    obtain ⟨_, _, _, q⟩ := hs
    exact False.elim q
  | cont =>
    obtain ⟨_, _, _, q⟩ := hs
    exact False.elim q
end L2

namespace L2
open PySem PySem.Spec PyProof.Rows
section
variable {X : Cx} {x : Str} {p pos : Pos} {e : Expr} {es : List Expr} {t : TA} {id T : String} {r : List V → Hp → VK → Prop}

def tCB (r : List V → Hp → VK → Prop) (t : TA) : TE := fun σ H Q => t σ H fun vs H1 => r vs H1 Q
/-- f(e, ..), f a built-in function -/
theorem pe_callB (hc : CallR X (.builtin id) r) (hg : Gl X x) (hm : X.mg x = none) (hv : bootBuiltins x = some (.builtin id)) (ha : PA X (e :: es) t) (hn : x ≠ "__name__" := by decide) (hdb : (x == ("__debug__" : Str)) = false := by decide)
    (he : starEach (e :: es) X.env = (false, eval e X.env) :: starEach es X.env := by rfl) (hpl : (backTo pos (starEach es X.env)).any (·.1) = false := by rfl) : PE X (.Call (.Name x p) (e :: es) [] pos) (tCB r t) := by
  intro pins s σ H Q I h
  refine wpAny_Call_Name_kw (ld_blt I hg hm hv ?_ hn hdb)
  exact PyProof.Rows.callWith_builtin1 (thn (ha pos pins s σ H _ I h) fun us s1 ⟨vs, H1, I1, r1, q1⟩ => hc pins s1 σ H1 vs us Q I1 r1 q1) he hpl
/-- T(e, ..), T a built-in type -/
theorem pe_callTy (hc : CallR X (.type T) r) (hg : Gl X x) (hm : X.mg x = none) (hv : bootBuiltins x = some (.type T)) (ha : PA X (e :: es) t) (hn : x ≠ "__name__" := by decide) (hdb : (x == ("__debug__" : Str)) = false := by decide)
    (he : starEach (e :: es) X.env = (false, eval e X.env) :: starEach es X.env := by rfl) (hpl : (backTo pos (starEach es X.env)).any (·.1) = false := by rfl) : PE X (.Call (.Name x p) (e :: es) [] pos) (tCB r t) := by
  intro pins s σ H Q I h
  refine wpAny_Call_Name_kw (ld_blt I hg hm hv ?_ hn hdb)
  exact PyProof.Rows.callWith_type1 (thn (ha pos pins s σ H _ I h) fun us s1 ⟨vs, H1, I1, r1, q1⟩ => hc pins s1 σ H1 vs us Q I1 r1 q1) he hpl
/-- T() -/
theorem pe_callTy0 (hc : CallR X (.type T) r) (hg : Gl X x) (hm : X.mg x = none) (hv : bootBuiltins x = some (.type T)) (hn : x ≠ "__name__" := by decide) (hdb : (x == ("__debug__" : Str)) = false := by decide) :
    PE X (.Call (.Name x p) [] [] pos) (tCB r tNil) := by
  intro pins s σ H Q I h
  refine wpAny_Call_Name_kw (ld_blt I hg hm hv ?_ hn hdb)
  exact PyProof.Rows.callWith_type0 (hc pins s σ H [] [] Q I .nil h)
end
end L2

namespace HT
open PySem PyProof.Rows

/-- t < u of tuples of ints -/
def lexLt : List Int → List Int → Bool
  | [], [] => false
  | [], _ :: _ => true
  | _ :: _, [] => false
  | x :: xs, y :: ys => if x = y then lexLt xs ys else decide (x < y)
theorem lexLt_cons (x y : Int) (xs ys : List Int) : lexLt (x :: xs) (y :: ys) = if x = y then lexLt xs ys else decide (x < y) := rfl
theorem lexLt_nil_nil : lexLt [] [] = false := rfl
theorem lexLt_nil_cons (y : Int) (ys : List Int) : lexLt [] (y :: ys) = true := rfl
theorem lexLt_cons_nil (x : Int) (xs : List Int) : lexLt (x :: xs) [] = false := rfl

theorem eqAt_int (A : Around) (s : Shared) (a : Int) (t : Tok) (c : Int) (u : Tok) : ∃ e, SeqAt.EqAt A s (.int a t) (.int c u) e ∧ (e = true ↔ a = c) :=
  ⟨(a == c), SeqAt.EqAt.int_int a t c u, by simp⟩
theorem rcLt_int (A : Around) (s : Shared) (a : Int) (t : Tok) (c : Int) (u : Tok) (prog : Program) (w : World) (E : Value → Shared → Prop) (Q : Value → Shared → Prop) (h : Q (.bool (decide (a < c))) s) :
    wpAny (model prog w) A (richCompare .Lt (.int a t) (.int c u)) Q E s :=
  (PyProof.Rows.lt_int h : wpAny (model prog w) A (compareOp .Lt (.int a t) (.int c u)) Q E s)

section
open PySem.SeqAt
open PySem.AutoSeq1 (wpAny_loadPart')
open PySem.MeetsSeq PySem.MeetsSeq2 PySem.MeetsSeq3

theorem tuple_lt_ints (l b : Addr) (items items2 : Array Value) (n n2 : Nat) (dd dd2 : Option Addr) (sl sl2 : Array (Option Value)) (ns ms : List Int) (hi : IntsAre items.toList ns) (hj : IntsAre items2.toList ms) :
    Meets (Builtin.«tuple.__lt__» ⟨[.ref l, .ref b], []⟩)
      (fun _ R s => s.heap.get? l = some { cls := .type "tuple", dict := dd, data := .seq items n, slots := sl } ∧ s.heap.get? b = some { cls := .type "tuple", dict := dd2, data := .seq items2 n2, slots := sl2 } ∧
        R (.ok (.ret (.bool (lexLt ns ms)))) s) :=
  .of_wp fun prog w A R s h => by
    obtain ⟨hp, g, d, tk, os⟩ := s; obtain ⟨hl, hb, h⟩ := h
    have f2 := AutoSeq1.sub_tuple_tuple
    have z1 : items.size = ns.length := by rw [← hi.length]; simp
    have z2 : items2.size = ms.length := by rw [← hj.length]; simp
    wp_walk using wpAny_loadPart' hl, wpAny_loadPart' hb, wpAny_forIn_list _ (fun rest b s' => b.1 = none ∧ s' = ⟨hp, g, d, tk, os⟩ ∧ ∃ (vs ws : List Value) (ns' ms' : List Int), rest = vs.zip ws ∧
      IntsAre vs ns' ∧ IntsAre ws ms' ∧ ns'.length + items2.size = ms'.length + items.size ∧ R (.ok (.ret (.bool (lexLt ns' ms')))) ⟨hp, g, d, tk, os⟩) _
    case turn =>
      rintro ⟨y, x⟩ rest b s' ⟨hb', rfl, vs, ws, ns', ms', hz, hvi, hwi, hlen, hR⟩
      cases hvi with
      | nil => rw [List.zip_nil_left] at hz; cases hz
      | cons a t hvi' =>
        cases hwi with
        | nil => rw [List.zip_nil_right] at hz; cases hz
        | cons c u hwi' =>
          rw [List.zip_cons_cons] at hz
          injection hz with hyx hrest
          injection hyx with hy hx
          subst hy hx
          rw [lexLt_cons] at hR
          simp only [List.length_cons] at hlen
          obtain ⟨e, he, hiff⟩ := eqAt_int A.in1 ⟨hp, g, d, tk, os⟩ a t c u
          refine wpAny_bind (he prog w _ _ ?_)
          cases e with
          | true =>
            rw [if_pos (hiff.mp rfl)] at hR
            wp_walk
            exact ⟨rfl, rfl, _, _, _, _, hrest, hvi', hwi', by omega, hR⟩
          | false =>
            rw [if_neg (fun q => absurd (hiff.mpr q) Bool.false_ne_true)] at hR
            have hri := rcLt_int A.in1 ⟨hp, g, d, tk, os⟩ a t c u prog w
            wp_walk using hri
            exact ⟨_, rfl, by simpa using hR⟩
    case fin =>
      rintro ⟨b1, b2⟩ s' ⟨hb', rfl, vs, ws, ns', ms', hz, hvi, hwi, hlen, hR⟩
      simp only at hb'
      subst hb'
      have hv : lexLt ns' ms' = decide (items.size < items2.size) := by
        cases hvi with
        | nil =>
          cases hwi with
          | nil =>
            simp only [List.length_nil] at hlen
            rw [lexLt_nil_nil]
            exact (decide_eq_false (by omega)).symm
          | cons c u hw =>
            simp only [List.length_nil, List.length_cons] at hlen
            rw [lexLt_nil_cons]
            exact (decide_eq_true (by omega)).symm
        | cons a t hv =>
          cases hwi with
          | nil =>
            simp only [List.length_nil, List.length_cons] at hlen
            rw [lexLt_cons_nil]
            exact (decide_eq_false (by omega)).symm
          | cons c u hw =>
            rw [List.zip_cons_cons] at hz
            cases hz
      rw [hv] at hR
      wp_walk
      exact ⟨_, rfl, by simpa [Builtin.Tuple.tupleCompareSizes] using hR⟩
    case h =>
      exact ⟨rfl, rfl, items.toList, items2.toList, ns, ms, rfl, hi, hj, by omega, h⟩
end

section
variable {prog : Program} {w : World} {A : Around} {E : Value → Shared → Prop} {s : Shared}

theorem lt_tupInts {l b : Addr} {items items2 : Array Value} {ns ms : List Int} {Q : Value → Shared → Prop} (hl : IsTup s.heap l items) (hb : IsTup s.heap b items2) (hi : IntsAre items.toList ns) (hj : IntsAre items2.toList ms)
    (hu : A.units < cLine) (h : Q (.bool (lexLt ns ms)) s) : wpAny (model prog w) A (compareOp .Lt (.ref l) (.ref b)) Q E s := by
  obtain ⟨⟨cls, dd, data, sl⟩, ho, hc, n, hd⟩ := id hl
  obtain ⟨⟨cls2, dd2, data2, sl2⟩, ho2, hc2, n2, hd2⟩ := id hb
  simp only at hc hd hc2 hd2
  subst hc hd hc2 hd2
  exact richCompare_meets_room (op := .Lt) ⟨_, ho, rfl⟩ ⟨_, ho2, rfl⟩ PySem.F.slot_tuple_lt PySem.F.entry_tuple_lt (PySem.F.args_tuple_lt_2 _ _) (tuple_lt_ints l b items items2 n n2 dd dd2 sl sl2 ns ms hi hj)
    ⟨ho, ho2, show Value.bool (lexLt ns ms) ≠ Value.notImplemented ∧ Q (.bool (lexLt ns ms)) s from ⟨(fun x => nomatch x), h⟩⟩ hu

/-- t + u, t not empty -/
theorem cat_tup {t b : Addr} {vs ws : List Value} {Q : Value → Shared → Prop} (ht : IsTup s.heap t vs.toArray) (hb : IsTup s.heap b ws.toArray) (hv : vs ≠ [])
    (h1 : ws = [] → Q (.ref t) s) (h2 : ws ≠ [] → Q (.ref s.heap.objs.size) { s with heap := s.heap.push { cls := .type "tuple", data := .seq (vs ++ ws).toArray } })
    (hsz : vs.length + ws.length ≤ sizeLine) : wpAny (model prog w) A (binaryOp .Add (.ref t) (.ref b)) Q E s := by
  obtain ⟨⟨cls, dd, data, sl⟩, ho, hc, n, hd⟩ := id ht
  obtain ⟨⟨cls2, dd2, data2, sl2⟩, ho2, hc2, n2, hd2⟩ := id hb
  simp only at hc hd hc2 hd2
  subst hc hd hc2 hd2
  have e : vs.toArray ++ ws.toArray = (vs ++ ws).toArray := by simp
  by_cases hw : ws = []
  · exact concat_meets ⟨_, ho, rfl⟩ ⟨_, ho2, rfl⟩ noFill_tuple_add seq_tuple_add PySem.F.slot_tuple_add PySem.F.entry_tuple_add (PySem.F.args_tuple_add_2 _ _)
      (tuple_addW1 t b vs.toArray ws.toArray n n2 dd dd2 sl sl2 (by simpa using hv) (by simp [hw])) ⟨ho, ho2, h1 hw⟩
  · refine concat_meets ⟨_, ho, rfl⟩ ⟨_, ho2, rfl⟩ noFill_tuple_add seq_tuple_add PySem.F.slot_tuple_add PySem.F.entry_tuple_add (PySem.F.args_tuple_add_2 _ _)
      (tuple_addW2 t b vs.toArray ws.toArray n n2 dd dd2 sl sl2 (by simpa using hv) (by simpa using hw) (by rw [List.size_toArray, List.size_toArray]; exact hsz)) ⟨ho, ho2, ?_⟩
    rw [e]
    exact h2 hw

/-! ### t[a:b], not the whole -/
/-- a slice's bound as a place among n (d where it is left out) -/
def sIx (n d : Nat) : Option Int → Nat
  | none => d
  | some v => if v < 0 then (v + (n : Int)).toNat else min v.toNat n
theorem sIx_none (n d : Nat) : sIx n d none = d := rfl
theorem sIx_nat (n d k : Nat) : sIx n d (some (k : Int)) = min k n := by
  show (if (k : Int) < 0 then ((k : Int) + (n : Int)).toNat else min (k : Int).toNat n) = min k n
  rw [if_neg (by omega), Int.toNat_natCast]
theorem sIx_le (n d : Nat) (hd : d ≤ n) (o : Option Int) : sIx n d o ≤ n := by
  cases o with
  | none => exact hd
  | some v =>
    show (if v < 0 then (v + (n : Int)).toNat else min v.toNat n) ≤ n
    by_cases hv : v < 0
    · rw [if_pos hv]; omega
    · rw [if_neg hv]; exact Nat.min_le_right _ _
theorem clip_eq (v : Int) (n d : Nat) : (if v < 0 then max (v + (n : Int)) 0 else min v (n : Int)) = ((sIx n d (some v) : Nat) : Int) := by
  show (if v < 0 then max (v + (n : Int)) 0 else min v (n : Int)) = (((if v < 0 then (v + (n : Int)).toNat else min v.toNat n) : Nat) : Int)
  by_cases hv : v < 0
  · simp only [if_pos hv]; omega
  · simp only [if_neg hv]; omega
theorem adjust_gen (lo hi : Option Int) (n : Nat) : Builtin.Slice.sliceAdjust lo hi 1 (n : Int) = (((sIx n 0 lo : Nat) : Int), ((sIx n n hi : Nat) : Int)) := by
  have h1 : ¬ ((1 : Int) < 0) := by omega
  unfold Builtin.Slice.sliceAdjust
  simp only [h1, if_false]
  refine Prod.ext ?_ ?_
  · cases lo with
    | none => rfl
    | some v => exact clip_eq v n 0
  · cases hi with
    | none => rfl
    | some v => exact clip_eq v n n
theorem places_gen (i j : Nat) : Builtin.Slice.slicePlaces (i : Int) (j : Int) 1 = j - i := by
  unfold Builtin.Slice.slicePlaces
  have h1 : (1 : Int) > 0 := by omega
  simp only [h1, if_true, Int.ediv_one]
  split <;> omega
theorem slicePart_ {v : Value} {o : Option Int} {Q : Option Int → Shared → Prop} (p : IsPart v o) (h : Q o s) : wpAny (model prog w) A (Builtin.Slice.slicePartIndex v) Q E s := by
  cases p with
  | none => exact slicePart_none h
  | int i t => exact slicePart_int h
theorem sliceApplied_gen {sl : Addr} {vl vu : Value} {lo hi : Option Int} {n : Nat} {Q : Int × Int × Nat → Shared → Prop} (hs : s.heap.IsSliceOf sl vl vu .none) (pl : IsPart vl lo) (pu : IsPart vu hi)
    (h : Q (((sIx n 0 lo : Nat) : Int), 1, sIx n n hi - sIx n 0 lo) s) : wpAny (model prog w) A (Builtin.Slice.sliceApplied (.ref sl) (pure (n : Int))) Q E s := by
  obtain ⟨os, hos, hcs, hds⟩ := id hs
  unfold Builtin.Slice.sliceApplied Builtin.Slice.sliceFields
  refine wpAny_bind (wpAny_bind (wpAny_field hos hds (x := vl) rfl (wpAny_bind (wpAny_field hos hds (x := vu) rfl (wpAny_bind (wpAny_field hos hds (x := .none) rfl (wpAny_pure ?_)))))))
  refine wpAny_bind (slicePart_none ?_)
  show wpAny _ _ (if ((1 : Int) == 0) = true then _ else _) _ _ s
  rw [if_neg (by decide)]
  refine wpAny_bind (slicePart_ pl (wpAny_bind (slicePart_ pu (wpAny_bind (wpAny_pure ?_)))))
  show wpAny _ _ (match Builtin.Slice.sliceAdjust lo hi 1 (n : Int) with | (lo, hi) => pure (lo, (1 : Int), Builtin.Slice.slicePlaces lo hi 1)) _ _ s
  rw [adjust_gen lo hi n]
  show wpAny _ _ (pure (((sIx n 0 lo : Nat) : Int), (1 : Int), Builtin.Slice.slicePlaces ((sIx n 0 lo : Nat) : Int) ((sIx n n hi : Nat) : Int) 1)) _ _ s
  rw [places_gen]
  exact wpAny_pure h
theorem pick_gen (xs : Array Value) (i k : Nat) : ((List.range k).filterMap fun (m : Nat) => xs[((i : Int) + (m : Int) * 1).toNat]?).toArray = ((xs.toList.drop i).take k).toArray := by
  have e : (fun (m : Nat) => xs[((i : Int) + (m : Int) * 1).toNat]?) = fun m => xs[i + m]? := by
    funext m
    have : ((i : Int) + (m : Int) * 1).toNat = i + m := by omega
    rw [this]
  rw [e]
  have := pick_run xs i k
  rw [List.filterMap_map] at this
  have e2 : ((fun x => xs[x]?) ∘ fun x => i + x) = fun m => xs[i + m]? := rfl
  rw [e2] at this
  rw [this]

theorem getItem_tuple_cut {t sl : Addr} {items : Array Value} {vl vu : Value} {lo hi : Option Int} {Q : Value → Shared → Prop} (ht : IsTup s.heap t items) (hs : s.heap.IsSliceOf sl vl vu .none) (pl : IsPart vl lo) (pu : IsPart vu hi)
    (hw : ¬ (sIx items.size 0 lo = 0 ∧ sIx items.size items.size hi = items.size))
    (h : Q (.ref s.heap.objs.size) { s with heap := s.heap.push { cls := .type "tuple", data := .seq ((items.toList.drop (sIx items.size 0 lo)).take (sIx items.size items.size hi - sIx items.size 0 lo)).toArray } })
    (hsz : items.size ≤ sizeLine) : wpAny (model prog w) A (getItem (.ref t) (.ref sl)) Q E s := by
  have htake : sizeOk (.seq ((items.toList.drop (sIx items.size 0 lo)).take (sIx items.size items.size hi - sIx items.size 0 lo)).toArray) := by
    show ((items.toList.drop (sIx items.size 0 lo)).take (sIx items.size items.size hi - sIx items.size 0 lo)).toArray.size ≤ sizeLine
    rw [List.size_toArray, List.length_take, List.length_drop, Array.length_toList]
    omega
  have hj : sIx items.size items.size hi ≤ items.size := sIx_le _ _ (Nat.le_refl _) hi
  obtain ⟨os, hos, hcs, hds⟩ := id hs
  have hTs : s.TypeIs (.ref sl) "slice" := ⟨os, hos, hcs⟩
  unfold getItem
  try with_reducible refine wpAny_holding ?_
  first | refine wpAny_bind (wpAny_pure ?_) | skip
  refine wpAny_bind (wpAny_sequenceKey ht.typeIs (by decide) ?_)
  refine wpAny_bind (wpAny_callSpecial?_slot (name := Str.ofString "__getitem__") ht.typeIs PyProof.Rows.slot_tuple_getitem
    (wpAny_call_entry PyProof.Rows.slot_tuple_getitem ht.typeIs entry_tuple_getitem ?_ (args_tuple_getitem _ _)))
  show wpAny _ _ (Builtin.Tuple.tupleItemsOf (.ref t) >>= _) _ _ s
  refine wpAny_bind (tupleItemsOf_ ht ?_)
  refine wpAny_bind (wpAny_typeOf hTs ?_)
  rw [if_pos (by decide)]
  refine wpAny_bind (sliceApplied_gen hs pl pu ?_)
  have hno : ¬ ((((sIx items.size 0 lo : Nat) : Int) == 0 && (1 : Int) == 1 && (sIx items.size items.size hi - sIx items.size 0 lo) == items.size) = true) := by
    intro q
    rw [Bool.and_eq_true, Bool.and_eq_true] at q
    have q1 : ((sIx items.size 0 lo : Nat) : Int) = 0 := eq_of_beq q.1.1
    have q2 : sIx items.size items.size hi - sIx items.size 0 lo = items.size := eq_of_beq q.2
    exact hw ⟨by omega, by omega⟩
  show wpAny _ _ (if (((sIx items.size 0 lo : Nat) : Int) == 0 && (1 : Int) == 1 && (sIx items.size items.size hi - sIx items.size 0 lo) == items.size) = true then _ else _) _ _ s
  rw [if_neg hno, pick_gen]
  first
    | exact wpAny_bind (m := Builtin.Tuple.tupleExact _) (wpAny_newObj_type (wpAny_pure ⟨_, rfl, wpAny_pure h⟩) htake)
    | exact wpAny_bind (m := Builtin.Tuple.tupleExact _) (wpAny_newObj_type (wpAny_bind (wpAny_pure (wpAny_pure ⟨_, rfl, wpAny_pure h⟩))) htake)
    | exact wpAny_bind (wpAny_bind (m := Builtin.Tuple.tupleExact _) (wpAny_newObj_type (wpAny_pure (wpAny_pure ⟨_, rfl, wpAny_pure h⟩)) htake))
    | exact wpAny_bind (wpAny_bind (m := Builtin.Tuple.tupleExact _) (wpAny_newObj_type (wpAny_pure ⟨_, rfl, wpAny_pure h⟩) htake))
end
end HT

namespace L2
open PySem PySem.Spec PyProof.Rows

/-! ### the parts of a slice -/
abbrev TO := St → Hp → (Option Int → Hp → Prop) → Prop
/-- a slice's part (left out, or an int) -/
def PO (X : Cx) (e : Option Expr) (t : TO) : Prop :=
  ∀ (pins : List (Addr × Obj)) (s : Shared) (σ : St) (H : Hp) (Q : Option Int → Hp → Prop), Inv X pins σ H s → t σ H Q →
    wpAny (model X.prog X.w) X.A (evalPart e X.env) (fun u s' => ∃ o H', Inv X pins σ H' s' ∧ IsPart u o ∧ Q o H') X.xe s
def tNoPart : TO := fun _ H Q => Q none H
def tPart (t : TE) : TO := fun σ H Q => t σ H fun x H1 => ∃ i, x = .int i ∧ Q (some i) H1

theorem intsAre_of {ns : List Int} : ∀ {us : List Value}, Vals (ns.map V.int) us → IntsAre us ns := by
  induction ns with
  | nil => intro us r; rw [List.map_nil] at r; cases r; exact .nil
  | cons n ns ih =>
    intro us r
    rw [List.map_cons] at r
    cases r with
    | cons r1 r2 =>
      obtain ⟨t, e⟩ := r1
      subst e
      exact .cons n t (ih r2)

section
variable {X : Cx} {e : Expr} {te : TE} {lo hi : Option Expr} {tl th : TO} {pos p2 : Pos}

theorem po_none : PO X none tNoPart := by
  intro pins s σ H Q I h
  rw [evalPart_none]
  exact wpAny_pure ⟨none, H, I, .none, h⟩
theorem po_some (h : PE X e te) : PO X (some e) (tPart te) := by
  intro pins s σ H Q I hw
  rw [evalPart_some]
  refine thn (h pins s σ H _ I hw) fun u s1 ⟨x, H1, I1, r1, q1⟩ => ?_
  obtain ⟨i, rfl, q⟩ := q1
  obtain ⟨t, rfl⟩ := r1
  exact ⟨some i, H1, I1, .int i t, q⟩

/-- what a slice of a value is, by values: the slice object stands at sl -/
def SlR (X : Cx) (r : V → Option Int → Option Int → Hp → VK → Prop) : Prop :=
  ∀ (pins : List (Addr × Obj)) (s : Shared) (σ : St) (H : Hp) (x : V) (v vl vu : Value) (lo hi : Option Int) (sl : Addr) (Q : VK), Inv X pins σ H s → RelV x v → s.heap.IsSliceOf sl vl vu .none → IsPart vl lo → IsPart vu hi → r x lo hi H Q →
    ∃ T id, typeLookup (.type T) "__getitem__" = pure (some (.builtin id)) ∧ s.TypeIs v T ∧ wpAny (model X.prog X.w) X.A (getItem v (.ref sl)) (EP X pins σ Q) X.xe s
theorem SlR.or {r r' : V → Option Int → Option Int → Hp → VK → Prop} (h : SlR X r) (h' : SlR X r') : SlR X (fun x lo hi H Q => r x lo hi H Q ∨ r' x lo hi H Q) := by
  intro pins s σ H x v vl vu lo hi sl Q I rx hs pl pu q
  rcases q with q | q
  · exact h pins s σ H x v vl vu lo hi sl Q I rx hs pl pu q
  · exact h' pins s σ H x v vl vu lo hi sl Q I rx hs pl pu q
def tSl (r : V → Option Int → Option Int → Hp → VK → Prop) (te : TE) (tl th : TO) : TE := fun σ H Q => te σ H fun x H1 => tl σ H1 fun l H2 => th σ H2 fun u H3 => r x l u H3 Q
/-- a[lo:hi], any a -/
theorem pe_slice {r : V → Option Int → Option Int → Hp → VK → Prop} (hr : SlR X r) (he : PE X e te) (hl : PO X lo tl) (hu : PO X hi th) : PE X (.Subscript e (.Slice lo hi none p2) pos) (tSl r te tl th) := by
  intro pins s σ H Q I h
  refine Subscript_ (thn (he pins s σ H _ I h) fun v s1 ⟨x, H1, I1, r1, q1⟩ => ?_)
  refine wpAny_Slice (thn (hl pins s1 σ H1 _ I1 q1) fun vl s2 ⟨l, H2, I2, pl, q2⟩ => thn (hu pins s2 σ H2 _ I2 q2) fun vu s3 ⟨u, H3, I3, pu, q3⟩ => ?_)
  rw [evalPart_none]
  refine wpAny_pure ?_
  have I4 : Inv X pins σ H3 { s3 with heap := s3.heap.push { cls := .type "slice", data := .fields #[vl, vu, .none] } } := I3.kept (t' := s3.toks) fun b ob q => Heap.get?_push_of_some _ q
  obtain ⟨T, id, hT, ht, hg⟩ := hr pins { s3 with heap := s3.heap.push { cls := .type "slice", data := .fields #[vl, vu, .none] } } σ H3 x v vl vu l u s3.heap.objs.size Q I4 r1 (Heap.IsSliceOf.new ..) pl pu q3
  show wpAny (model X.prog X.w) X.A (subscriptTail e (.Slice lo hi none p2) v (.ref s3.heap.objs.size)) (EP X pins σ Q) X.xe { s3 with heap := s3.heap.push { cls := .type "slice", data := .fields #[vl, vu, .none] } }
  exact tail_any (ops := [.ref s3.heap.objs.size, v]) ht hT hg (by with_unfolding_all rfl)

/-- the items of xs[lo:hi] -/
def cutV (xs : List V) (lo hi : Option Int) : List V := (xs.drop (HT.sIx xs.length 0 lo)).take (HT.sIx xs.length xs.length hi - HT.sIx xs.length 0 lo)
theorem cutV_length (xs : List V) (lo hi : Option Int) : (cutV xs lo hi).length ≤ xs.length := by
  unfold cutV
  rw [List.length_take, List.length_drop]
  omega
/-- t[lo:hi], not the whole of it (the whole would be t itself) -/
def rSlT (K : PySem.W.Frag) : V → Option Int → Option Int → Hp → VK → Prop := fun x lo hi H Q => ∃ a xs, x = .ref a ∧ SqT K H a xs ∧
  ¬ (HT.sIx xs.length 0 lo = 0 ∧ HT.sIx xs.length xs.length hi = xs.length) ∧ ∀ p, H p = none → Q (.ref p) (upd H p (.tup (cutV xs lo hi)))
theorem sl_tup : SlR X (rSlT X.K) := by
  intro pins s σ H x v vl vu lo hi sl Q I rx hs pl pu h
  obtain ⟨a, xs, rfl, hx, hw, q⟩ := h
  cases rx
  obtain ⟨its, r, ht, hz⟩ := I.tuple hx
  have hlen : its.toArray.size = xs.length := by rw [List.size_toArray]; exact r.length.symm
  refine ⟨"tuple", _, PyProof.Rows.slot_tuple_getitem.lookup, ht.typeIs, ?_⟩
  refine HT.getItem_tuple_cut ht hs pl pu (by rw [hlen]; exact hw) ?_ (by rw [hlen]; exact hz)
  rw [hlen]
  refine ⟨.ref s.heap.objs.size, _, I.laid (t' := s.toks) (o := .tup (cutV xs lo hi)) (fun b ob q => Heap.get?_push_of_some _ q) (Nat.le_refl _) ?_, rfl, q _ (I.hok.fresh (Nat.le_refl _))⟩
  exact ⟨Nat.le_trans (cutV_length xs lo hi) hz, _, (r.drop (HT.sIx xs.length 0 lo)).take (HT.sIx xs.length xs.length hi - HT.sIx xs.length 0 lo), IsTup.new _ _⟩

/-! ### t < u, t + u -/
def rLtT (K : PySem.W.Frag) : R2 := fun x y H Q => ∃ a b ns ms, x = .ref a ∧ y = .ref b ∧ SqT K H a (ns.map V.int) ∧ SqT K H b (ms.map V.int) ∧ Q (.bl (HT.lexLt ns ms)) H
theorem op_ltT (hu : X.A.units < cLine) : OpR X (compareOp .Lt) (rLtT X.K) := by
  intro pins s σ H x y v u Q I rx ry h
  obtain ⟨a, b, ns, ms, rfl, rfl, ha, hb, q⟩ := h
  cases rx
  cases ry
  obtain ⟨its, r1, p1, _⟩ := I.tuple ha
  obtain ⟨its2, r2, p2, _⟩ := I.tuple hb
  have i1 : IntsAre its.toArray.toList ns := intsAre_of r1
  have i2 : IntsAre its2.toArray.toList ms := intsAre_of r2
  exact HT.lt_tupInts p1 p2 i1 i2 hu ⟨.bl (HT.lexLt ns ms), H, I, rfl, q⟩
/-- t + u, t not empty: u empty gives t itself -/
def rCatT (K : PySem.W.Frag) : R2 := fun x y H Q => ∃ a b xs ys, x = .ref a ∧ y = .ref b ∧ SqT K H a xs ∧ SqT K H b ys ∧ xs ≠ [] ∧ xs.length + ys.length ≤ sizeLine ∧
  (ys = [] → Q (.ref a) H) ∧ (ys ≠ [] → ∀ p, H p = none → Q (.ref p) (upd H p (.tup (xs ++ ys))))
theorem Vals.nil_iff {xs : List V} {us : List Value} (r : Vals xs us) : us = [] ↔ xs = [] := by
  cases r with
  | nil => simp
  | cons _ _ => simp
theorem op_catT : OpR X (binaryOp .Add) (rCatT X.K) := by
  intro pins s σ H x y v u Q I rx ry h
  obtain ⟨a, b, xs, ys, rfl, rfl, ha, hb, hx, hz, q1, q2⟩ := h
  cases rx
  cases ry
  obtain ⟨its, r1, p1, _⟩ := I.tuple ha
  obtain ⟨its2, r2, p2, _⟩ := I.tuple hb
  refine HT.cat_tup p1 p2 (fun z => hx (r1.nil_iff.mp z)) (fun z => ⟨.ref a, H, I, rfl, q1 (r2.nil_iff.mp z)⟩) (fun z => ?_) (by rw [← r1.length, ← r2.length]; exact hz)
  refine ⟨.ref s.heap.objs.size, _, I.laid (t' := s.toks) (o := .tup (xs ++ ys)) (fun b ob q => Heap.get?_push_of_some _ q) (Nat.le_refl _) ?_, rfl, q2 (fun w => z (r2.nil_iff.mpr w)) _ (I.hok.fresh (Nat.le_refl _))⟩
  exact ⟨by rw [List.length_append]; exact hz, _, r1.append r2, IsTup.new _ _⟩
/-- tuple(t) -/
theorem call_tupleT : CallR X (.type "tuple") (fun xs H Q => ∃ a ys, xs = [.ref a] ∧ SqT X.K H a ys ∧ Q (.ref a) H) := by
  intro pins s σ H xs us Q I r h
  obtain ⟨a, ys, rfl, ha, q⟩ := h
  obtain ⟨u, rfl, ru⟩ := vals1 r
  cases ru
  obtain ⟨its, _, p1, _⟩ := I.tuple ha
  exact call_tuple_same (items := its.toArray) p1 ⟨.ref a, H, I, rfl, q⟩
end
end L2

namespace L2
open PySem PySem.Spec PyProof.Rows

/-! ### places -/
/-- the place that an index of any sign means -/
def ixN (n : Nat) (i : Int) : Option Nat := if 0 ≤ i then (if i < n then some i.toNat else none) else if -(n : Int) ≤ i then some (i + n).toNat else none
def atI {α : Type} (xs : List α) (i : Int) : Option α := (ixN xs.length i).bind fun j => xs[j]?
theorem ixN_seq {n : Nat} {i : Int} {j : Nat} (h : ixN n i = some j) : seqIndex? i n = some j ∧ j < n ∧ -(n : Int) ≤ i ∧ i < n := by
  unfold ixN at h
  by_cases h0 : 0 ≤ i
  · rw [if_pos h0] at h
    by_cases h1 : i < n
    · rw [if_pos h1] at h
      have e : i.toNat = j := Option.some.inj h
      exact ⟨by rw [seqIndex_of h0 h1, e], by omega, by omega, h1⟩
    · rw [if_neg h1] at h; cases h
  · rw [if_neg h0] at h
    by_cases h1 : -(n : Int) ≤ i
    · rw [if_pos h1] at h
      have e : (i + n).toNat = j := Option.some.inj h
      exact ⟨by rw [seqIndex_neg (by omega) h1, e], by omega, h1, by omega⟩
    · rw [if_neg h1] at h; cases h
theorem atI_get {α : Type} {xs : List α} {i : Int} {v : α} (h : atI xs i = some v) : ∃ j, seqIndex? i xs.length = some j ∧ xs[j]? = some v ∧ j < xs.length ∧ -(xs.length : Int) ≤ i ∧ i < xs.length := by
  unfold atI at h
  cases e : ixN xs.length i with
  | none => rw [e] at h; cases h
  | some j =>
    rw [e] at h
    obtain ⟨h1, h2, h3, h4⟩ := ixN_seq e
    exact ⟨j, h1, h, h2, h3, h4⟩
theorem atI_nat {α : Type} {xs : List α} {j : Nat} {v : α} (h : xs[j]? = some v) : atI xs (j : Int) = some v := by
  have hj : j < xs.length := (List.getElem?_eq_some_iff.mp h).1
  have e : ixN xs.length (j : Int) = some j := by
    unfold ixN
    rw [if_pos (by omega), if_pos (by omega)]; simp
  unfold atI; rw [e]; exact h
theorem atI_last {α : Type} (xs : List α) (v : α) : atI (xs ++ [v]) (-1) = some v := by
  have hl : (xs ++ [v]).length = xs.length + 1 := by simp
  have e : ixN (xs ++ [v]).length (-1) = some xs.length := by
    unfold ixN
    rw [hl, if_neg (by decide), if_pos (by omega)]
    congr 1
    omega
  unfold atI
  rw [e]
  show (xs ++ [v])[xs.length]? = some v
  simp

/-! ### what may be subscripted -/
/-- what stands as an index of a plain subscript -/
def PlainIx (b : Expr) : Prop := ∀ o i, subscripted b false o i = operate [o, i] (getItem o i)
/-- a subscript by values -/
def IxR (X : Cx) (r : R2) : Prop :=
  ∀ (value slice : Expr) (pins : List (Addr × Obj)) (s : Shared) (σ : St) (H : Hp) (x y : V) (v u : Value) (Q : VK), Inv X pins σ H s → RelV x v → RelV y u → r x y H Q →
    subscripted slice false v u = operate [v, u] (getItem v u) → wpAny (model X.prog X.w) X.A (subscriptTail value slice v u) (EP X pins σ Q) X.xe s
/-- a call of a builtin's method by values: the receiver, the arguments -/
def MtR (X : Cx) (id : String) (r : V → List V → Hp → VK → Prop) : Prop :=
  ∀ (pins : List (Addr × Obj)) (s : Shared) (σ : St) (H : Hp) (x : V) (xs : List V) (v : Value) (us : List Value) (Q : VK), Inv X pins σ H s → RelV x v → Vals xs us → r x xs H Q →
    wpAny (model X.prog X.w) X.A (call (.builtin id) (v :: us)) (EP X pins σ Q) X.xe s
section
variable {X : Cx} {a b : Expr} {ta tb : TE} {pos : Pos}
theorem IxR.or {r r' : R2} (h : IxR X r) (h' : IxR X r') : IxR X (fun x y H Q => r x y H Q ∨ r' x y H Q) := by
  intro value slice pins s σ H x y v u Q I rx ry q hs
  rcases q with q | q
  · exact h value slice pins s σ H x y v u Q I rx ry q hs
  · exact h' value slice pins s σ H x y v u Q I rx ry q hs
theorem MtR.or {id : String} {r r' : V → List V → Hp → VK → Prop} (h : MtR X id r) (h' : MtR X id r') : MtR X id (fun x xs H Q => r x xs H Q ∨ r' x xs H Q) := by
  intro pins s σ H x xs v us Q I rx rs q
  rcases q with q | q
  · exact h pins s σ H x xs v us Q I rx rs q
  · exact h' pins s σ H x xs v us Q I rx rs q
/-- a[b] -/
theorem pe_ix {r : R2} (hr : IxR X r) (ha : PE X a ta) (hb : PE X b tb) (hs : PlainIx b) : PE X (.Subscript a b pos) (tOp r ta tb) := by
  intro pins s σ H Q I h
  exact Subscript_ (binT ha hb I h fun v u s2 x y H2 I2 rx ry q => hr a b pins s2 σ H2 x y v u Q I2 rx ry q (hs _ _))

def rIxL (K : PySem.W.Frag) : R2 := fun x y H Q => ∃ p xs i v, x = .ref p ∧ y = .int i ∧ SqL K H p xs ∧ atI xs i = some v ∧ Q v H
def rIxT (K : PySem.W.Frag) : R2 := fun x y H Q => ∃ p xs i v, x = .ref p ∧ y = .int i ∧ SqT K H p xs ∧ atI xs i = some v ∧ Q v H
def rIxS : R2 := fun x y H Q => ∃ z i c, x = .str z ∧ y = .int i ∧ z.length ≤ sizeLine ∧ atI z.cps.toList i = some c ∧ Q (.str ⟨#[c]⟩) H
theorem ix_list : IxR X (rIxL X.K) := by
  intro value slice pins s σ H x y v u Q I rx ry h hs
  obtain ⟨p, xs, i, z, rfl, rfl, hq, he, q⟩ := h
  cases rx
  obtain ⟨t, rfl⟩ := ry
  obtain ⟨its, r, pl, hz⟩ := I.list hq
  obtain ⟨j, h1, h2, h3, h4, h5⟩ := atI_get he
  obtain ⟨w, ew, rw'⟩ := r.get h2
  have hl := r.length
  have hn := line63
  have fin : EP X pins σ Q w s := ⟨z, H, I, rw', q⟩
  by_cases h0 : 0 ≤ i
  · have hj : i.toNat = j := by
      rw [seqIndex_of h0 h5] at h1
      exact Option.some.inj h1
    exact item_listR pl.isList h0 (by omega) (by rw [hj]; simpa using ew) fin hs
  · have hj : (i + (its.toArray.size : Int)).toNat = j := by
      rw [seqIndex_neg (by omega) h4] at h1
      rw [List.size_toArray, ← hl]
      exact Option.some.inj h1
    exact subscriptTail_builtinR (x := w) pl.isList.typeIs slot_list_getitem.lookup
      (wpAny_getItem_list_neg (Q := fun r s' => r = w ∧ EP X pins σ Q r s') pl.isList (by omega) (by rw [List.size_toArray] <;> omega) (by omega) (by rw [hj]; simpa using ew) ⟨rfl, fin⟩) hs
theorem ix_tup : IxR X (rIxT X.K) := by
  intro value slice pins s σ H x y v u Q I rx ry h hs
  obtain ⟨p, xs, i, z, rfl, rfl, hq, he, q⟩ := h
  cases rx
  obtain ⟨t, rfl⟩ := ry
  obtain ⟨its, r, pl, hz⟩ := I.tuple hq
  obtain ⟨j, h1, h2, h3, h4, h5⟩ := atI_get he
  obtain ⟨w, ew, rw'⟩ := r.get h2
  have hl := r.length
  have hn := line63
  have fin : EP X pins σ Q w s := ⟨z, H, I, rw', q⟩
  exact subscriptTail_builtinR (x := w) pl.typeIs slot_tuple_getitem.lookup
    (getItem_tuple (j := j) (Q := fun r s' => r = w ∧ EP X pins σ Q r s') pl (by omega) (by omega) (by rw [List.size_toArray, ← hl]; exact h1) (by simpa using ew) ⟨rfl, fin⟩) hs
theorem ix_str : IxR X rIxS := by
  intro value slice pins s σ H x y v u Q I rx ry h hs
  obtain ⟨z, i, c, rfl, rfl, hz, he, q⟩ := h
  obtain ⟨t, rfl⟩ := rx
  obtain ⟨t', rfl⟩ := ry
  obtain ⟨j, h1, h2, h3, h4, h5⟩ := atI_get he
  have hl : z.cps.toList.length = z.length := by simp [Str.length]
  rw [hl] at h1 h4 h5
  have hn := line63
  exact tail_any (typeIs_str s z t) slot_str_getitem.lookup (getItem_str (c := c) (by
    have e1 : decide (i < -(2 ^ 63 : Int)) = false := decide_eq_false (by omega)
    have e2 : decide (i ≥ 2 ^ 63) = false := decide_eq_false (by omega)
    rw [e1, e2, Bool.or_false]) (by rw [h1]; simpa using h2) ⟨.str ⟨#[c]⟩, H, I.tok _, ⟨_, rfl⟩, q⟩) hs
/-- list, tuple or str -/
def rIx (K : PySem.W.Frag) : R2 := fun x y H Q => rIxL K x y H Q ∨ rIxT K x y H Q ∨ rIxS x y H Q
theorem ix_seq : IxR X (rIx X.K) := ix_list.or (ix_tup.or ix_str)

/-! ### xs[i] = v, any sign -/
/-- the list's object behind a store -/
theorem mapSeq_set (its : List Value) (n j : Nat) (u : Value) : Obj.mapSeq (·.setIfInBounds j u) { cls := .type "list", data := .seq its.toArray n } = { cls := .type "list", data := .seq (its.set j u).toArray n } := by
  simp [Obj.mapSeq]
theorem Inv.lst {pins : List (Addr × Obj)} {σ : St} {H : Hp} {s : Shared} {p : Addr} {xs : List V} (I : Inv X pins σ H s) (h : H p = some (.lst xs)) :
    ∃ (its : List Value) (n : Nat), Vals xs its ∧ s.heap.get? p = some { cls := .type "list", data := .seq its.toArray n } ∧ xs.length ≤ sizeLine := by
  obtain ⟨z, its, n, r, e⟩ := I.hok p _ h
  exact ⟨its, n, r, e, z⟩
/-- the list at p is written by an update of its object -/
theorem Inv.lstUpd {pins : List (Addr × Obj)} {σ : St} {H : Hp} {s : Shared} {p : Addr} {xs ys : List V} {its its' : List Value} {n n' : Nat} {f : Obj → Obj} (I : Inv X pins σ H s) (h : H p = some (.lst xs))
    (ho : s.heap.get? p = some { cls := .type "list", data := .seq its.toArray n }) (hf : f { cls := .type "list", data := .seq its.toArray n } = { cls := .type "list", data := .seq its'.toArray n' }) (r : Vals ys its') (hz : ys.length ≤ sizeLine) (t : Nat) :
    Inv X pins σ (upd H p (.lst ys)) { s with heap := s.heap.update p f, toks := t } := by
  have e : (s.heap.update p f).get? p = some { cls := .type "list", data := .seq its'.toArray n' } := by
    rw [Heap.get?_update_self f ho (by rw [hf] <;> rfl), hf]
  refine I.write (x := p) (e := p) (by rw [h]; trivial) (.inl rfl) (fun b u hb q => (Heap.get?_update_other _ _ (Ne.symm hb)).trans q) ⟨_, e⟩ ?_
  exact ⟨hz, its', n', r, e⟩
def rSetL : V → V → V → Hp → (Hp → Prop) → Prop := fun o i v H Q => ∃ p xs k j, o = .ref p ∧ i = .int k ∧ H p = some (.lst xs) ∧ ixN xs.length k = some j ∧ Q (upd H p (.lst (xs.set j v)))
theorem set_list : PSet X rSetL := by
  intro pins s σ H o i v ov iv u Q I ro ri rv h
  obtain ⟨p, xs, k, j, rfl, rfl, hp, hj, q⟩ := h
  cases ro
  obtain ⟨t, rfl⟩ := ri
  obtain ⟨its, n, r, ho, hz⟩ := I.lst hp
  obtain ⟨h1, h2, h3, h4⟩ := ixN_seq hj
  have hl := r.length
  have hn := line63
  have I' : Inv X pins σ (upd H p (.lst (xs.set j v))) { s with heap := s.heap.update p (Obj.mapSeq (·.setIfInBounds j u)) } :=
    I.lstUpd hp ho (mapSeq_set its n j u) (r.set rv j) (by rw [List.length_set]; exact hz) s.toks
  by_cases h0 : 0 ≤ k
  · have hk : k.toNat = j := by
      rw [seqIndex_of h0 h4] at h1
      exact Option.some.inj h1
    exact PySem.W.ki_setAt ho h0 (by omega) (by rw [List.size_toArray, ← hl]; exact h4) (by rw [hk]; exact ⟨_, I', q⟩)
  · have hk : (k + (its.toArray.size : Int)).toNat = j := by
      rw [seqIndex_neg (by omega) h3] at h1
      rw [List.size_toArray, ← hl]
      exact Option.some.inj h1
    exact PySem.W.ki_setBack ho (by omega) (by rw [List.size_toArray, ← hl]; exact h3) (by omega) (by rw [hk]; exact ⟨_, I', q⟩)

/-! ### slices -/
theorem slice_bounds (lo hi : Option Int) (n : Nat) : (sliceBounds lo hi none n).1 = ((HT.sIx n 0 lo : Nat) : Int) ∧ (sliceBounds lo hi none n).2.1 = ((HT.sIx n n hi : Nat) : Int) ∧ (sliceBounds lo hi none n).2.2 = 1 := by
  refine ⟨?_, ?_, rfl⟩
  · cases lo with
    | none => simp [sliceBounds, HT.sIx]
    | some i =>
      simp only [sliceBounds, HT.sIx, Option.getD_none, show (1 : Int) > 0 by decide, if_true]
      by_cases h : i < 0
      · simp only [h, if_true] <;> omega
      · simp only [h, if_false] <;> omega
  · cases hi with
    | none => simp [sliceBounds, HT.sIx]
    | some i =>
      simp only [sliceBounds, HT.sIx, Option.getD_none, show (1 : Int) > 0 by decide, if_true]
      by_cases h : i < 0
      · simp only [h, if_true] <;> omega
      · simp only [h, if_false] <;> omega
theorem slicePick_cut (its : List Value) (lo hi : Option Int) : slicePick its.toArray lo hi none = ((its.drop (HT.sIx its.length 0 lo)).take (HT.sIx its.length its.length hi - HT.sIx its.length 0 lo)).toArray := by
  obtain ⟨h1, h2, h3⟩ := slice_bounds lo hi its.toArray.size
  unfold slicePick
  rw [h1, h2, h3]
  simp only [sliceRange_one, pick_run, List.size_toArray] <;> rfl
/-- xs[lo:hi] of a list: a new list -/
def rSlL (K : PySem.W.Frag) : V → Option Int → Option Int → Hp → VK → Prop := fun x lo hi H Q => ∃ a xs, x = .ref a ∧ SqL K H a xs ∧ ∀ p, H p = none → Q (.ref p) (upd H p (.lst (cutV xs lo hi)))
theorem sl_list : SlR X (rSlL X.K) := by
  intro pins s σ H x v vl vu lo hi sl Q I rx hs pl pu h
  obtain ⟨a, xs, rfl, hx, q⟩ := h
  cases rx
  obtain ⟨its, r, ht, hz⟩ := I.list hx
  have hlen := r.length
  refine ⟨"list", _, slot_list_getitem.lookup, ht.isList.typeIs, ?_⟩
  refine wpAny_getItem_list_slice ht.isList hs pl pu .none (by simp) ?_ (by rw [List.size_toArray] <;> omega)
  rw [slicePick_cut, ← hlen]
  refine ⟨.ref s.heap.objs.size, _, I.laid (t' := s.toks) (o := .lst (cutV xs lo hi)) (fun b ob q => Heap.get?_push_of_some _ q) (Nat.le_refl _) ?_, rfl, q _ (I.hok.fresh (Nat.le_refl _))⟩
  exact ⟨Nat.le_trans (cutV_length xs lo hi) hz, _, 0, (r.drop (HT.sIx xs.length 0 lo)).take (HT.sIx xs.length xs.length hi - HT.sIx xs.length 0 lo), Heap.get?_push_size _ rfl⟩

/-! ### in, not in: flat items -/
def flatV : V → Bool
  | .non => true
  | .bl _ => true
  | .int _ => true
  | .str _ => true
  | _ => false
/-- == of flat values -/
def eqV : V → V → Bool
  | .non, .non => true
  | .bl a, .bl b => a == b
  | .bl a, .int b => (if a then 1 else 0) == b
  | .int a, .bl b => a == (if b then 1 else 0)
  | .int a, .int b => a == b
  | .str a, .str b => a == b
  | _, _ => false
theorem eqAt_V {A : Around} {s : Shared} {y x : V} {u v : Value} (ry : RelV y u) (rx : RelV x v) (fy : flatV y = true) (fx : flatV x = true) : SeqAt.EqAt A s u v (eqV y x) := by
  cases y with
  | non =>
    cases ry
    cases x with
    | non => cases rx; exact SeqAt.EqAt.same _
    | bl b => cases rx; exact SeqAt.EqAt.none_bool b
    | int b => obtain ⟨t, rfl⟩ := rx; exact SeqAt.EqAt.none_int b t
    | str b => obtain ⟨t, rfl⟩ := rx; exact SeqAt.EqAt.none_str b t
    | _ => exact absurd (show false = true from fx) Bool.false_ne_true
  | bl a =>
    cases ry
    cases x with
    | non => cases rx; exact SeqAt.EqAt.bool_none a
    | bl b => cases rx; exact SeqAt.EqAt.bool_bool a b
    | int b => obtain ⟨t, rfl⟩ := rx; exact SeqAt.EqAt.bool_int a b t
    | str b => obtain ⟨t, rfl⟩ := rx; exact SeqAt.EqAt.bool_str a b t
    | _ => exact absurd (show false = true from fx) Bool.false_ne_true
  | int a =>
    obtain ⟨t', rfl⟩ := ry
    cases x with
    | non => cases rx; exact SeqAt.EqAt.int_none a t'
    | bl b => cases rx; exact SeqAt.EqAt.int_bool a t' b
    | int b => obtain ⟨t, rfl⟩ := rx; exact SeqAt.EqAt.int_int a t' b t
    | str b => obtain ⟨t, rfl⟩ := rx; exact SeqAt.EqAt.int_str a t' b t
    | _ => exact absurd (show false = true from fx) Bool.false_ne_true
  | str a =>
    obtain ⟨t', rfl⟩ := ry
    cases x with
    | non => cases rx; exact SeqAt.EqAt.str_none a t'
    | bl b => cases rx; exact SeqAt.EqAt.str_bool a t' b
    | int b => obtain ⟨t, rfl⟩ := rx; exact SeqAt.EqAt.str_int a t' b t
    | str b => obtain ⟨t, rfl⟩ := rx; exact SeqAt.EqAt.str_str a t' b t
    | _ => exact absurd (show false = true from fx) Bool.false_ne_true
  | _ => exact absurd (show false = true from fy) Bool.false_ne_true
/-- the items' answers, read off the values (a value's own answer does not lean on its token) -/
def eqU (x : V) (u : Value) : Bool := match u with
  | .none => eqV .non x
  | .bool b => eqV (.bl b) x
  | .int i _ => eqV (.int i) x
  | .str z _ => eqV (.str z) x
  | _ => false
theorem eqU_of {x y : V} {u : Value} (r : RelV y u) (f : flatV y = true) : eqU x u = eqV y x := by
  cases y with
  | non => cases r; rfl
  | bl b => cases r; rfl
  | int i => obtain ⟨t, rfl⟩ := r; rfl
  | str z => obtain ⟨t, rfl⟩ := r; rfl
  | _ => exact absurd (show false = true from f) Bool.false_ne_true
theorem any_eqU {x : V} : ∀ {xs : List V} {us : List Value}, Vals xs us → xs.all flatV = true → us.any (eqU x) = xs.any fun y => eqV y x
  | _, _, .nil, _ => rfl
  | y :: xs, u :: us, .cons r t, f => by
    rw [List.all_cons, Bool.and_eq_true] at f
    rw [List.any_cons, List.any_cons, eqU_of r f.1, any_eqU t f.2]
theorem mem_eqAt {A : Around} {s : Shared} {x : V} {v : Value} (rx : RelV x v) (fx : flatV x = true) : ∀ {xs : List V} {us : List Value}, Vals xs us → xs.all flatV = true → ∀ u ∈ us, SeqAt.EqAt A s u v (eqU x u)
  | _, _, .nil, _ => fun u hu => by cases hu
  | y :: xs, u :: us, .cons r t, f => fun u' hu => by
    rw [List.all_cons, Bool.and_eq_true] at f
    rcases List.mem_cons.mp hu with rfl | hu
    · rw [eqU_of r f.1]; exact eqAt_V r rx f.1 fx
    · exact mem_eqAt rx fx t f.2 u' hu
def inV (x : V) (xs : List V) : Bool := xs.any fun y => eqV y x
/-- x in a list or tuple of flat items -/
def rIn (K : PySem.W.Frag) (neg : Bool) : R2 := fun x y H Q => ∃ p xs, y = .ref p ∧ (SqL K H p xs ∨ SqT K H p xs) ∧ flatV x = true ∧ xs.all flatV = true ∧ Q (.bl (if neg then !inV x xs else inV x xs)) H
theorem op_in_seq : OpR X (compareOp .In) (rIn X.K false) := by
  intro pins s σ H x y v u Q I rx ry h
  obtain ⟨p, xs, rfl, hq, fx, fs, q⟩ := h
  cases ry
  rcases hq with hq | hq
  · obtain ⟨its, r, pl, hz⟩ := I.list hq
    refine SeqAt.in_listAt (eqU x) pl.isList (fun w hw => mem_eqAt rx fx r fs w (by simpa using hw)) ⟨.bl _, H, I, rfl, ?_⟩
    rw [show its.toArray.any (eqU x) = its.any (eqU x) by simp, any_eqU r fs]
    exact q
  · obtain ⟨its, r, pl, hz⟩ := I.tuple hq
    refine SeqAt.in_tupleAt (eqU x) pl (fun w hw => mem_eqAt rx fx r fs w (by simpa using hw)) ⟨.bl _, H, I, rfl, ?_⟩
    rw [show its.toArray.any (eqU x) = its.any (eqU x) by simp, any_eqU r fs]
    exact q
theorem op_notIn_seq : OpR X (compareOp .NotIn) (rIn X.K true) := by
  intro pins s σ H x y v u Q I rx ry h
  obtain ⟨p, xs, rfl, hq, fx, fs, q⟩ := h
  cases ry
  rcases hq with hq | hq
  · obtain ⟨its, r, pl, hz⟩ := I.list hq
    refine SeqAt.notIn_listAt (eqU x) pl.isList (fun w hw => mem_eqAt rx fx r fs w (by simpa using hw)) ⟨.bl _, H, I, rfl, ?_⟩
    rw [show its.toArray.any (eqU x) = its.any (eqU x) by simp, any_eqU r fs]
    exact q
  · obtain ⟨its, r, pl, hz⟩ := I.tuple hq
    refine SeqAt.notIn_tupleAt (eqU x) pl (fun w hw => mem_eqAt rx fx r fs w (by simpa using hw)) ⟨.bl _, H, I, rfl, ?_⟩
    rw [show its.toArray.any (eqU x) = its.any (eqU x) by simp, any_eqU r fs]
    exact q
theorem op_notIn_str : OpR X (compareOp .NotIn) (fun x y H Q => ∃ i j, x = .str i ∧ y = .str j ∧ Q (.bl (!(!(Builtin.Str.occurrences j i 0 j.length 1).isEmpty))) H) := by
  intro pins s σ H x y v u Q I rx ry h
  obtain ⟨i, j, rfl, rfl, q⟩ := h
  obtain ⟨t, rfl⟩ := rx
  obtain ⟨t', rfl⟩ := ry
  exact notIn_str ⟨.bl _, H, I, rfl, q⟩

/-! ### len, list(x), tuple(x) of any list or tuple that is read -/
theorem call_len_seq : CallR X (.builtin "len") (fun xs H Q => ∃ p ys, xs = [.ref p] ∧ (SqL X.K H p ys ∨ SqT X.K H p ys) ∧ Q (.int ys.length) H) := by
  intro pins s σ H xs us Q I r h
  obtain ⟨p, ys, rfl, hq, q⟩ := h
  obtain ⟨u, rfl, rx⟩ := vals1 r
  cases rx
  have hn := line63
  rcases hq with hq | hq
  · obtain ⟨its, r', pl, hz⟩ := I.list hq
    have hlen := r'.length
    exact Calls.call_len_list pl.isList (by simp only [List.size_toArray] <;> omega) ⟨.int ys.length, H, I.tok _, ⟨s.toks + 1, by rw [List.size_toArray, hlen]⟩, q⟩
  · obtain ⟨its, r', pl, hz⟩ := I.tuple hq
    have hlen := r'.length
    exact len_tuple pl (by simp only [List.size_toArray] <;> omega) ⟨.int ys.length, H, I.tok _, ⟨s.toks + 1, by rw [List.size_toArray, hlen]⟩, q⟩
theorem call_len_str : CallR X (.builtin "len") (fun xs H Q => ∃ z, xs = [.str z] ∧ z.length ≤ sizeLine ∧ Q (.int z.length) H) := by
  intro pins s σ H xs us Q I r h
  obtain ⟨z, rfl, hz, q⟩ := h
  obtain ⟨u, rfl, t, rfl⟩ := vals1 r
  have hn := line63
  exact len_str (by omega) ⟨.int z.length, H, I.tok _, ⟨_, rfl⟩, q⟩
theorem CallR.or {f : Value} {r r' : List V → Hp → VK → Prop} (h : CallR X f r) (h' : CallR X f r') : CallR X f (fun xs H Q => r xs H Q ∨ r' xs H Q) := by
  intro pins s σ H xs us Q I rs q
  rcases q with q | q
  · exact h pins s σ H xs us Q I rs q
  · exact h' pins s σ H xs us Q I rs q
theorem call_list_of : CallR X (.type "list") (fun xs H Q => ∃ p ys, xs = [.ref p] ∧ (SqL X.K H p ys ∨ SqT X.K H p ys) ∧ ∀ l, H l = none → Q (.ref l) (upd H l (.lst ys))) := by
  intro pins s σ H xs us Q I r h
  obtain ⟨p, ys, rfl, hq, q⟩ := h
  obtain ⟨u, rfl, rx⟩ := vals1 r
  cases rx
  have fin : ∀ (its : List Value), Vals ys its → ys.length ≤ sizeLine → ∀ (h' : Heap) (c' : Nat), (∀ b o', s.heap.get? b = some o' → h'.get? b = some o') →
      h'.get? s.heap.objs.size = some { cls := .type "list", dict := none, data := .seq its.toArray c', slots := #[] } → EP X pins σ Q (.ref s.heap.objs.size) { s with heap := h' } := fun its r' hz h' c' kp e =>
    ⟨.ref s.heap.objs.size, _, I.laid (t' := s.toks) kp (Nat.le_refl _) (show ObjOk X.prog X.w _ h' _ (.lst ys) from ⟨hz, its, c', r', e⟩), rfl, q _ (I.hok.fresh (Nat.le_refl _))⟩
  rcases hq with hq | hq
  · obtain ⟨its, r', pl, hz⟩ := I.list hq
    have hlen := r'.length
    obtain ⟨o, ho, hc, n, hd⟩ := pl.isList
    exact call_list_seq p (.inl rfl) ho hc hd (fun h' c' kp e => fin its r' hz h' c' kp e) (by simp only [List.size_toArray] <;> omega)
  · obtain ⟨its, r', pl, hz⟩ := I.tuple hq
    have hlen := r'.length
    obtain ⟨o, ho, hc, n, hd⟩ := pl
    exact call_list_seq p (.inr rfl) ho hc hd (fun h' c' kp e => fin its r' hz h' c' kp e) (by simp only [List.size_toArray] <;> omega)
theorem call_tuple_of : CallR X (.type "tuple") (fun xs H Q => ∃ p ys, xs = [.ref p] ∧ ((SqL X.K H p ys ∧ ∀ l, H l = none → Q (.ref l) (upd H l (.tup ys))) ∨ (SqT X.K H p ys ∧ Q (.ref p) H))) := by
  intro pins s σ H xs us Q I r h
  obtain ⟨p, ys, rfl, h⟩ := h
  obtain ⟨u, rfl, rx⟩ := vals1 r
  cases rx
  rcases h with ⟨hq, q⟩ | ⟨hq, q⟩
  · obtain ⟨its, r', pl, hz⟩ := I.list hq
    have hlen := r'.length
    refine call_tuple_list pl.isList (fun h' kp => ?_) (by simp only [List.size_toArray] <;> omega)
    have I1 : Inv X pins σ H { s with heap := h' } := I.kept (t' := s.toks) kp
    have I2 : Inv X pins σ (upd H h'.objs.size (.tup ys)) { s with heap := h'.push { cls := .type "tuple", data := .seq its.toArray } } :=
      I1.laid (t' := s.toks) (fun b o e => Heap.get?_push_of_some _ e) (Nat.le_refl _) (show ObjOk X.prog X.w _ _ _ (.tup ys) from ⟨hz, its, r', IsTup.new _ _⟩)
    exact ⟨.ref h'.objs.size, _, I2, rfl, q _ (I1.hok.fresh (Nat.le_refl _))⟩
  · obtain ⟨its, r', pl, hz⟩ := I.tuple hq
    exact call_tuple_same pl ⟨.ref p, H, I, rfl, q⟩

/-! ### the call of a builtin's method: o.m(..) -/
/-- the value is of that builtin type -/
def tyV (K : PySem.W.Frag) (T : String) (x : V) (H : Hp) : Prop := match x with
  | .str _ => T = "str"
  | .int _ => T = "int"
  | .ref p => (T = "list" ∧ ∃ xs, SqL K H p xs) ∨ (T = "tuple" ∧ ∃ o, K.lookup p = some o ∧ o.cls = .type "tuple" ∧ o.dict = none) ∨
      (T = "dict" ∧ ((∃ kvs, H p = some (.dK kvs)) ∨ ∃ kvs, H p = some (.dT kvs))) ∨ (T = "set" ∧ ∃ S n, H p = some (.set S n))
  | _ => False
theorem tyV_is {pins : List (Addr × Obj)} {σ : St} {H : Hp} {s : Shared} {T : String} {x : V} {v : Value} (I : Inv X pins σ H s) (r : RelV x v) (ty : tyV X.K T x H) :
    s.TypeIs v T ∧ ∀ a, v = .ref a → ∃ ob, s.heap.get? a = some ob ∧ ob.dict = none := by
  cases x with
  | str z =>
    obtain ⟨t, rfl⟩ := r
    cases (show T = "str" from ty)
    exact ⟨typeIs_str s z t, fun _ e => nomatch e⟩
  | int i =>
    obtain ⟨t, rfl⟩ := r
    cases (show T = "int" from ty)
    exact ⟨typeIs_int s i t, fun _ e => nomatch e⟩
  | ref p =>
    cases r
    rcases ty with ⟨rfl, xs, hq⟩ | ⟨rfl, o, hk, hc, hd⟩ | ⟨rfl, hk⟩ | ⟨rfl, S, n, hk⟩
    · obtain ⟨its, _, pl, _⟩ := I.list hq
      refine ⟨pl.isList.typeIs, fun a e => ?_⟩
      cases e
      obtain ⟨o, n, e, c, hd, _⟩ := pl
      exact ⟨o, e, hd⟩
    · refine ⟨⟨o, I.kIn p o hk, hc⟩, fun a e => ?_⟩
      cases e
      exact ⟨o, I.kIn _ o hk, hd⟩
    · have z : ∃ o, s.heap.get? p = some o ∧ o.ExactDict := by
        rcases hk with ⟨kvs, hk⟩ | ⟨kvs, hk⟩
        · obtain ⟨_, _, _, _, o, _, _, e, ex, _⟩ := I.hok p _ hk
          exact ⟨o, e, ex⟩
        · obtain ⟨_, _, _, _, o, _, _, e, ex, _⟩ := I.hok p _ hk
          exact ⟨o, e, ex⟩
      obtain ⟨o, e, ex⟩ := z
      refine ⟨⟨o, e, ex.1⟩, fun a e2 => ?_⟩
      cases e2
      exact ⟨o, e, ex.2.1⟩
    · obtain ⟨o, _, _, _, e, ex, _⟩ := I.hok p _ hk
      refine ⟨⟨o, e, ex.1⟩, fun a e2 => ?_⟩
      cases e2
      exact ⟨o, e, ex.2.1⟩
  | _ => exact False.elim ty
def tBM0 (K : PySem.W.Frag) (T : String) (r : V → List V → Hp → VK → Prop) (to : TE) : TE := fun σ H Q => to σ H fun x H1 => tyV K T x H1 ∧ r x [] H1 Q
def tBM (K : PySem.W.Frag) (T : String) (r : V → List V → Hp → VK → Prop) (to : TE) (t : TA) : TE := fun σ H Q => to σ H fun x H1 => tyV K T x H1 ∧ t σ H1 fun xs H2 => r x xs H2 Q
variable {o e : Expr} {es : List Expr} {to : TE} {t : TA} {name : Str} {apos cpos : Pos} {T id : String} {r : V → List V → Hp → VK → Prop}
theorem pe_bm0 (pa : PlainAttrs T) (slot : Slot T name id) (hty : typeOf (.builtin id) = pure (.type "method_descriptor")) (hm : MtR X id r) (ho : PE X o to)
    (hbase : attributeBase o name X.env (eval o X.env) = eval o X.env := by rfl) (hline : (apos.endLine == cpos.line) = true := by rfl) : PE X (.Call (.Attribute o name apos) [] [] cpos) (tBM0 X.K T r to) := by
  intro pins s σ H Q I h
  refine wpAny_Call_method0_late hbase hline (thn (ho pins s σ H _ I h) fun v s1 ⟨x, H1, I1, r1, ty, q1⟩ => ?_)
  obtain ⟨h1, h2⟩ := tyV_is I1 r1 ty
  exact ⟨T, id, pa, slot, hty, h1, h2, Calls.callWith_builtin rfl (PySem.evalArgs_none (hm pins s1 σ H1 x [] v [] Q I1 r1 .nil q1))⟩
theorem pe_bm (pa : PlainAttrs T) (slot : Slot T name id) (hty : typeOf (.builtin id) = pure (.type "method_descriptor")) (hm : MtR X id r) (ho : PE X o to) (ha : PA X (e :: es) t)
    (hbase : attributeBase o name X.env (eval o X.env) = eval o X.env := by rfl)
    (hfew : ((backTo cpos (starEach (e :: es) X.env)).all (fun x => !x.1) && (backToKw cpos (keywordEach [] X.env)).all (fun x => x.1.isSome)
      && decide ((e :: es).length + ([] : List Keyword).length + (if ([] : List Keyword).isEmpty then 0 else 1) < 30)) = true := by rfl)
    (hline : (apos.endLine == cpos.line) = true := by rfl) (hs : starEach (e :: es) X.env = (false, eval e X.env) :: starEach es X.env := by rfl) (hplain : (backTo cpos (starEach es X.env)).any (·.1) = false := by rfl) :
    PE X (.Call (.Attribute o name apos) (e :: es) [] cpos) (tBM X.K T r to t) := by
  intro pins s σ H Q I h
  refine wpAny_Call_method_late hbase hfew hline rfl (thn (ho pins s σ H _ I h) fun v s1 ⟨x, H1, I1, r1, ty, q1⟩ => ?_)
  obtain ⟨h1, h2⟩ := tyV_is I1 r1 ty
  refine ⟨T, id, pa, slot, hty, h1, h2, ?_⟩
  have hA := ha cpos pins s1 σ H1 _ I1 q1
  rw [hs] at hA ⊢
  refine Calls.callWith_builtin (by show (false || (backTo cpos (starEach es X.env)).any (·.1)) = false; rw [hplain] <;> rfl) (Calls.evalArgs_plain ?_)
  exact thn hA fun us s2 ⟨vs, H2, I2, r2, q2⟩ => hm pins s2 σ H2 x vs v us Q I2 r1 r2 q2
/- xs.append(e), list.index on a module's tuple .. are MtR facts of 06m -/
end
end L2

namespace L2
open PySem PySem.Spec PyProof.Rows

def MtM (X : Cx) (id : String) (r : V → List V → Hp → VK → Prop) : Prop :=
  ∀ (pins : List (Addr × Obj)) (s : Shared) (σ : St) (H : Hp) (x : V) (xs : List V) (v : Value) (us : List Value) (Q : VK), Inv X pins σ H s → RelV x v → Vals xs us → r x xs H Q →
    wpAny (model X.prog X.w) X.A (call (.builtin id) (v :: us)) (EP X pins σ Q) X.xe s

/-! ### lists of values -/
theorem Vals.one : ∀ {x : V} {us : List Value}, Vals [x] us → ∃ u, us = [u] ∧ RelV x u
  | _, _, .cons r .nil => ⟨_, rfl, r⟩
theorem Vals.two : ∀ {x y : V} {us : List Value}, Vals [x, y] us → ∃ u v, us = [u, v] ∧ RelV x u ∧ RelV y v
  | _, _, _, .cons r (.cons q .nil) => ⟨_, _, rfl, r, q⟩
theorem Vals.zero : ∀ {us : List Value}, Vals [] us → us = []
  | _, .nil => rfl
theorem Vals.dropLast {xs : List V} {us : List Value} (h : Vals xs us) : Vals xs.dropLast us.dropLast := by
  induction h with
  | nil => exact .nil
  | cons r t ih =>
    cases t with
    | nil => exact .nil
    | cons q t' => exact .cons r ih
theorem Vals.eraseIdx : ∀ {xs : List V} {us : List Value} (i : Nat), Vals xs us → Vals (xs.eraseIdx i) (us.eraseIdx i)
  | _, _, _, .nil => .nil
  | _, _, 0, .cons _ t => t
  | _, _, i + 1, .cons r t => .cons r (Vals.eraseIdx i t)
theorem Vals.reverse {xs : List V} {us : List Value} (h : Vals xs us) : Vals xs.reverse us.reverse := by
  induction h with
  | nil => exact .nil
  | cons r t ih => rw [List.reverse_cons, List.reverse_cons]; exact Vals.append ih (.cons r .nil)
theorem Vals.rep {xs : List V} {us : List Value} (h : Vals xs us) : ∀ k : Nat, Vals (List.replicate k xs).flatten (List.replicate k us).flatten
  | 0 => .nil
  | k + 1 => by
    rw [List.replicate_succ, List.replicate_succ, List.flatten_cons, List.flatten_cons]
    exact Vals.append h (Vals.rep h k)
theorem erase_last {α : Type} (l : List α) : l.eraseIdx (l.length - 1) = l.dropLast := by
  induction l with
  | nil => rfl
  | cons a r ih =>
    cases r with
    | nil => rfl
    | cons b r =>
      have e : (a :: b :: r).length - 1 = ((b :: r).length - 1) + 1 := by
        have h1 : (a :: b :: r).length = r.length + 2 := rfl
        have h2 : (b :: r).length = r.length + 1 := rfl
        omega
      rw [e, List.eraseIdx_cons_succ, ih]
      all_goals rfl
theorem len_erase {α : Type} : ∀ (l : List α) (i : Nat), (l.eraseIdx i).length ≤ l.length
  | [], _ => Nat.le_refl _
  | _ :: _, 0 => Nat.le_succ _
  | _ :: r, i + 1 => Nat.succ_le_succ (len_erase r i)
theorem foldl_rep (its : List Value) : ∀ (k : Nat) (acc : List Value),
    List.foldl (fun x1 x2 => x1 ++ x2) acc.toArray (List.replicate k its.toArray) = (acc ++ (List.replicate k its).flatten).toArray
  | 0, acc => by simp
  | k + 1, acc => by
    have e : acc.toArray ++ its.toArray = (acc ++ its).toArray := by simp
    have e2 : (acc ++ its) ++ (List.replicate k its).flatten = acc ++ (List.replicate (k + 1) its).flatten := by
      rw [List.replicate_succ, List.flatten_cons, List.append_assoc]
    rw [← e2, ← foldl_rep its k (acc ++ its), ← e, List.replicate_succ, List.foldl_cons]

section
variable {X : Cx} {pins : List (Addr × Obj)} {σ : St} {H : Hp} {s : Shared} {l b : Addr} {xs ys zs : List V}

/-! ### the two steps: a tracked list is rewritten, a new list is laid -/
theorem Inv.lset {its its' : List Value} {n : Nat} {f : Array Value → Array Value} {t' : Nat} (I : Inv X pins σ H s) (hH : H l = some (.lst xs))
    (e : s.heap.get? l = some { cls := .type "list", data := .seq its.toArray n }) (hf : f its.toArray = its'.toArray) (hv : Vals ys its') (hz : ys.length ≤ sizeLine) :
    Inv X pins σ (upd H l (.lst ys)) { s with heap := s.heap.update l (Obj.mapSeq f), toks := t' } := by
  have q := PySem.IsL.update e f
  rw [hf] at q
  refine I.write (x := l) (e := l) (by rw [hH]; exact trivial) (.inl rfl) (fun b' u hb hu => (Heap.get?_update_other s.heap (Obj.mapSeq f) (Ne.symm hb)).trans hu) ⟨_, q⟩ ?_
  exact ⟨hz, its', _, hv, q⟩
theorem Inv.lnew {its : List Value} {t' : Nat} (I : Inv X pins σ H s) (hv : Vals ys its) (hz : ys.length ≤ sizeLine) :
    Inv X pins σ (upd H s.heap.objs.size (.lst ys)) { s with heap := s.heap.push { cls := .type "list", data := .seq its.toArray }, toks := t' } :=
  I.laid (fun _ _ q => Heap.get?_push_of_some _ q) (Nat.le_refl _) ⟨hz, its, 0, hv, Heap.get?_push_size _ rfl⟩
theorem Inv.fresh (I : Inv X pins σ H s) : H s.heap.objs.size = none := I.hok.fresh (Nat.le_refl _)
theorem Inv.lstM (I : Inv X pins σ H s) (hH : H l = some (.lst xs)) : xs.length ≤ sizeLine ∧ ∃ (its : List Value) (n : Nat), Vals xs its ∧ xs.length = its.length ∧ s.heap.get? l = some { cls := .type "list", data := .seq its.toArray n } := by
  obtain ⟨z, its, n, r, e⟩ := I.hok l _ hH
  exact ⟨z, its, n, r, r.length, e⟩

theorem notLongL {n : Nat} (h : n ≤ sizeLine) : Builtin.List.listTooLong n = false := by
  unfold Builtin.List.listTooLong
  exact decide_eq_false (by omega)
end

section
variable {X : Cx}

/-! ### methods -/
def rAppend : V → List V → Hp → VK → Prop := fun x vs H Q => ∃ l xs y, x = .ref l ∧ vs = [y] ∧ H l = some (.lst xs) ∧ xs.length < sizeLine ∧ Q .non (upd H l (.lst (xs ++ [y])))
theorem mt_append : MtM X "list.append" rAppend := by
  intro pins s σ H x vs v us Q I rx rv h
  obtain ⟨l, xs, y, rfl, rfl, hH, hz, q⟩ := h
  cases rx
  obtain ⟨u, rfl, ru⟩ := rv.one
  obtain ⟨z, its, n, r, hl, e⟩ := I.lstM hH
  refine call_meets F.slot_list_append ⟨_, e, rfl⟩ F.entry_list_append (F.args_list_append_2 _ _) (PySem.list_append l its.toArray n u (by rw [List.size_toArray]; omega)) ⟨e, ?_⟩
  refine ⟨.non, _, I.lset (its' := its ++ [u]) hH e (by simp) (r.append (.cons ru .nil)) ?_, rfl, q⟩
  rw [List.length_append, List.length_singleton]
  omega

def rExtend : V → List V → Hp → VK → Prop := fun x vs H Q => ∃ l b xs zs, x = .ref l ∧ vs = [.ref b] ∧ H l = some (.lst xs) ∧ H b = some (.lst zs) ∧ xs.length + zs.length ≤ sizeLine ∧ Q .non (upd H l (.lst (xs ++ zs)))
theorem mt_extend : MtM X "list.extend" rExtend := by
  intro pins s σ H x vs v us Q I rx rv h
  obtain ⟨l, b, xs, zs, rfl, rfl, hH, hB, hz, q⟩ := h
  cases rx
  obtain ⟨u, rfl, ru⟩ := rv.one
  cases ru
  obtain ⟨z, its, n, r, hl, e⟩ := I.lstM hH
  obtain ⟨z2, its2, n2, r2, hl2, e2⟩ := I.lstM hB
  have hsz : its.toArray.size + its2.toArray.size ≤ sizeLine := by rw [List.size_toArray, List.size_toArray]; omega
  have hlong : ¬ (!its.toArray.isEmpty && Builtin.List.listTooLong (its.toArray.size + its2.toArray.size)) = true := by
    rw [notLongL hsz, Bool.and_false]
    exact Bool.false_ne_true
  refine call_meets F.slot_list_extend ⟨_, e, rfl⟩ F.entry_list_extend (F.args_list_extend_2 _ _)
    (AutoSeq1.list_extend_list_list_0 l its.toArray n b its2.toArray n2 hlong (by rw [List.size_toArray]; omega) (by omega)) ⟨e, e2, ?_⟩
  refine ⟨.non, _, I.lset (its' := its ++ its2) hH e (by simp) (r.append r2) ?_, rfl, q⟩
  rw [List.length_append]
  omega

def rPop : V → List V → Hp → VK → Prop := fun x vs H Q => ∃ l xs y, x = .ref l ∧ vs = [] ∧ H l = some (.lst xs) ∧ xs[xs.length - 1]? = some y ∧ Q y (upd H l (.lst xs.dropLast))
theorem mt_pop : MtM X "list.pop" rPop := by
  intro pins s σ H x vs v us Q I rx rv h
  obtain ⟨l, xs, y, rfl, rfl, hH, hy, q⟩ := h
  cases rx
  have hus := rv.zero
  subst hus
  obtain ⟨z, its, n, r, hl, e⟩ := I.lstM hH
  obtain ⟨u, hu, ru⟩ := r.get hy
  have hy' : its.toArray[its.toArray.size - 1]? = some u := by
    show its.toArray[its.length - 1]? = some u
    rw [← Array.getElem?_toList, ← hl]
    exact hu
  refine call_meets F.slot_list_pop ⟨_, e, rfl⟩ F.entry_list_pop (F.args_list_pop_1 _) (MeetsSeq.list_pop_last l its.toArray n u hy' (by rw [List.size_toArray]; omega)) ⟨e, ?_⟩
  refine ⟨y, _, I.lset (its' := its.dropLast) hH e ?_ r.dropLast ?_, ru, q⟩
  · show its.toArray.eraseIdxIfInBounds (its.toArray.size - 1) = its.dropLast.toArray
    rw [List.size_toArray, List.eraseIdxIfInBounds_toArray, erase_last]
  · rw [List.length_dropLast]
    omega

def rPopAt : V → List V → Hp → VK → Prop := fun x vs H Q => ∃ l xs i k y, x = .ref l ∧ vs = [.int i] ∧ H l = some (.lst xs) ∧ -(2 ^ 63) ≤ i ∧ i < 2 ^ 63 ∧ seqIndex? i xs.length = some k ∧ xs[k]? = some y ∧ Q y (upd H l (.lst (xs.eraseIdx k)))
theorem mt_popAt : MtM X "list.pop" rPopAt := by
  intro pins s σ H x vs v us Q I rx rv h
  obtain ⟨l, xs, i, k, y, rfl, rfl, hH, h1, h2, hk, hy, q⟩ := h
  cases rx
  obtain ⟨u, rfl, ru⟩ := rv.one
  obtain ⟨t, rfl⟩ := ru
  obtain ⟨z, its, n, r, hl, e⟩ := I.lstM hH
  obtain ⟨w, hw, rw'⟩ := r.get hy
  refine call_meets F.slot_list_pop ⟨_, e, rfl⟩ F.entry_list_pop (F.args_list_pop_2 _ _)
    (MeetsSeq.list_pop_at l its.toArray n i t k w (fitsIndex_both h1 h2) (by rw [List.size_toArray, ← hl]; exact hk) (by rw [← Array.getElem?_toList]; exact hw) (by rw [List.size_toArray]; omega)) ⟨e, ?_⟩
  refine ⟨y, _, I.lset (its' := its.eraseIdx k) hH e ?_ (r.eraseIdx k) ?_, rw', q⟩
  · show its.toArray.eraseIdxIfInBounds k = (its.eraseIdx k).toArray
    rw [List.eraseIdxIfInBounds_toArray]
  · have := len_erase xs k
    omega

def rReverse : V → List V → Hp → VK → Prop := fun x vs H Q => ∃ l xs, x = .ref l ∧ vs = [] ∧ H l = some (.lst xs) ∧ Q .non (upd H l (.lst xs.reverse))
theorem mt_reverse : MtM X "list.reverse" rReverse := by
  intro pins s σ H x vs v us Q I rx rv h
  obtain ⟨l, xs, rfl, rfl, hH, q⟩ := h
  cases rx
  have hus := rv.zero
  subst hus
  obtain ⟨z, its, n, r, hl, e⟩ := I.lstM hH
  refine call_meets F.slot_list_reverse ⟨_, e, rfl⟩ F.entry_list_reverse (F.args_list_reverse_1 _) (AutoSeq1.list_reverse_list_0 l its.toArray n (by rw [List.size_toArray]; omega)) ⟨e, ?_⟩
  refine ⟨.non, _, I.lset (its' := its.reverse) hH e (by simp) r.reverse ?_, rfl, q⟩
  rw [List.length_reverse]
  omega

def rClear : V → List V → Hp → VK → Prop := fun x vs H Q => ∃ l xs, x = .ref l ∧ vs = [] ∧ H l = some (.lst xs) ∧ Q .non (upd H l (.lst []))
theorem mt_clear : MtM X "list.clear" rClear := by
  intro pins s σ H x vs v us Q I rx rv h
  obtain ⟨l, xs, rfl, rfl, hH, q⟩ := h
  cases rx
  have hus := rv.zero
  subst hus
  obtain ⟨z, its, n, r, hl, e⟩ := I.lstM hH
  refine call_meets F.slot_list_clear ⟨_, e, rfl⟩ F.entry_list_clear (F.args_list_clear_1 _) (AutoSeq1.list_clear_list_0 l its.toArray n (by rw [List.size_toArray]; omega)) ⟨e, ?_⟩
  exact ⟨.non, _, I.lset (its' := []) (ys := []) hH e rfl .nil (Nat.zero_le _), rfl, q⟩

/-! ### list + list, list += list, list * int -/
def rCat : R2 := fun x y H Q => ∃ l b xs zs, x = .ref l ∧ y = .ref b ∧ H l = some (.lst xs) ∧ H b = some (.lst zs) ∧ xs.length + zs.length ≤ sizeLine ∧ ∀ p, H p = none → Q (.ref p) (upd H p (.lst (xs ++ zs)))
theorem op_cat : OpR X (binaryOp .Add) rCat := by
  intro pins s σ H x y v u Q I rx ry h
  obtain ⟨l, b, xs, zs, rfl, rfl, hH, hB, hz, q⟩ := h
  cases rx
  cases ry
  obtain ⟨z, its, n, r, hl, e⟩ := I.lstM hH
  obtain ⟨z2, its2, n2, r2, hl2, e2⟩ := I.lstM hB
  refine PySem.P.add_list e e2 ?_ (by rw [List.size_toArray, List.size_toArray]; omega)
  have ea : its.toArray ++ its2.toArray = (its ++ its2).toArray := by simp
  rw [ea]
  exact ⟨.ref _, _, I.lnew (t' := s.toks) (r.append r2) (by rw [List.length_append]; omega), rfl, q _ I.fresh⟩
/-- a list times an int (a negative one is nothing) -/
def rRep : R2 := fun x y H Q => ∃ l k xs, x = .ref l ∧ y = .int k ∧ H l = some (.lst xs) ∧ -(2 ^ 63) ≤ k ∧ k < 2 ^ 63 ∧ xs.length * k.toNat ≤ sizeLine ∧
  ∀ p, H p = none → Q (.ref p) (upd H p (.lst (List.replicate k.toNat xs).flatten))
theorem len_rep {α : Type} (xs : List α) (k : Nat) : (List.replicate k xs).flatten.length = k * xs.length := by
  induction k with
  | zero => simp
  | succ k ih => rw [List.replicate_succ, List.flatten_cons, List.length_append, ih, Nat.succ_mul, Nat.add_comm]
theorem op_rep : OpR X (binaryOp .Mult) rRep := by
  intro pins s σ H x y v u Q I rx ry h
  obtain ⟨l, k, xs, rfl, rfl, hH, h1, h2, hz, q⟩ := h
  cases rx
  obtain ⟨t, rfl⟩ := ry
  obtain ⟨z, its, n, r, hl, e⟩ := I.lstM hH
  have hlen : its.toArray.size * k.toNat ≤ sizeLine := by rw [List.size_toArray, ← hl]; exact hz
  have hcap : ¬ its.toArray.size * k.toNat > (2 ^ 63 - 1) / 8 := by
    have : (sizeLine : Nat) ≤ (2 ^ 63 - 1) / 8 := by decide
    omega
  have hfit : ¬ (!Builtin.List.listFitsIndex k) = true := by
    rw [fitsIndex_both h1 h2]
    exact Bool.false_ne_true
  have hlong : ¬ Builtin.List.listTooLong (its.toArray.size * k.toNat) = true := by
    rw [notLongL hlen]
    exact Bool.false_ne_true
  have hnew : List.foldl (fun x1 x2 => x1 ++ x2) #[] (List.replicate (if its.toArray.isEmpty = true then 0 else k.toNat) its.toArray) = (List.replicate k.toNat its).flatten.toArray := by
    have f0 : ∀ m : Nat, List.foldl (fun x1 x2 => x1 ++ x2) #[] (List.replicate m its.toArray) = (List.replicate m its).flatten.toArray := fun m => by
      have := foldl_rep its m []
      rw [List.nil_append] at this
      exact this
    rw [f0]
    cases its with
    | nil => simp
    | cons a r' => rw [if_neg (by simp)]
  refine wpAny_binaryOp_repeat_ref (T := "list") (U := "int") (by decide) ⟨_, e, rfl⟩ (fun s' => typeIs_int s' k t) noFill_list_mul F.fills_int_mul F.slot_int_rmul repeat_list F.slot_int_index.lookup
    (call_meets F.slot_int_rmul (typeIs_int s k t) F.entry_int_rmul (F.args_int_rmul_2 _ _) (int___rmul___int_list k t l its.toArray n)
      ⟨e, rfl, ⟨_, e, rfl⟩, call_meets F.slot_list_mul ⟨_, e, rfl⟩ F.entry_list_mul (F.args_list_mul_2 _ _) (AutoListH.list___mul___list_int_3 l its.toArray n k t hfit hcap hlong) ⟨e, ?_⟩⟩)
  rw [hnew]
  exact ⟨.ref _, _, I.lnew (t' := s.toks) (r.rep k.toNat) (by rw [len_rep, Nat.mul_comm]; exact hz), rfl, q _ I.fresh⟩

/-! ### del xs[i] -/
theorem del_list {pins : List (Addr × Obj)} {s : Shared} {σ : St} {H : Hp} {l : Addr} {xs : List V} {i : Int} {t : Tok} {k : Nat} {Q : Unit → Shared → Prop} (I : Inv X pins σ H s) (hH : H l = some (.lst xs))
    (h1 : -(2 ^ 63) ≤ i) (h2 : i < 2 ^ 63) (hk : seqIndex? i xs.length = some k) (h : ∀ s', Inv X pins σ (upd H l (.lst (xs.eraseIdx k))) s' → Q () s') :
    wpAny (model X.prog X.w) X.A (delItem (.ref l) (.int i t)) Q X.xe s := by
  obtain ⟨z, its, n, r, hl, e⟩ := I.lstM hH
  refine PySem.P.delItem_list (k := k) e (fitsIndex_both h1 h2) (by rw [List.size_toArray, ← hl]; exact hk) (h _ ?_) (by rw [List.size_toArray]; omega)
  refine I.lset (its' := its.eraseIdx k) (t' := s.toks) hH e ?_ (r.eraseIdx k) ?_
  · show its.toArray.eraseIdxIfInBounds k = (its.eraseIdx k).toArray
    rw [List.eraseIdxIfInBounds_toArray]
  · have := len_erase xs k
    omega
end

/-! ### xs[a:b] = ys -/
section
variable {prog : Program} {w : World} {A : Around} {E : Value → Shared → Prop} {s : Shared}
theorem splice_eq (its its2 : List Value) (a c : Nat) : its.toArray.extract 0 a ++ its2.toArray ++ its.toArray.extract c its.toArray.size = (its.take a ++ its2 ++ its.drop c).toArray := by
  apply Array.toList_inj.mp
  first
    | (simp
       exact List.take_of_length_le (by simp))
    | simp [List.take_of_length_le]
    | simp
theorem bounds_run {a c n : Nat} (hac : a ≤ c) (hc : c ≤ n) : sliceBounds (some (a : Int)) (some (c : Int)) none n = ((a : Int), (c : Int), 1) := by
  simp only [sliceBounds, Option.getD_none]
  have h1 : ¬ ((a : Int) < 0) := by omega
  have h2 : ¬ ((c : Int) < 0) := by omega
  simp only [h1, h2, if_false, show (1 : Int) > 0 by decide, if_true]
  congr 1
  · omega
  · congr 1; omega
set_option maxRecDepth 100000 in
/-- list.__setitem__ with a slice of step one and another list -/
theorem setItem_slice {l b sl : Addr} {items new : Array Value} {n n2 : Nat} {vl vu : Value} {a c : Nat} {Q : Unit → Shared → Prop}
    (e : s.heap.get? l = some { cls := .type "list", data := .seq items n }) (e2 : s.heap.get? b = some { cls := .type "list", data := .seq new n2 }) (hne : l ≠ b)
    (hs : s.heap.IsSliceOf sl vl vu .none) (pl : IsPart vl (some (a : Int))) (pu : IsPart vu (some (c : Int))) (hac : a ≤ c) (hc : c ≤ items.size)
    (hsz : items.size + new.size ≤ sizeLine) (h : Q () { s with heap := s.heap.update l (Obj.mapSeq fun xs => xs.extract 0 a ++ new ++ xs.extract c xs.size) }) :
    wpAny (model prog w) A (setItem (.ref l) (.ref sl) (.ref b)) Q E s := by
  have hl : s.heap.IsList l items := PySem.IsL.isList e
  have hb : s.heap.IsList b new := PySem.IsL.isList e2
  obtain ⟨os, hos, hcs, hds⟩ := id hs
  have hTs : s.TypeIs (.ref sl) "slice" := ⟨os, hos, hcs⟩
  have hstep : ¬ ((rawPart none == rawInt 0) = true) := Bool.false_ne_true
  have hsame : Builtin.List.listSameRef (.ref l) (.ref b) = false := by
    unfold Builtin.List.listSameRef
    exact beq_eq_false_iff_ne.mpr hne
  have hmax : (max (a : Int) (c : Int)).toNat = c := by omega
  have hz' : ((fun xs : Array Value => xs.extract 0 a ++ new ++ xs.extract c xs.size) items).size ≤ sizeLine + 1 := by
    simp only [Array.size_append, Array.size_extract]
    omega
  unfold setItem
  try with_reducible refine wpAny_holding ?_
  first | refine wpAny_bind (wpAny_pure ?_) | skip
  refine wpAny_bind (wpAny_sequenceKey hl.typeIs (by decide) ?_)
  refine wpAny_bind (wpAny_callSpecial?_slot (name := Str.ofString "__setitem__") hl.typeIs slot_list_setitem
    (wpAny_call_entry slot_list_setitem hl.typeIs entry_list_setitem ?_ (args_list_setitem _ _ _)))
  show wpAny _ _ (Builtin.List.listSubscript? (.ref sl) >>= _) _ _ s
  refine wpAny_bind ?_
  unfold Builtin.List.listSubscript?
  refine wpAny_bind (wpAny_specialOf hTs slice_no_index ?_)
  simp only [Option.isNone_none, if_true]
  refine wpAny_pure ?_
  show wpAny _ _ (typeOf (.ref sl) >>= _) _ _ s
  refine wpAny_bind (wpAny_typeOf hTs ?_)
  first
    | rw [if_neg (by decide)]
    | refine PySem.W.KFB.if_not (by decide) ?_
  rw [listSliceParts_eq]
  refine wpAny_bind (wpAny_bind (wpAny_field hos hds (x := .none) rfl (wpAny_bind (wpAny_listPart .none ?_))))
  rw [if_neg hstep]
  refine wpAny_bind (wpAny_field hos hds (x := vl) rfl (wpAny_bind (wpAny_listPart pl ?_)))
  refine wpAny_bind (wpAny_field hos hds (x := vu) rfl (wpAny_bind (wpAny_listPart pu (wpAny_pure ?_))))
  first
    | simp only [hsame, Bool.false_eq_true, if_false]
    | refine PySem.W.KFB.if_not hsame ?_
    | (dsimp only
       rw [if_neg (by rw [hsame]; exact Bool.false_ne_true)])
  refine wpAny_bind (m := Builtin.List.listAllItems (.ref b) "must assign iterable to extended slice") ?_
  unfold Builtin.List.listAllItems
  refine wpAny_bind (wpAny_typeOf hb.typeIs ?_)
  first
    | refine PySem.W.KFB.if_so (by decide) ?_
    | rw [if_pos (by decide)]
    | simp only [beq_self_eq_true, Bool.true_or, if_true]
  unfold Builtin.List.listItems
  refine wpAny_bind (wpAny_seqItems e2 rfl (wpAny_pure ?_))
  refine wpAny_bind (wpAny_bind (wpAny_seqItems e rfl (wpAny_pure ?_)))
  refine wpAny_bind (wpAny_of_eq ((sliceIndices_raw (some (a : Int)) (some (c : Int)) none items.size (by simp)).trans (congrArg (pure : Int × Int × Int → Sem (Int × Int × Int)) (bounds_run hac hc))) ?_)
  show wpAny _ _ (if ((1 : Int) == 1) = true then _ else _) _ _ s
  rw [if_pos (by decide)]
  refine wpAny_bind (wpAny_rule ?_)
  first
    | simp only [notLongL hsz, Bool.false_eq_true, if_false]
    | refine PySem.W.KFB.if_not (notLongL hsz) ?_
  first | refine wpAny_bind (wpAny_pure ?_) | skip
  show wpAny _ _ (updateSeq l (fun xs => xs.extract 0 ((a : Int)).toNat ++ new ++ xs.extract (max (a : Int) (c : Int)).toNat xs.size) >>= _) _ _ s
  rw [hmax, Int.toNat_natCast]
  refine wpAny_bind (wpAny_updateSeq (hz := Nat.le_trans (Nat.le_add_right _ _) hsz) (_hz' := hz') e rfl ?_)
  refine wpAny_bind (wpAny_letGo ?_)
  first
    | exact wpAny_bind (wpAny_pure (wpAny_pure ⟨.none, rfl, wpAny_pure h⟩))
    | exact wpAny_pure ⟨.none, rfl, wpAny_pure h⟩
end

section
variable {X : Cx}
/-- xs[a:c] = ys of another list, at the value level: sl is the slice object that was just made -/
theorem set_slice {pins : List (Addr × Obj)} {s : Shared} {σ : St} {H : Hp} {l b sl : Addr} {xs ys : List V} {a c : Int} {vl vu : Value} {Q : Unit → Shared → Prop} (I : Inv X pins σ H s)
    (hH : H l = some (.lst xs)) (hB : H b = some (.lst ys)) (hne : l ≠ b) (hs : s.heap.IsSliceOf sl vl vu .none) (ra : RelV (.int a) vl) (rc : RelV (.int c) vu) (h0 : 0 ≤ a) (hac : a ≤ c) (hc : c ≤ xs.length)
    (hz : xs.length + ys.length ≤ sizeLine) (h : ∀ s', Inv X pins σ (upd H l (.lst (xs.take a.toNat ++ ys ++ xs.drop c.toNat))) s' → Q () s') :
    wpAny (model X.prog X.w) X.A (setItem (.ref l) (.ref sl) (.ref b)) Q X.xe s := by
  obtain ⟨ta, rfl⟩ := ra
  obtain ⟨tc, rfl⟩ := rc
  obtain ⟨z, its, n, r, hl, e⟩ := I.lstM hH
  obtain ⟨z2, its2, n2, r2, hl2, e2⟩ := I.lstM hB
  obtain ⟨a', rfl⟩ := Int.eq_ofNat_of_zero_le h0
  obtain ⟨c', rfl⟩ := Int.eq_ofNat_of_zero_le (Int.le_trans h0 hac)
  simp only [Int.toNat_natCast] at h
  refine setItem_slice (a := a') (c := c') e e2 hne hs (.int _ _) (.int _ _) (by omega) (by rw [List.size_toArray]; omega) (by rw [List.size_toArray, List.size_toArray]; omega) (h _ ?_)
  refine I.lset (its' := its.take a' ++ its2 ++ its.drop c') (t' := s.toks) hH e ?_ (Vals.append (Vals.append (r.take _) r2) (r.drop _)) ?_
  · exact splice_eq its its2 a' c'
  · rw [List.length_append, List.length_append, List.length_take, List.length_drop]
    omega
end
end L2

namespace Att
open PySem PySem.W PySem.Calls PyProof.Rows

/-! ### the script -/
theorem ints_of_wellAll {P : Params} {h : Heap} : ∀ (ns : List Int) (vs : List Value), WellAll P h vs (ns.map WData.int) → IntsAre vs ns := by
  intro ns
  induction ns with
  | nil =>
    intro vs w
    rw [List.map_nil] at w
    cases w
    exact .nil
  | cons n ns ih =>
    intro vs w
    rw [List.map_cons] at w
    cases w with
    | cons a b =>
      cases a
      exact .cons _ _ (ih _ b)

theorem script_of {l : OpenLaw} {n : Nat} (hn : l.most = some n) {P : Params} {h : Heap} {args : List WData} {vals : List Value}
    (hpre : l.row.toRowW.claim.pre args = true) (hwl : WellAll P h vals args) :
    ∃ a vs ns, vals = [Value.ref a] ∧ args = [WData.list (ns.map WData.int)] ∧ h.get? a = some { cls := .type "list", data := .seq vs.toArray } ∧ IntsAre vs ns ∧ ns.length ≤ n := by
  have hsh : WShape.hasAll [] args [.list .int] = true := (pre_splitW hpre).1
  have hc : l.pre.holds [] { args := args } = true := (pre_splitW hpre).2
  obtain ⟨d, r, rfl, h1, h2⟩ := hasAllW_cons hsh
  obtain rfl := hasAllW_nil h2
  obtain ⟨xs, rfl, h3⟩ := hasW_list h1
  obtain ⟨ns, rfl⟩ := items_int h3
  have hlen : ns.length ≤ n := by
    unfold OpenLaw.pre at hc
    have h4 : (WTm.not (.lt (.lit (.int (n : Int))) (.len (.arg 0)))).holds [] { args := [.list (ns.map .int)] } = true := by
      have h4 := (holds_andW hc).1
      rw [hn] at h4
      exact h4
    have h5 := condW_of h4 (w_not (w_lt w_lit (w_len_list (w_arg rfl))))
    rw [List.length_map] at h5
    refine Nat.le_of_not_lt fun q => ?_
    have q' : (n : Int) < ((ns.length : Nat) : Int) := by omega
    first
      | (rw [decide_eq_true q'] at h5; exact absurd h5 (by decide))
      | (simp at h5; omega)
  cases hwl with
  | cons w1 w2 =>
    cases w2
    cases w1 with
    | list ho hall => exact ⟨_, _, ns, rfl, rfl, ho, ints_of_wellAll ns _ hall, hlen⟩

theorem post_true (l : OpenLaw) (args : List WData) : l.row.toRowW.claim.post args (.bool true) args = true :=
  postW_of (r := l.row.toRowW) (X := (true == true))
    (show WShape.has [] (.bool true) .bool = true by first | rfl | decide | simp [WShape.has, WShape.arms, WShape.armsAll])
    (show (WTm.eq .res (.lit (.bool true))).value [] { args := args, res := some (.bool true), after := args } = some (.bool (true == true)) from w_eq_bool (w_res rfl) w_lit) rfl

/-! ### the attachment: holds_open's last premise (the goal 'hc' behind k_head) from a wpAny of the law's body -/
theorem attach {l : OpenLaw} {n : Nat} {q : Program} {loose : List Str} {XP : (Str → Option Value) → Heap → Prop} {YP : World → Heap → Prop} {d : DefRec} {x : Str}
    (hn : l.most = some n) (hdf : d.params.defaults = [])
    (hbind : ∀ pm cd doc v : Value, bindArgs (docDef d.name d.params d.body d.scope pm cd doc) ⟨[v], []⟩ = pure [(x, v)])
    (hx : d.scope.names.lookup x = some .local ∨ d.scope.names.lookup x = some .cell)
    (hk : d.scope.kind = .function) (hco : d.scope.isCoroutine = false) (hgen : d.scope.isGenerator = false)
    (body : ∀ (w : World) (s₀ s₁ s : Shared) (mg mb : Str → Option Value) (fa : Addr) (o : Obj) (pm cd doc : Value) (a : Addr) (vs : List Value) (ns : List Int),
      Ground q loose [] XP w s₀ mg mb s₁.heap → YP w s₁.heap →
      s₁.heap.get? fa = some o → o.data = .func (docDef d.name d.params d.body d.scope pm cd doc) → s₁.heap.CodeRec cd d.name → mg d.name = some (.ref fa) →
      s₁.heap.get? a = some { cls := .type "list", data := .seq vs.toArray } → IntsAre vs ns → ns.length ≤ n →
      s.gens = #[] → s.os = s₁.os →
      Fr s₁.heap s₁.heap.objs.size s.heap (bindL (envOfC d.name d.scope s₁.heap.objs.size fa cd).kindOf [(x, .ref a)] fun _ => none) →
      Cl s₁.heap.objs.size (cellsFrom (s₁.heap.objs.size + 1) d.scope.names []) s.heap (bindC (envOfC d.name d.scope s₁.heap.objs.size fa cd).kindOf [(x, .ref a)] fun _ => none) →
      wpAny (model l.prog w) (callerA.deeper (envOfC d.name d.scope s₁.heap.objs.size fa cd)) (execs d.body (envOfC d.name d.scope s₁.heap.objs.size fa cd))
        (fun f s' => f = .ret (.bool true) ∧ OldK s₁.heap s'.heap ∧ s'.os = s₁.os ∧ AllBare s'.gens) (fun _ _ => False) s) :
    WalkO q loose XP YP l.row.toRowW d [] (fun f vs => PySem.call f vs) := by
  intro w s₀ s₁ mg mb G Y fa o pm cd doc dV kV ho hd hcd hD hmg hg args vals as hpre hlay hrd hwl hlo
  obtain rfl : dV = .none := Dflts.none hD hdf
  obtain rfl : kV = .none := Dflts.noKw hD
  obtain ⟨a, vs, ns, rfl, rfl, hobj, hints, hlen⟩ := script_of hn hpre hwl
  refine enter_call ?_
  refine call_cells_ret (o := o) (by rw [depth_caller]; decide) ho (fd_plain hd) G.T.nolimit hcd (hbind pm cd doc (.ref a)) (fun y hy => ?_) (fun h₁ tk F X => ?_) hco hgen hk
  · obtain rfl : y = (x, Value.ref a) := List.mem_singleton.mp hy
    rcases hx with e | e
    · exact .inl e
    · exact .inr ⟨e, cellsFrom_some _ _ _ (.inl e)⟩
  · refine wpAny_mono (body w s₀ s₁ { s₁ with heap := h₁, toks := tk } mg mb fa o pm cd doc a vs ns G Y ho (fd_plain hd) hcd hmg hobj hints hlen hg rfl F X) (fun f s' hq => ?_) (fun _ _ hq => hq)
    obtain ⟨rfl, h2, h3, h4⟩ := hq
    exact ⟨.inl ⟨.bool true, .bool true, [], rfl, fun _ => rfl, .bool true, post_true l _, fun _ => ⟨List.Pairwise.nil, fun _ hm => (nomatch hm)⟩⟩, h2, h3, h4⟩

/-- the same from a codeAny of the CALL (for a layer whose function contracts speak of calls) -/
theorem attach_call {l : OpenLaw} {n : Nat} {q : Program} {loose : List Str} {XP : (Str → Option Value) → Heap → Prop} {YP : World → Heap → Prop} {d : DefRec}
    (hn : l.most = some n) (hdf : d.params.defaults = [])
    (call : ∀ (w : World) (s₀ s₁ : Shared) (mg mb : Str → Option Value) (fa : Addr) (o : Obj) (pm cd doc : Value) (a : Addr) (vs : List Value) (ns : List Int),
      Ground q loose [] XP w s₀ mg mb s₁.heap → YP w s₁.heap →
      s₁.heap.get? fa = some o → o.data = .func (docDef d.name d.params d.body d.scope pm cd doc) → s₁.heap.CodeRec cd d.name → mg d.name = some (.ref fa) →
      s₁.heap.get? a = some { cls := .type "list", data := .seq vs.toArray } → IntsAre vs ns → ns.length ≤ n → s₁.gens = #[] →
      codeAny (model l.prog w) callerA (.call (.ref fa) ⟨[.ref a], []⟩) (fun r s' => r = .ok (.ret (.bool true)) ∧ OldK s₁.heap s'.heap ∧ s'.os = s₁.os ∧ AllBare s'.gens) s₁) :
    WalkO q loose XP YP l.row.toRowW d [] (fun f vs => PySem.call f vs) := by
  intro w s₀ s₁ mg mb G Y fa o pm cd doc dV kV ho hd hcd hD hmg hg args vals as hpre hlay hrd hwl hlo
  obtain rfl : dV = .none := Dflts.none hD hdf
  obtain rfl : kV = .none := Dflts.noKw hD
  obtain ⟨a, vs, ns, rfl, rfl, hobj, hints, hlen⟩ := script_of hn hpre hwl
  refine enter_call (codeAny_mono (call w s₀ s₁ mg mb fa o pm cd doc a vs ns G Y ho (fd_plain hd) hcd hmg hobj hints hlen hg) fun r s' hq => ?_)
  obtain ⟨rfl, h2, h3, h4⟩ := hq
  exact ⟨.inl ⟨.bool true, .bool true, [], rfl, fun _ => rfl, .bool true, post_true l _, fun _ => ⟨List.Pairwise.nil, fun _ hm => (nomatch hm)⟩⟩, h2, h3, h4⟩

/-- the same where the top left finished generators (o_head chose holds_openN): nothing may have changed at all and no generator may be left -/
theorem attachN {l : OpenLaw} {n : Nat} {q : Program} {loose : List Str} {XP : (Str → Option Value) → Heap → Prop} {YP : World → Heap → Prop} {d : DefRec} {x : Str}
    (hn : l.most = some n) (hdf : d.params.defaults = [])
    (hbind : ∀ pm cd doc v : Value, bindArgs (docDef d.name d.params d.body d.scope pm cd doc) ⟨[v], []⟩ = pure [(x, v)])
    (hx : d.scope.names.lookup x = some .local ∨ d.scope.names.lookup x = some .cell)
    (hk : d.scope.kind = .function) (hco : d.scope.isCoroutine = false) (hgen : d.scope.isGenerator = false)
    (body : ∀ (w : World) (s₀ s₁ s : Shared) (mg mb : Str → Option Value) (fa : Addr) (o : Obj) (pm cd doc : Value) (a : Addr) (vs : List Value) (ns : List Int),
      Ground q loose [] XP w s₀ mg mb s₁.heap → YP w s₁.heap →
      s₁.heap.get? fa = some o → o.data = .func (docDef d.name d.params d.body d.scope pm cd doc) → s₁.heap.CodeRec cd d.name → mg d.name = some (.ref fa) →
      s₁.heap.get? a = some { cls := .type "list", data := .seq vs.toArray } → IntsAre vs ns → ns.length ≤ n →
      s.gens = #[] → s.os = s₁.os →
      Fr s₁.heap s₁.heap.objs.size s.heap (bindL (envOfC d.name d.scope s₁.heap.objs.size fa cd).kindOf [(x, .ref a)] fun _ => none) →
      Cl s₁.heap.objs.size (cellsFrom (s₁.heap.objs.size + 1) d.scope.names []) s.heap (bindC (envOfC d.name d.scope s₁.heap.objs.size fa cd).kindOf [(x, .ref a)] fun _ => none) →
      wpAny (model l.prog w) (callerA.deeper (envOfC d.name d.scope s₁.heap.objs.size fa cd)) (execs d.body (envOfC d.name d.scope s₁.heap.objs.size fa cd))
        (fun f s' => f = .ret (.bool true) ∧ (∀ b o, s₁.heap.get? b = some o → s'.heap.get? b = some o) ∧ s'.os = s₁.os ∧ s'.gens = #[]) (fun _ _ => False) s) :
    WalkN q loose XP YP l.row.toRowW d [] (fun f vs => PySem.call f vs) := by
  intro w s₀ s₁ mg mb G Y fa o pm cd doc dV kV ho hd hcd hD hmg hg args vals as hpre hlay hrd hwl hlo
  obtain rfl : dV = .none := Dflts.none hD hdf
  obtain rfl : kV = .none := Dflts.noKw hD
  obtain ⟨a, vs, ns, rfl, rfl, hobj, hints, hlen⟩ := script_of hn hpre hwl
  refine enter_callW ?_
  refine call_cells_ret (o := o) (by rw [depth_caller]; decide) ho (fd_plain hd) G.T.nolimit hcd (hbind pm cd doc (.ref a)) (fun y hy => ?_) (fun h₁ tk F X => ?_) hco hgen hk
  · obtain rfl : y = (x, Value.ref a) := List.mem_singleton.mp hy
    rcases hx with e | e
    · exact .inl e
    · exact .inr ⟨e, cellsFrom_some _ _ _ (.inl e)⟩
  · refine wpAny_mono (body w s₀ s₁ { s₁ with heap := h₁, toks := tk } mg mb fa o pm cd doc a vs ns G Y ho (fd_plain hd) hcd hmg hobj hints hlen hg rfl F X) (fun f s' hq => ?_) (fun _ _ hq => hq)
    obtain ⟨rfl, h2, h3, h4⟩ := hq
    exact ⟨.inl ⟨.bool true, .bool true, [], rfl, fun _ => rfl, .bool true, post_true l _, fun _ => ⟨List.Pairwise.nil, fun _ hm => (nomatch hm)⟩⟩, h2, h3, h4⟩

/-! ### rules over ANY heap (no ledger) from facts about the written part K: the library's own take a ledger (News) for what they write -/
section
variable {prog : Program} {w : World} {A : Around} {E : Value → Shared → Prop} {s : Shared} {K : Frag}

/-- a def of the module, or a method (qual 'C.m'), entered: the frame is the next address; cells behind it -/
theorem call_fn {R : Result → Shared → Prop} {name qual : Str} {params : Arguments} {body : List Stmt} {scope : Scope} {dV kV doc pm cdv ct oc : Value} {an od : Option Addr} {osl : Array (Option Value)} {f : Addr} {args : Args} {binds : List (Str × Value)}
    (X : K.In s.heap) (hlim : s.heap.NoLimit) (ho : K.lookup f = some ⟨oc, od, .func (fnOf name qual params body scope dV kV doc pm an cdv ct), osl⟩) (hcd : codeIn K cdv qual = true) (hroom : A.depth < recursionLimit)
    (hbind : BindsTo s (fnOf name qual params body scope dV kV doc pm an cdv ct) args binds)
    (hkind : (binds.all fun y => scope.names.lookup y.1 == some .local || scope.names.lookup y.1 == some .cell) = true)
    (h : ∀ s₁, InCallC s s.heap.objs.size (bindL (envOfC qual scope s.heap.objs.size f cdv).kindOf binds fun _ => none) (cellsFrom (s.heap.objs.size + 1) scope.names [])
        (bindC (envOfC qual scope s.heap.objs.size f cdv).kindOf binds fun _ => none) s₁ →
      wpAny (model prog w) (A.deeper (envOfC qual scope s.heap.objs.size f cdv)) (execs body (envOfC qual scope s.heap.objs.size f cdv))
        (fun fl s' => R (.ok (.ret (match fl with | .ret v => v | _ => .none))) s')
        (fun e s' => wpAny (model prog w) (A.deeper (envOfC qual scope s.heap.objs.size f cdv)) (leaving (envOfC qual scope s.heap.objs.size f cdv) e) (fun _ s'' => R (.error e) s'') (fun e' s'' => R (.error e') s'') s') s₁)
    (hco : scope.isCoroutine = false) (hgen : scope.isGenerator = false) (hk : scope.kind = .function) : codeAny (model prog w) A (.call (.ref f) args) R s := by
  refine codeAny_call_function hroom (X _ _ ho) rfl hco hgen rfl (codeRec_of X hcd) (hbind _ _ _ _ ?_)
  refine wpAny_newFunctionEnv_cells hk (kindsX hkind _) fun env he s₁ x => ?_
  subst he
  exact ⟨hlim.keeps x.toInCall.keep, codeAny_func (h s₁ x)⟩

/-- C(..): dict at size, instance at size + 1, then __init__ -/
theorem make_obj {R : Result → Shared → Prop} {C fI : Addr} {rest : List Value} {kw : List (Str × Value)}
    (X : K.In s.heap) (hm : makesIn K C = true) (hi : findIn K (.ref C) "__init__" = some (some (.ref fI))) (hf : isFn K (.ref fI) = true)
    (h : codeAny (model prog w) (A.under (.builtin "type.__call__" ⟨.ref C :: rest, kw⟩)) (.call (.ref fI) ⟨.ref (s.heap.objs.size + 1) :: rest, kw⟩) (InitBack (s.heap.objs.size + 1) R)
      { s with heap := (s.heap.push emptyDict).push (instObj C s.heap.objs.size) }) : codeAny (model prog w) A (.call (.ref C) ⟨rest, kw⟩) R s := by
  obtain ⟨hh, g, d, t, os⟩ := s
  exact make_core (makes_of X hm) (looks_findIn X hi) (fun self => bind_fn X self (beq_iff_eq.mp hf)) (.inl rfl) h

/-- x.name where the instance's dict holds the name and the class does not -/
theorem get_field {x C : Addr} {ox : Obj} {es : List DictEntry} {n : Nat} {name : Str} {expr : Bool} {v : Value} {Q : Value → Shared → Prop}
    (X : K.In s.heap) (I : PySem.W.InstAt s.heap x ox C (some (dictOf es n))) (hg : plainGet K C name = true) (hh : hasDictIn K C = true) (ha : findIn K (.ref C) name = some none)
    (hl : getL name es = some (some v)) (hv : handedIn v = true) (h : Q v { s with toks := s.toks + 1 }) : wpAny (model prog w) A (getAttr (.ref x) name expr) Q E s :=
  get_value X I (plainGet_of hg).1 (findObj_own hh ha rfl hl) hv h

/-- x.m(..): the method found in the class -/
theorem get_method {x C f : Addr} {ox : Obj} {es : List DictEntry} {n : Nat} {name : Str} {pl : Sem Bool} {Q : Value × List Value → Shared → Prop}
    (X : K.In s.heap) (I : PySem.W.InstAt s.heap x ox C (some (dictOf es n))) (hg : plainGet K C name = true) (hf : findIn K (.ref C) name = some (some (.ref f))) (ht : isFn K (.ref f) = true)
    (hl : getL name es = some none) (h : Q (.ref f, [.ref x]) s) : wpAny (model prog w) A (getMethod (.ref x) name pl) Q E s :=
  method_fn X I (plainGet_of hg).1 (plainGet_of hg).2 hf (beq_iff_eq.mp ht) (by show (lookIn name (dictOf es n)).map _ = _; rw [lookIn_dict, hl]; rfl) h

/-! the whole heap as the ledger: makes every rule that writes through a ledger a rule over any heap -/
def noObjs (h : Heap) : Heap := { h with objs := #[] }
theorem noObjs_get (h : Heap) (b : Addr) : (noObjs h).get? b = none := by
  cases e : (noObjs h).get? b with
  | none => rfl
  | some o => exact absurd (Heap.lt_size e) (Nat.not_lt_zero _)
def ledger (h : Heap) (L d : Addr) : List (Addr × Obj) := (List.range h.objs.size).filterMap fun a => if a = L ∨ a = d then none else (h.get? a).map fun o => (a, o)
theorem mem_ledger {h : Heap} {L d a : Addr} {o : Obj} : (a, o) ∈ ledger h L d ↔ a ≠ L ∧ a ≠ d ∧ h.get? a = some o := by
  unfold ledger
  rw [List.mem_filterMap]
  constructor
  · rintro ⟨b, _, e⟩
    split at e
    · cases e
    · rename_i hb
      obtain ⟨o', ho, e'⟩ := Option.map_eq_some_iff.mp e
      cases e'
      exact ⟨fun q => hb (.inl q), fun q => hb (.inr q), ho⟩
  · rintro ⟨n1, n2, ho⟩
    refine ⟨a, List.mem_range.mpr (Heap.lt_size ho), ?_⟩
    rw [if_neg (show ¬ (a = L ∨ a = d) from fun q => q.elim n1 n2), ho] <;> rfl
theorem news_ledger {h : Heap} {L d : Addr} {od : Obj} (hne : d ≠ L) (ho : h.get? d = some od) : News (noObjs h) L h ([] ++ (d, od) :: ledger h L d) := by
  rintro ⟨a, o⟩ hp
  rcases List.mem_cons.mp hp with e | hp
  · cases e
    exact ⟨ho, hne, noObjs_get _ _⟩
  · obtain ⟨n1, n2, e⟩ := mem_ledger.mp hp
    exact ⟨e, n1, noObjs_get _ _⟩
theorem fr_all {h : Heap} {L : Addr} {m : Str → Option Value} (n : h.Ns L m) : Fr (noObjs h) L h m :=
  ⟨n, fun b o e => (by rw [noObjs_get] at e; cases e), Nat.zero_le _⟩
/-- Upd of the head entry (for append_K, setItem_K ..) -/
theorem upd_ledger {h : Heap} {L d : Addr} {o o' : Obj} : Upd d o o' ((d, o) :: ledger h L d) ((d, o') :: ledger h L d) :=
  .head fun ⟨_, _⟩ hp => (mem_ledger.mp hp).2.1

/-- x.name = v over any heap: L is any namespace of the heap (the frame's, say): its map stays, its object is not told; all else but the dict stays -/
theorem set_field {x C dx L : Addr} {ox : Obj} {m : Str → Option Value} {es es' : List DictEntry} {n n' : Nat} {name : Str} {v : Value} {Q : Unit → Shared → Prop}
    (X : K.In s.heap) (I : PySem.W.InstAt s.heap x ox C (some (dictOf es n))) (hd : ox.dict = some dx) (hL : s.heap.Ns L m) (hne : dx ≠ L)
    (hs : findIn K (.ref C) "__setattr__" = some (some (.builtin "object.__setattr__"))) (hp : plainOver K C = true) (ht : takerIn K C name = some none) (hh : hasDictIn K C = true) (hl : (getL name es).isSome = true)
    (e : (putL name (PyData.keyHash w.params name) (.str name (s.toks + 1)) v es, putN name es n) = (es', n')) (hz : es'.length ≤ 1000)
    (h : ∀ h' : Heap, h'.Ns L m → h'.get? dx = some (dictOf es' n') → (∀ b o, b ≠ dx → b ≠ L → s.heap.get? b = some o → h'.get? b = some o) → Q () { s with heap := h', toks := s.toks + 2 }) :
    wpAny (model prog w) A (setAttr (.ref x) name v) Q E s := by
  obtain ⟨e1, e2⟩ := Prod.mk.inj e
  have hdx : s.heap.get? dx = some (dictOf es n) := by
    have := I.dict
    rw [hd] at this
    exact this
  refine set_plain X I hs (osa_dict (s := { s with toks := s.toks + 1 }) (h₀ := noObjs s.heap) (L := L) (m := m) (od := dictOf es n) (od' := dictOf es' n') (es := es') (n := n') (pre := []) (post := ledger s.heap L dx)
    (fr_all hL) (news_ledger hne hdx) X I hd hp ht hh hl (fun _ q => nomatch q) (fun ⟨_, _⟩ q => (mem_ledger.mp q).2.1) (by rw [putName_dict, e1, e2]) rfl hz fun h' F' N' => ?_)
  exact h h' F'.ns (N'.get (List.Mem.head _)) fun b o n1 n2 ho => N'.get (List.Mem.tail _ (mem_ledger.mpr ⟨n2, n1, ho⟩))
end
end Att

namespace L2
open PySem PySem.Spec PyProof.Rows

theorem vals_ints : ∀ {vs : List Value} {ns : List Int}, IntsAre vs ns → Vals (ns.map V.int) vs
  | _, _, .nil => .nil
  | _, _, .cons n t h => .cons ⟨t, rfl⟩ (vals_ints h)

/-- nothing is tracked but the script, known to the object (or it is an object of the module) -/
def Only (H : Hp) : Prop := ∀ b, H b = none ∨ ∃ o xs, H b = some (.frz o (.lst xs))

/-- THE HEAD: the law's promise, at the heap behind the top. F, the promise of the law's def, may use that base is part of the heap (so K.In base, base.Ns mainGlobals mg stand in Mod) -/
theorem law_call {P : Program} {w : World} {K : PySem.W.Frag} {mg mb : Str → Option Value} {CX : CXT} {k : Nat} {fa a : Addr} {fd : FuncData} {x : Str} {sp : Sp} {s₁ : Shared} {vs : List Value} {ns : List Int}
    (KX : K.In s₁.heap) (hns : s₁.heap.Ns mainGlobals mg) (hb : s₁.heap.Ns builtinsNs mb) (hbb : ∀ x : Str, x ≠ "__name__" → mb x = bootBuiltins x) (hlim : s₁.heap.NoLimit) (hg : s₁.gens = #[])
    (ha : s₁.heap.get? a = some { cls := .type "list", data := .seq vs.toArray }) (hi : IntsAre vs ns) (hl : ns.length ≤ sizeLine) (hr : Room k callerA)
    (F : ∀ base : Heap, K.In base → base.Ns mainGlobals mg → FnOk P w K mg base CX k fa fd [x] sp) (hbind : ∀ (s : Shared) (u : Value), BindsTo s fd ⟨[u], []⟩ [(x, u)])
    (hsp : ∀ H : Hp, Only H → SqL K H a (ns.map V.int) → sp [.ref a] H (fun v _ => v = .bl true) fun _ _ _ => False)
    (hCX : ∀ H e s', CX [] H s₁ (fun _ _ _ => False) e s' → False) :
    codeAny (model P w) callerA (.call (.ref fa) ⟨[.ref a], []⟩) (fun r s' => r = .ok (.ret (.bool true)) ∧ OldK s₁.heap s'.heap ∧ s'.os = s₁.os ∧ AllBare s'.gens) s₁ := by
  have rv := vals_ints hi
  have lenV := hi.length
  -- from an abstract heap in which nothing but the script may be tracked
  have core : ∀ H : Hp, Only H → SqL K H a (ns.map V.int) → HOk P w H s₁.heap → (∀ b, H b ≠ none → b = a) → (H a ≠ none → K.lookup a = none) →
      codeAny (model P w) callerA (.call (.ref fa) ⟨[.ref a], []⟩) (fun r s' => r = .ok (.ret (.bool true)) ∧ OldK s₁.heap s'.heap ∧ s'.os = s₁.os ∧ AllBare s'.gens) s₁ := by
    intro H hO hS hok hA hK
    have base_of : ∀ {b : Addr} {o : Obj}, s₁.heap.get? b = some o → H b = none → (hidT s₁.heap H).get? b = some o := fun e n => hidT_get e n
    have noA : ∀ {b : Addr} {o : Obj} {es : Array DictEntry} {ep : Nat}, s₁.heap.get? b = some o → o.data = .dict es ep → H b = none := fun {b o es ep} e d => by
      cases q : H b with
      | none => rfl
      | some u =>
        have e' : b = a := hA b (by rw [q]; simp)
        subst e'
        rw [ha] at e; cases e
        have d' : Data.seq vs.toArray _ = Data.dict es ep := d
        cases d'
    have nsK : ∀ {b : Addr} {m : Str → Option Value}, s₁.heap.Ns b m → (hidT s₁.heap H).Ns b m := fun {b m} ⟨o, es, ep, e, d, r⟩ => ⟨o, es, ep, base_of e (noA e d), d, r⟩
    have hKb : K.In (hidT s₁.heap H) := fun b o e => base_of (KX b o e) (by
      cases q : H b with
      | none => rfl
      | some u =>
        have e' : b = a := hA b (by rw [q]; simp)
        subst e'
        rw [hK (by rw [q]; simp)] at e; cases e)
    have hM : Mod K mg (hidT s₁.heap H) := ⟨hKb, nsK hns, ⟨mb, nsK hb, hbb⟩, let ⟨mc, h1, h2⟩ := hlim; ⟨mc, nsK h1, h2⟩⟩
    have e0 : Env0 P w K mg (hidT s₁.heap H) callerA [] s₁ H := ⟨rfl, hM, fun b o e => of_hidT e, Nat.le_of_eq (hidT_size _ _), trivial, fun b hb => absurd (show b ∈ ([] : List Addr) from hb) (by simp), hok, .of_eq hg⟩
    refine codeAny_mono ((F _ hKb (nsK hns)).run callerA [] s₁ H ⟨[.ref a], []⟩ [.ref a] [.ref a] _ _ hr e0 (hbind s₁ (.ref a)) (.cons rfl .nil) (hsp H hO hS)) fun r s' h => ?_
    cases r with
    | error e => exact (hCX H e s' h).elim
    | ok fl =>
      cases fl with
      | next => exact False.elim h
      | brk => exact False.elim h
      | cont => exact False.elim h
      | ret u =>
        obtain ⟨v, H', os, bare, un, hok', r', q⟩ := h
        have q' : v = .bl true := q
        subst q'
        obtain rfl : u = Value.bool true := r'
        refine ⟨rfl, OldK.of_keep fun b o e => ?_, os, bare⟩
        cases q : H b with
        | none => exact un.keep b o e q (by intro z; exact absurd (show b ∈ ([] : List Addr) from z) (by simp)) (by simp)
        | some u =>
          rcases hO b with z | ⟨ob, xs, z⟩
          · rw [q] at z; cases z
          · have z2 := un.frzs b ob _ z
            obtain ⟨e1, _⟩ := hok b _ z
            obtain ⟨e2, _⟩ := hok' b _ z2
            rw [e] at e1; cases e1
            exact e2
  cases hk : K.lookup a with
  | some o =>
    -- the script is one of the module's own objects
    have e := KX a o hk
    rw [ha] at e
    cases e
    refine core (fun _ => none) (fun _ => .inl rfl) (.inr ⟨_, vs.toArray, _, hk, rfl, rfl, rfl, by rw [List.size_toArray, lenV]; exact hl, by simpa using rv⟩) (fun b u z => by have z' : (none : Option HO) = some u := z; cases z') (fun b z => absurd rfl z) fun z => absurd rfl z
  | none =>
    refine core (fun b => if b = a then some (.frz { cls := .type "list", data := .seq vs.toArray } (.lst (ns.map V.int))) else none) (fun b => ?_) (.inl (.inr ⟨{ cls := .type "list", data := .seq vs.toArray }, if_pos rfl⟩)) (fun b u z => ?_) (fun b z => ?_) fun _ => hk
    · by_cases hb : b = a
      · exact .inr ⟨_, _, if_pos hb⟩
      · exact .inl (if_neg hb)
    · by_cases hb : b = a
      · have z' := (if_pos hb).symm.trans z
        cases z'
        subst hb
        exact ⟨ha, by rw [List.length_map]; exact hl, vs, _, rv, ha⟩
      · have z' := (if_neg hb).symm.trans z
        cases z'
    · by_cases hb : b = a
      · exact hb
      · exact absurd (if_neg hb) z
end L2

namespace L2
open PySem PySem.Spec PyProof.Rows

abbrev KOf {K : PySem.W.Frag} {h : Heap} (_ : K.In h) : PySem.W.Frag := K

/-- the goal that k_head leaves (case hc), from the law's promise. F gives the function object fd (K's own) once, then the promise over every base -/
theorem walk_of {l : PySem.W.OpenLaw} {n k : Nat} {q : Program} {loose : List Str} {XP : (Str → Option Value) → Heap → Prop} {YP : World → Heap → Prop} {d : DefRec} {K : Params → PySem.W.Frag} {CX : World → CXT} {sp : World → Sp} {x : Str}
    (hn : l.most = some n) (hn2 : n ≤ sizeLine) (hdf : d.params.defaults = []) (hr : Room k callerA)
    (hY : ∀ (w : World) (h : Heap), YP w h → (K w.params).In h)
    (F : ∀ (w : World) (mg : Str → Option Value) (fa : Addr) (h : Heap), (K w.params).In h → h.Ns mainGlobals mg → mg d.name = some (.ref fa) →
      ∃ fd : FuncData, (∀ (s : Shared) (u : Value), BindsTo s fd ⟨[u], []⟩ [(x, u)]) ∧
        ∀ base : Heap, (K w.params).In base → base.Ns mainGlobals mg → FnOk l.prog w (K w.params) mg base (CX w) k fa fd [x] (sp w))
    (hsp : ∀ (w : World) (H : Hp) (a : Addr) (ns : List Int), ns.length ≤ n → Only H → SqL (K w.params) H a (ns.map V.int) → sp w [.ref a] H (fun v _ => v = .bl true) fun _ _ _ => False)
    (hCX : ∀ (w : World) (H : Hp) (s : Shared) (e : Value) (s' : Shared), CX w [] H s (fun _ _ _ => False) e s' → False) :
    PySem.W.WalkO q loose XP YP l.row.toRowW d [] (fun f vs => PySem.call f vs) := by
  refine Att.attach_call hn hdf fun w s₀ s₁ mg mb fa o pm cd doc a vs ns G Y ho hd hcd hmg hobj hints hlen hg => ?_
  have KX := hY w _ Y
  obtain ⟨fd, hb, hF⟩ := F w mg fa _ KX G.T.g hmg
  exact law_call KX G.T.g G.T.b G.T.builtins G.T.nolimit hg hobj hints (Nat.le_trans hlen hn2) hr hF hb (fun H hO hS => hsp w H a ns hlen hO hS) fun H e s' => hCX w H s₁ e s'
/-- the same where the promise hangs on the written part alone: (sp := My.sp_law), no hole under a binder -/
theorem walk_ofK {l : PySem.W.OpenLaw} {n k : Nat} {q : Program} {loose : List Str} {XP : (Str → Option Value) → Heap → Prop} {YP : World → Heap → Prop} {d : DefRec} {K : Params → PySem.W.Frag} {CX : CXT} {sp : PySem.W.Frag → Sp} {x : Str}
    (hn : l.most = some n) (hn2 : n ≤ sizeLine) (hdf : d.params.defaults = []) (hr : Room k callerA)
    (hY : ∀ (w : World) (h : Heap), YP w h → (K w.params).In h)
    (F : ∀ (w : World) (mg : Str → Option Value) (fa : Addr) (h : Heap), (K w.params).In h → h.Ns mainGlobals mg → mg d.name = some (.ref fa) →
      ∃ fd : FuncData, (∀ (s : Shared) (u : Value), BindsTo s fd ⟨[u], []⟩ [(x, u)]) ∧
        ∀ base : Heap, (K w.params).In base → base.Ns mainGlobals mg → FnOk l.prog w (K w.params) mg base CX k fa fd [x] (sp (K w.params)))
    (hsp : ∀ (K : PySem.W.Frag) (H : Hp) (a : Addr) (ns : List Int), ns.length ≤ n → Only H → SqL K H a (ns.map V.int) → sp K [.ref a] H (fun v _ => v = .bl true) fun _ _ _ => False)
    (hCX : ∀ (H : Hp) (s : Shared) (e : Value) (s' : Shared), CX [] H s (fun _ _ _ => False) e s' → False) :
    PySem.W.WalkO q loose XP YP l.row.toRowW d [] (fun f vs => PySem.call f vs) :=
  walk_of (K := K) (CX := fun _ => CX) (sp := fun w => sp (K w.params)) hn hn2 hdf hr hY F (fun w H a ns h1 h2 h3 => hsp (K w.params) H a ns h1 h2 h3) fun _ H s e s' => hCX H s e s'
end L2


/-! SHORT WORDS over the layer: a def of the text, its body, what a loop and a test want. -/
namespace L2
open PySem PySem.Spec PyProof.Rows

/-! ### the text by places -/
/-- the j-th statement of a class's body -/
def inClass (s : Stmt) (j : Nat) : Stmt := match s with
  | .ClassDef _ _ _ body _ _ _ _ _ _ _ => body.getD j (.Pass ⟨0, 0, 0, 0⟩)
  | _ => .Pass ⟨0, 0, 0, 0⟩
def defArgs (s : Stmt) : Arguments := match s with
  | .FunctionDef _ a _ _ _ _ _ _ _ _ => a
  | _ => { posonlyargs := [], args := [], vararg := none, kwonlyargs := [], kw_defaults := [], kwarg := none, defaults := [] }
def defBody (s : Stmt) : List Stmt := match s with
  | .FunctionDef _ _ b _ _ _ _ _ _ _ => b
  | _ => []
def defScope (s : Stmt) : Scope := match s with
  | .FunctionDef _ _ _ _ _ _ sc _ _ _ => sc
  | _ => { kind := .function, names := [], isGenerator := false, isCoroutine := false }

/-! ### no exception leaves a def -/
abbrev CX0 : CXT := fun _ _ _ _ _ _ => False
abbrev E0 : XK := fun _ _ _ => False
theorem pass0 {X : Cx} : Passes CX0 X E0 := fun _ _ _ _ _ _ _ h => h.elim

/-! ### a def (or method) of the text as it stands behind the top -/
structure Fun (K : PySem.W.Frag) (x qual : Str) (st : Stmt) (f : Addr) (fd : FuncData) : Prop where
  ex : ∃ (oc : Value) (od : Option Addr) (kV doc pm : Value) (an : Option Addr) (cdv ct : Value) (osl : Array (Option Value)),
    fd = PySem.W.fnOf x qual (defArgs st) (defBody st) (defScope st) .none kV doc pm an cdv ct ∧ K.lookup f = some ⟨oc, od, .func fd, osl⟩ ∧ PySem.W.codeIn K cdv qual = true
  kp : PySem.W.keepIn K (.ref f) = true
section
variable {P : Program} {w : World} {K : PySem.W.Frag} {mg : Str → Option Value} {base : Heap}
/-- THE RULE for a def: its body as a term of rules, and the reading of that term -/
theorem Fun.ok {x qual : Str} {st : Stmt} {f : Addr} {fd : FuncData} {N ps : List Str} {k : Nat} {sp : Sp} (F : Fun K x qual st f fd) (S : FnScope N ps (defScope st)) (len : ∀ vs H Q E, sp vs H Q E → vs.length = ps.length)
    (hbody : ∀ (cdv : Value) (A : Around) (outer : List Env) (s : Shared) (H : Hp) (vs : List V) (Q : VK) (E : XK), Room k (A.deeper (envOfC qual (defScope st) s.heap.objs.size f cdv)) → sp vs H Q E →
      ∃ t, PSs (cxOf CX0 P w K mg base N qual (defScope st) f cdv A outer s H E).nox (defBody st) t ∧ t { nx := fun _ H' => Q .non H', rt := Q } (start N vs) H) : FnOk P w K mg base CX0 (k + 1) f fd ps sp := by
  obtain ⟨oc, od, kV, doc, pm, an, cdv, ct, osl, rfl, lk, hcd⟩ := F.ex
  refine fn_of lk hcd S len fun A outer s H vs Q E hr hsp => ?_
  obtain ⟨t, h, q⟩ := hbody cdv A outer s H vs Q E hr hsp
  exact ⟨t, h.nox, q⟩
/-- how its arguments bind (no defaults): h is «fun _ _ _ _ _ _ us hl => match us, hl with | [_, _], _ => rfl», one _ a parameter -/
theorem Fun.binds {x qual : Str} {st : Stmt} {f : Addr} {fd : FuncData} {ps : List Str} (F : Fun K x qual st f fd)
    (h : ∀ (kV doc pm : Value) (an : Option Addr) (cdv ct : Value) (us : List Value), us.length = ps.length → bindArgs (PySem.W.fnOf x qual (defArgs st) (defBody st) (defScope st) .none kV doc pm an cdv ct) ⟨us, []⟩ = pure (ps.zip us)) : Binds K fd ps [] := by
  obtain ⟨oc, od, kV, doc, pm, an, cdv, ct, osl, rfl, lk, hcd⟩ := F.ex
  exact .all (h kV doc pm an cdv ct)
theorem fun_mk {x qual : Str} {st : Stmt} {f : Addr} {oc : Value} {od an : Option Addr} {osl : Array (Option Value)} {kV doc pm cdv ct : Value} (l : K.lookup f = some ⟨oc, od, .func (PySem.W.fnOf x qual (defArgs st) (defBody st) (defScope st) .none kV doc pm an cdv ct), osl⟩)
    (c : PySem.W.codeIn K cdv qual = true) (k : PySem.W.keepIn K (.ref f) = true) : Fun K x qual st f (PySem.W.fnOf x qual (defArgs st) (defBody st) (defScope st) .none kV doc pm an cdv ct) := ⟨⟨oc, od, kV, doc, pm, an, cdv, ct, osl, rfl, l, c⟩, k⟩
end
theorem hu_of {A : Around} {k : Nat} (hr : Room k A) : A.units + 1 < cLine := Nat.lt_of_le_of_lt (Nat.add_le_add_left (by decide : 1 ≤ 64) _) hr.units
theorem small1000 {n : Nat} (h : n ≤ 1000) : n < sizeLine := Nat.lt_of_le_of_lt h (by decide)

/-! ### expressions in short: the name that stands in the i-th slot -/
section
variable {X : Cx}
theorem pv (i : Nat) {x : Str} {pos : Pos} (hN : X.N[i]? = some x := by rfl) (hv : Vis X.env.scope x := by first | exact Or.inl rfl | exact Or.inr (Or.inl rfl) | exact Or.inr (Or.inr rfl)) (hd : (x == ("__debug__" : Str)) = false := by decide)
    (hcd : (x == ("__classdict__" : Str)) = false := by decide) : PE X (.Name x pos) (tVar i) := pe_var hN hv hd hcd
end

/-! ### tests -/
theorem iteF {A B : Prop} (h : B) : if false = true then A else B := by
  rw [if_neg Bool.false_ne_true]
  exact h
theorem iteT {A B : Prop} (h : A) : if true = true then A else B := by
  rw [if_pos rfl]
  exact h
theorem ite2 {c A B : Prop} [Decidable c] (h1 : c → A) (h2 : ¬ c → B) : if c then A else B := by
  by_cases h : c
  · rw [if_pos h]
    exact h1 h
  · rw [if_neg h]
    exact h2 h
theorem iteNS {c A B : Prop} [Decidable c] (hc : c) (h : B) : if (!decide c) = true then A else B := by
  rw [decide_eq_true hc]
  exact iteF h

/-! ### heaps -/
/-- all that was tracked is as it was -/
def Same (H H' : Hp) : Prop := ∀ b o, H b = some o → H' b = some o
theorem Same.refl (H : Hp) : Same H H := fun _ _ h => h
theorem Same.trans {H H1 H2 : Hp} (a : Same H H1) (b : Same H1 H2) : Same H H2 := fun c o h => b c o (a c o h)
theorem Same.free {H H' : Hp} (e : Same H H') {l : Addr} (h : H' l = Option.none) : H l = Option.none := by
  cases q : H l with
  | none => rfl
  | some o =>
    rw [e l o q] at h
    cases h
theorem Same.seq {K : PySem.W.Frag} {H H' : Hp} {a : Addr} {xs : List V} (e : Same H H') (h : SqL K H a xs) : SqL K H' a xs := by
  rcases h with (h | ⟨o, h⟩) | h
  · exact .inl (.inl (e _ _ h))
  · exact .inl (.inr ⟨o, e _ _ h⟩)
  · exact .inr h

end L2

namespace TM
open PySem
theorem noFill_tuple_mul : fillsNumberSlot (.type "tuple") "mul" = pure false :=
  fillsNumberSlot_seq (id := "tuple.__mul__") (r := some (.builtin "tuple.__rmul__")) PySem.F.slot_tuple_mul.lookup (by decide +kernel) PySem.F.slot_tuple_rmul.lookup (by decide +kernel)
theorem repeat_tuple : seqRepeat? (.type "tuple") = pure (some (.builtin "tuple.__mul__")) := by
  unfold seqRepeat?
  rw [seqSlot_of (T := "tuple") (name := "__mul__") (id := "tuple.__mul__") PySem.F.slot_tuple_mul.lookup (by decide +kernel), seqSlot_of (T := "tuple") (name := "__rmul__") (id := "tuple.__rmul__") PySem.F.slot_tuple_rmul.lookup (by decide +kernel)]
  rfl
theorem int_rmul_tuple (a : Int) (t : Tok) (l : Addr) (items : Array Value) (n : Nat) (dd : Option Addr) (sl : Array (Option Value)) :
    Meets (Builtin.«int.__rmul__» ⟨[.int a t, .ref l], []⟩) (fun _ R s => s.heap.get? l = some { cls := .type "tuple", dict := dd, data := .seq items n, slots := sl } ∧ R (.ok (.ret Value.notImplemented)) s) :=
  .of_wp fun prog w A R s h => by obtain ⟨hp, g, d, tk, os⟩ := s; obtain ⟨hl, h⟩ := h; wp_walk; exact ⟨_, rfl, h⟩
theorem tuple_mul_same (l : Addr) (items : Array Value) (n : Nat) (x : Int) (u : Tok) (dd : Option Addr) (sl : Array (Option Value)) (hc0 : ¬(decide (x < -2 ^ 63) || decide (x ≥ 2 ^ 63)) = true) (hc1 : (items.isEmpty || x == 1) = true) :
    Meets (Builtin.«tuple.__mul__» ⟨[.ref l, .int x u], []⟩) (fun _ R s => s.heap.get? l = some { cls := .type "tuple", dict := dd, data := .seq items n, slots := sl } ∧ R (.ok (.ret (Value.ref l))) s) :=
  .of_wp fun prog w A R s h => by
    obtain ⟨hp, g, d, tk, os⟩ := s; obtain ⟨hl, h⟩ := h
    have f1 := AutoSeq1.idx_int; have f2 := AutoSeq1.sub_tuple_tuple
    wp_walk using wpAny_loadPart' hl
    rw [if_neg hc0]
    wp_walk using wpAny_loadPart' hl
    exact ⟨_, rfl, h⟩
theorem tuple_mul_new (l : Addr) (items : Array Value) (n : Nat) (x : Int) (u : Tok) (dd : Option Addr) (sl : Array (Option Value)) (hc0 : ¬(decide (x < -2 ^ 63) || decide (x ≥ 2 ^ 63)) = true) (hc1 : ¬(items.isEmpty || x == 1) = true)
    (hc2 : ¬(decide (x ≤ 0) || items.isEmpty) = true) (hc3 : ¬(↑items.size * x > (2 ^ 63 - 1) / 8)) (hc4 : ¬Builtin.Tuple.tupleTooMany (↑items.size * x) = true) (hsz : (List.foldl (fun x1 x2 => x1 ++ x2) #[] (List.replicate x.toNat items)).size ≤ sizeLine) :
    Meets (Builtin.«tuple.__mul__» ⟨[.ref l, .int x u], []⟩) (fun _ R s => s.heap.get? l = some { cls := .type "tuple", dict := dd, data := .seq items n, slots := sl } ∧ R (.ok (.ret (Value.ref s.heap.objs.size))) { s with heap := s.heap.push { cls := Value.type "tuple", data := Data.seq (List.foldl (fun x1 x2 => x1 ++ x2) #[] (List.replicate x.toNat items)) }, toks := s.toks }) :=
  .of_wp fun prog w A R s h => by
    obtain ⟨hp, g, d, tk, os⟩ := s; obtain ⟨hl, h⟩ := h
    have f1 := AutoSeq1.idx_int; have f2 := AutoSeq1.sub_tuple_tuple
    wp_walk using wpAny_loadPart' hl
    rw [if_neg hc0]
    wp_walk using wpAny_loadPart' hl
    rw [if_neg hc3]
    wp_walk using wpAny_loadPart' hl
    exact ⟨_, rfl, h⟩
theorem tuple_mul_none (l : Addr) (items : Array Value) (n : Nat) (x : Int) (u : Tok) (dd : Option Addr) (sl : Array (Option Value)) (hc0 : ¬(decide (x < -2 ^ 63) || decide (x ≥ 2 ^ 63)) = true) (hc1 : ¬(items.isEmpty || x == 1) = true)
    (hc2 : (decide (x ≤ 0) || items.isEmpty) = true) :
    Meets (Builtin.«tuple.__mul__» ⟨[.ref l, .int x u], []⟩) (fun _ R s => s.heap.get? l = some { cls := .type "tuple", dict := dd, data := .seq items n, slots := sl } ∧ R (.ok (.ret (Value.ref s.heap.objs.size))) { s with heap := s.heap.push { cls := Value.type "tuple", data := Data.seq #[] }, toks := s.toks }) :=
  .of_wp fun prog w A R s h => by
    obtain ⟨hp, g, d, tk, os⟩ := s; obtain ⟨hl, h⟩ := h
    have f1 := AutoSeq1.idx_int; have f2 := AutoSeq1.sub_tuple_tuple
    wp_walk using wpAny_loadPart' hl
    rw [if_neg hc0]
    wp_walk using wpAny_loadPart' hl
    exact ⟨_, rfl, h⟩
end TM

namespace L2
open PySem PySem.Spec PyProof.Rows
section
variable {X : Cx}
/-- () + t: t itself -/
theorem op_catT0 : OpR X (binaryOp .Add) (fun x y H Q => ∃ a b ys, x = .ref a ∧ y = .ref b ∧ SqT X.K H a [] ∧ SqT X.K H b ys ∧ Q (.ref b) H) := by
  intro pins s σ H x y v u Q I rx ry h
  obtain ⟨a, b, ys, rfl, rfl, ha, hb, q⟩ := h
  cases rx
  cases ry
  obtain ⟨its, r1, p1, _⟩ := I.tuple ha
  obtain ⟨its2, r2, p2, _⟩ := I.tuple hb
  obtain rfl : its = [] := r1.nil_iff.mpr rfl
  obtain ⟨⟨cls, dd, data, sl⟩, ho, hc, n, hd⟩ := id p1
  obtain ⟨⟨cls2, dd2, data2, sl2⟩, ho2, hc2, n2, hd2⟩ := id p2
  simp only at hc hd hc2 hd2
  subst hc hd hc2 hd2
  exact concat_meets ⟨_, ho, rfl⟩ ⟨_, ho2, rfl⟩ noFill_tuple_add seq_tuple_add PySem.F.slot_tuple_add PySem.F.entry_tuple_add (PySem.F.args_tuple_add_2 _ _)
      (tuple_addW0 a b ([] : List Value).toArray its2.toArray n n2 dd dd2 sl sl2 rfl) ⟨ho, ho2, ⟨.ref b, H, I, rfl, q⟩⟩
/-- l + m, any two lists -/
theorem op_catL : OpR X (binaryOp .Add) (fun x y H Q => ∃ a b xs ys, x = .ref a ∧ y = .ref b ∧ SqL X.K H a xs ∧ SqL X.K H b ys ∧ xs.length + ys.length ≤ sizeLine ∧ ∀ p, H p = none → Q (.ref p) (upd H p (.lst (xs ++ ys)))) := by
  intro pins s σ H x y v u Q I rx ry h
  obtain ⟨a, b, xs, ys, rfl, rfl, ha, hb, hz, q⟩ := h
  cases rx
  cases ry
  obtain ⟨its, r1, ⟨⟨cls, dd, data, sl⟩, n, ho, hc, hdd, hd⟩, _⟩ := I.list ha
  obtain ⟨its2, r2, ⟨⟨cls2, dd2, data2, sl2⟩, n2, ho2, hc2, hdd2, hd2⟩, _⟩ := I.list hb
  simp only at hc hd hc2 hd2
  subst hc hd hc2 hd2
  refine concat_meets ⟨_, ho, rfl⟩ ⟨_, ho2, rfl⟩ noFill_list_add seq_list_add PySem.F.slot_list_add PySem.F.entry_list_add (PySem.F.args_list_add_2 _ _)
      (list_addW a b its.toArray its2.toArray n n2 dd dd2 sl sl2 (by rw [List.size_toArray, List.size_toArray, ← r1.length, ← r2.length]; exact hz)) ⟨ho, ho2, ?_⟩
  have e : its.toArray ++ its2.toArray = (its ++ its2).toArray := by simp
  rw [e]
  exact ⟨.ref _, _, I.lnew (t' := s.toks) (r1.append r2) (by rw [List.length_append]; exact hz), rfl, q _ I.fresh⟩
/-- t * n -/
theorem op_mulT : OpR X (binaryOp .Mult) (fun x y H Q => ∃ a k xs, x = .ref a ∧ y = .int k ∧ SqT X.K H a xs ∧ 0 ≤ k ∧ k ≤ 16777216 ∧ xs.length * k.toNat ≤ sizeLine ∧
    ((xs.isEmpty || k == 1) = true → Q (.ref a) H) ∧ ((xs.isEmpty || k == 1) = false → ∀ p, H p = none → Q (.ref p) (upd H p (.tup (List.replicate k.toNat xs).flatten)))) := by
  intro pins s σ H x y v u Q I rx ry h
  obtain ⟨a, k, xs, rfl, rfl, ha, h0, h1, hz, q1, q2⟩ := h
  cases rx
  obtain ⟨t, rfl⟩ := ry
  obtain ⟨its, r1, p1, _⟩ := I.tuple ha
  have hlen := r1.length
  obtain ⟨⟨cls, dd, data, sl⟩, ho, hc, n, hd⟩ := id p1
  simp only at hc hd
  subst hc hd
  have hc0 : ¬(decide (k < -2 ^ 63) || decide (k ≥ 2 ^ 63)) = true := by
    simp only [Bool.or_eq_true, decide_eq_true_eq]
    omega
  have hem : its.toArray.isEmpty = xs.isEmpty := by cases r1 <;> simp
  refine wpAny_binaryOp_repeat_ref (T := "tuple") (U := "int") (by decide) ⟨_, ho, rfl⟩ (fun s' => typeIs_int s' k t) TM.noFill_tuple_mul PySem.F.fills_int_mul PySem.F.slot_int_rmul TM.repeat_tuple PySem.F.slot_int_index.lookup
    (call_meets PySem.F.slot_int_rmul (typeIs_int s k t) PySem.F.entry_int_rmul (PySem.F.args_int_rmul_2 _ _) (TM.int_rmul_tuple k t a its.toArray n dd sl) ⟨ho, rfl, ⟨_, ho, rfl⟩, ?_⟩)
  cases hc : (xs.isEmpty || k == 1) with
  | true =>
    exact call_meets PySem.F.slot_tuple_mul ⟨_, ho, rfl⟩ PySem.F.entry_tuple_mul (PySem.F.args_tuple_mul_2 _ _) (TM.tuple_mul_same a its.toArray n k t dd sl hc0 (by rw [hem]; exact hc)) ⟨ho, ⟨.ref a, H, I, rfl, q1 hc⟩⟩
  | false =>
    have q := q2 hc
    have hxe : xs.isEmpty = false := (Bool.or_eq_false_iff.mp hc).1
    by_cases hk : k ≤ 0
    · have hk0 : k.toNat = 0 := by omega
      refine call_meets PySem.F.slot_tuple_mul ⟨_, ho, rfl⟩ PySem.F.entry_tuple_mul (PySem.F.args_tuple_mul_2 _ _) (TM.tuple_mul_none a its.toArray n k t dd sl hc0 (by rw [hem, hc]; exact Bool.false_ne_true) (by rw [hem, hxe]; simp [hk])) ⟨ho, ?_⟩
      refine ⟨.ref s.heap.objs.size, _, I.laid (t' := s.toks) (o := .tup (List.replicate k.toNat xs).flatten) (fun b ob q => Heap.get?_push_of_some _ q) (Nat.le_refl _) ?_, rfl, q _ (I.hok.fresh (Nat.le_refl _))⟩
      rw [hk0]
      exact ⟨Nat.zero_le _, [], .nil, IsTup.new _ _⟩
    · have hn : (List.foldl (fun x1 x2 => x1 ++ x2) #[] (List.replicate k.toNat its.toArray)) = (List.replicate k.toNat its).flatten.toArray := by
        have := foldl_rep its k.toNat []
        rw [List.nil_append] at this
        exact this
      have hl2 : (List.replicate k.toNat xs).flatten.length ≤ sizeLine := by rw [len_rep, Nat.mul_comm]; exact hz
      have hprod : (its.toArray.size : Int) * k ≤ sizeLine := by
        rw [List.size_toArray, ← hlen]
        have : ((xs.length * k.toNat : Nat) : Int) ≤ sizeLine := by exact_mod_cast hz
        rw [Int.natCast_mul, Int.toNat_of_nonneg h0] at this
        exact this
      have hs24 : (sizeLine : Int) = 16777216 := by rw [sizeLine_eq]; rfl
      refine call_meets PySem.F.slot_tuple_mul ⟨_, ho, rfl⟩ PySem.F.entry_tuple_mul (PySem.F.args_tuple_mul_2 _ _) (TM.tuple_mul_new a its.toArray n k t dd sl hc0 (by rw [hem, hc]; exact Bool.false_ne_true) (by rw [hem, hxe]; simp; omega) (by omega)
        (by unfold Builtin.Tuple.tupleTooMany; simp only [decide_eq_true_eq]; omega) (by rw [hn, List.size_toArray, len_rep, ← hlen, Nat.mul_comm]; exact hz)) ⟨ho, ?_⟩
      rw [hn]
      refine ⟨.ref s.heap.objs.size, _, I.laid (t' := s.toks) (o := .tup (List.replicate k.toNat xs).flatten) (fun b ob q => Heap.get?_push_of_some _ q) (Nat.le_refl _) ?_, rfl, q _ (I.hok.fresh (Nat.le_refl _))⟩
      exact ⟨hl2, _, r1.rep k.toNat, IsTup.new _ _⟩
/-- t[lo:hi], the whole of it: t itself -/
theorem getItem_tuple_whole {prog : Program} {w : World} {A : Around} {E : Value → Shared → Prop} {s : Shared} {t sl : Addr} {items : Array Value} {vl vu : Value} {lo hi : Option Int} {Q : Value → Shared → Prop} (ht : IsTup s.heap t items) (hs : s.heap.IsSliceOf sl vl vu .none) (pl : IsPart vl lo) (pu : IsPart vu hi)
    (hw : HT.sIx items.size 0 lo = 0 ∧ HT.sIx items.size items.size hi = items.size) (h : Q (.ref t) s) : wpAny (model prog w) A (getItem (.ref t) (.ref sl)) Q E s := by
  obtain ⟨os, hos, hcs, hds⟩ := id hs
  have hTs : s.TypeIs (.ref sl) "slice" := ⟨os, hos, hcs⟩
  unfold getItem
  try with_reducible refine wpAny_holding ?_
  first | refine wpAny_bind (wpAny_pure ?_) | skip
  refine wpAny_bind (wpAny_sequenceKey ht.typeIs (by decide) ?_)
  refine wpAny_bind (wpAny_callSpecial?_slot (name := Str.ofString "__getitem__") ht.typeIs PyProof.Rows.slot_tuple_getitem
    (wpAny_call_entry PyProof.Rows.slot_tuple_getitem ht.typeIs entry_tuple_getitem ?_ (args_tuple_getitem _ _)))
  show wpAny _ _ (Builtin.Tuple.tupleItemsOf (.ref t) >>= _) _ _ s
  refine wpAny_bind (tupleItemsOf_ ht ?_)
  refine wpAny_bind (wpAny_typeOf hTs ?_)
  rw [if_pos (by decide)]
  refine wpAny_bind (HT.sliceApplied_gen hs pl pu ?_)
  have hyes : (((HT.sIx items.size 0 lo : Nat) : Int) == 0 && (1 : Int) == 1 && (HT.sIx items.size items.size hi - HT.sIx items.size 0 lo) == items.size) = true := by
    rw [hw.1, hw.2]
    simp
  show wpAny _ _ (if (((HT.sIx items.size 0 lo : Nat) : Int) == 0 && (1 : Int) == 1 && (HT.sIx items.size items.size hi - HT.sIx items.size 0 lo) == items.size) = true then _ else _) _ _ s
  rw [if_pos hyes]
  refine wpAny_bind (m := Builtin.Tuple.tupleIsExact _) ?_
  unfold Builtin.Tuple.tupleIsExact
  refine wpAny_bind (wpAny_typeOf ht.typeIs ?_)
  refine wpAny_pure ?_
  rw [if_pos (by rfl)]
  exact wpAny_bind (wpAny_rule (wpAny_pure ⟨_, rfl, wpAny_pure h⟩))
theorem sl_tupW : SlR X (fun x lo hi H Q => ∃ a xs, x = .ref a ∧ SqT X.K H a xs ∧ (HT.sIx xs.length 0 lo = 0 ∧ HT.sIx xs.length xs.length hi = xs.length) ∧ Q (.ref a) H) := by
  intro pins s σ H x v vl vu lo hi sl Q I rx hs pl pu h
  obtain ⟨a, xs, rfl, hx, hw, q⟩ := h
  cases rx
  obtain ⟨its, r, ht, hz⟩ := I.tuple hx
  have hlen : its.toArray.size = xs.length := by rw [List.size_toArray]; exact r.length.symm
  refine ⟨"tuple", _, PyProof.Rows.slot_tuple_getitem.lookup, ht.typeIs, ?_⟩
  exact getItem_tuple_whole ht hs pl pu (by rw [hlen]; exact hw) ⟨.ref a, H, I, rfl, q⟩
/-! ### {} -/
theorem Inv.big {pins : List (Addr × Obj)} {σ : St} {H : Hp} {s : Shared} (I : Inv X pins σ H s) : sysModules < s.heap.objs.size := by
  have h : mainGlobals < s.heap.objs.size := (I.mod.glob.keeps I.bk).lt
  exact Nat.lt_trans (by decide) h
theorem dk_empty {P : Program} {w : World} {H : Hp} (h : Heap) (hb : sysModules < h.objs.size) : ObjOk P w H (h.push { cls := .type "dict", data := .dict #[] }) h.objs.size (.dK []) :=
  ⟨Nat.zero_le _, beq_eq_false_iff_ne.mpr (Ne.symm (Nat.ne_of_lt hb)), [], .nil, Heap.DictOf.new h⟩
def tDNewK : TE := fun _ H Q => ∀ p, H p = none → Q (.ref p) (upd H p (.dK []))
theorem pe_dnewK {pos : Pos} : PE X (.Dict [] [] pos) tDNewK := fun pins s σ H Q I h =>
  wpAny_Dict_empty ⟨.ref s.heap.objs.size, _, I.laid (a := s.heap.objs.size) (o := .dK []) (t' := s.toks) (fun _ _ q => Heap.get?_push_of_some _ q) (Nat.le_refl _) (dk_empty s.heap I.big), rfl, h _ (I.hok.fresh (Nat.le_refl _))⟩
/-! ### all, any of bools and ints -/
def trV : V → Option Bool
  | .bl b => some b
  | .int i => some (i != 0)
  | _ => none
theorem trV_truth {prog : Program} {w : World} {A : Around} {x : V} {v : Value} {b : Bool} (r : RelV x v) (h : trV x = some b) {s : Shared} {Q : Bool → Shared → Prop} {E : Value → Shared → Prop} (q : Q b s) : wpAny (model prog w) A (truthy v) Q E s := by
  cases x with
  | bl c =>
    cases (show v = Value.bool c from r)
    cases h
    exact wpAny_truthy_bool q
  | int i =>
    obtain ⟨t, rfl⟩ := (show ∃ t, v = Value.int i t from r)
    cases h
    exact PySem.P.truthy_int q
  | _ => cases h
theorem walk_seq {pins : List (Addr × Obj)} {σ : St} {H : Hp} {s : Shared} {p : Addr} {ys : List V} (hc : X.calm = true) (I : Inv X pins σ H s) (h : SqL X.K H p ys ∨ SqT X.K H p ys) {A : Around} (hA : A.handled = none) {Q : Value → Shared → Prop} {E : Value → Shared → Prop}
    (q : ∀ (its : List Value) (I' : Addr) (fp wr : List Addr) (St : Nat → Heap → Prop) (h2 : Heap), Vals ys its → Walks X.prog X.w A I' fp wr ys.length (fun i v => its[i]? = some v) St → St 0 h2 → (∀ b ∈ fp, b < h2.objs.size) →
      (∀ h' tk, (∀ b o, b ∉ wr → h2.get? b = some o → h'.get? b = some o) → Inv X pins σ H { s with heap := h', toks := tk }) → Q (.ref I') { s with heap := h2 }) : wpAny (model X.prog X.w) A (pyIter (.ref p)) Q E s := by
  have back : ∀ (o : Obj) (h' : Heap) (tk : Nat), (∀ b ob, b ∉ [s.heap.objs.size] → (s.heap.push o).get? b = some ob → h'.get? b = some ob) → Inv X pins σ H { s with heap := h', toks := tk } := fun o h' tk kp =>
    I.kept fun b ob e => kp b ob (by simpa using Nat.ne_of_lt (Heap.lt_size e)) (Heap.get?_push_of_some _ e)
  rcases h with h | h
  · obtain ⟨its, r, pl, hz⟩ := I.list h
    have hlen : its.toArray.size = ys.length := by rw [List.size_toArray]; exact r.length.symm
    have hlt : p < s.heap.objs.size := by obtain ⟨o, n, e, _⟩ := pl; exact Heap.lt_size e
    refine wpAny_pyIter_list pl.isList ?_
    have W := Walks.list (prog := X.prog) (w := X.w) hA s.heap.objs.size p (Nat.ne_of_lt hlt) its.toArray
    rw [hlen] at W
    refine q its s.heap.objs.size _ _ (fun i h => h.IsListIter s.heap.objs.size p i ∧ h.IsList p its.toArray) _ r (by simpa using W) ⟨⟨_, Heap.get?_push_size _ rfl, rfl, rfl⟩, pl.isList.push _⟩ (fun b hb => ?_) (fun h' tk kp => back _ h' tk kp)
    rw [Heap.size_push]
    rcases List.mem_cons.mp hb with rfl | hb
    · exact Nat.lt_succ_self _
    · have : b = p := by simpa using hb
      subst this
      exact Nat.lt_succ_of_lt hlt
  · obtain ⟨its, r, pl, hz⟩ := I.tuple h
    have hlen : its.toArray.size = ys.length := by rw [List.size_toArray]; exact r.length.symm
    have hlt : p < s.heap.objs.size := pl.lt
    have pl' : s.heap.IsTuple p its.toArray := pl
    refine wpAny_pyIter_tuple pl' ?_
    have W := Walks.tuple (prog := X.prog) (w := X.w) hA s.heap.objs.size p (Nat.ne_of_lt hlt) its.toArray
    rw [hlen] at W
    refine q its s.heap.objs.size _ _ (fun i h => h.IsTupleIter s.heap.objs.size p i ∧ h.IsTuple p its.toArray) _ r (by simpa using W) ⟨⟨_, Heap.get?_push_size _ rfl, rfl, rfl⟩, ?_⟩ (fun b hb => ?_) (fun h' tk kp => back _ h' tk kp)
    · obtain ⟨o, e, c⟩ := pl'
      exact ⟨o, Heap.get?_push_of_some _ e, c⟩
    · rw [Heap.size_push]
      rcases List.mem_cons.mp hb with rfl | hb
      · exact Nat.lt_succ_self _
      · have : b = p := by simpa using hb
        subst this
        exact Nat.lt_succ_of_lt hlt
theorem range_all {ys : List V} {bs : List Bool} (h : ys.map trV = bs.map some) : (List.range ys.length).all (fun i => ((ys[i]?).bind trV).getD false) = bs.all id ∧ (List.range ys.length).any (fun i => ((ys[i]?).bind trV).getD false) = bs.any id := by
  have hl : ys.length = bs.length := by simpa using congrArg List.length h
  have hg : ∀ i : Nat, ((ys[i]?).bind trV).getD false = (bs[i]?).getD false := fun i => by
    have e : (ys.map trV)[i]? = (bs.map some)[i]? := by rw [h]
    rw [List.getElem?_map, List.getElem?_map] at e
    cases q : ys[i]? with
    | none => rw [q] at e; cases q2 : bs[i]? with
      | none => rfl
      | some b => rw [q2] at e; cases e
    | some y => rw [q] at e; cases q2 : bs[i]? with
      | none => rw [q2] at e; cases e
      | some b => rw [q2] at e; simp at e; simp [e]
  have ea : (List.range ys.length).map (fun i => ((ys[i]?).bind trV).getD false) = bs := by
    apply List.ext_getElem?
    intro i
    rw [List.getElem?_map]
    by_cases hi : i < ys.length
    · rw [List.getElem?_range hi]
      have hb : i < bs.length := by omega
      rw [Option.map_some, hg i, List.getElem?_eq_getElem hb]
      rfl
    · rw [List.getElem?_eq_none (by simpa using hi), List.getElem?_eq_none (by omega)]
      rfl
  constructor
  · conv => rhs; rw [← ea]
    rw [List.all_map]
    rfl
  · conv => rhs; rw [← ea]
    rw [List.any_map]
    rfl
theorem call_allB (hc : X.calm = true) (all : Bool) : CallR X (.builtin (if all then "all" else "any")) (fun xs H Q => ∃ (p : Addr) (ys : List V) (bs : List Bool), xs = [.ref p] ∧ (SqL X.K H p ys ∨ SqT X.K H p ys) ∧ ys.map trV = bs.map some ∧ Q (.bl (if all then bs.all id else bs.any id)) H) := by
  intro pins s σ H xs us Q I r h
  obtain ⟨p, ys, bs, rfl, hq, hb, q⟩ := h
  obtain ⟨u, rfl, rx⟩ := vals1 r
  cases rx
  have hA : X.A.in1.handled = none := I.ok.hd hc
  have tro : ∀ its : List Value, Vals ys its → TruthOf X.prog X.w X.A.in1 (fun i v => its[i]? = some v) (fun i => ((ys[i]?).bind trV).getD false) := fun its rv i v s Q E hP hQ => by
    have hlen := rv.length
    have hi : i < ys.length := by rw [hlen]; exact (List.getElem?_eq_some_iff.mp hP).1
    obtain ⟨u, e1, e2⟩ := rv.get (List.getElem?_eq_getElem hi)
    rw [hP] at e1
    cases e1
    have e : (ys.map trV)[i]? = (bs.map some)[i]? := by rw [hb]
    rw [List.getElem?_map, List.getElem?_map, List.getElem?_eq_getElem hi] at e
    cases q2 : bs[i]? with
    | none => rw [q2] at e; cases e
    | some b =>
      rw [q2] at e
      have e : trV ys[i] = some b := by simpa using e
      refine trV_truth e2 e ?_
      have : ((ys[i]?).bind trV).getD false = b := by rw [List.getElem?_eq_getElem hi]; simp [e]
      rw [← this]
      exact hQ
  cases all with
  | true =>
    refine call_all_walk (walk_seq hc I hq hA fun its I' fp wr St h2 rv W st hfp back => ⟨I', fp, wr, _, _, St, _, rfl, W, st, tro its rv, fun h' tk kp => ?_⟩)
    rw [(range_all hb).1]
    exact ⟨.bl _, H, back h' tk kp, rfl, q⟩
  | false =>
    refine call_any_walk (walk_seq hc I hq hA fun its I' fp wr St h2 rv W st hfp back => ⟨I', fp, wr, _, _, St, _, rfl, W, st, tro its rv, fun h' tk kp => ?_⟩)
    rw [(range_all hb).2]
    exact ⟨.bl _, H, back h' tk kp, rfl, q⟩
end
end L2

namespace DI
open PySem

/-- plain data -/
inductive D where
  | non | bl (b : Bool) | int (i : Int) | str (x : Str) | tup (xs : List D) | lst (xs : List D) | emp | exc (c : Nat)
  deriving Inhabited

/-- an answer: a value, a refusal by its class's number, or nothing said -/
inductive R (α : Type) where
  | ok (a : α) | err (c : Nat) | stk

namespace R
def bind {α β : Type} (x : R α) (f : α → R β) : R β := match x with
  | ok a => f a
  | err c => err c
  | stk => stk
/-- a refusal is not spoken of -/
def noErr {α : Type} : R α → R α
  | ok a => ok a
  | _ => stk
instance : Monad R where
  pure := ok
  bind := bind
end R

inductive Op where | add | sub | mul | fdiv | mod | pow
inductive Cm where | eq | ne | lt | le | gt | ge | isn | notn | isin | notin
inductive Bf where | len | tuple | list | all | any | sum | min | max | sorted | sset | lset | abs
inductive Ty where | int | bool | str | tuple | list | dict | exc (c : Nat) | verr
  deriving DecidableEq

mutual
inductive E where
  | lit (d : D) | emp | var (i : Nat) | bor (i : Nat)
  | bin (o : Op) (a b : E) | neg (a : E) | cmp (o : Cm) (a b : E)
  | and (a b : E) | or (a b : E) | not (a : E) | ite (c a b : E)
  | tup (es : Es) | lst (es : Es)
  | idx (a b : E) | slc (a : E) (lo hi : Oe)
  | call (f : Nat) (es : Es)
  | blt (f : Bf) (it : It) | min2 (a b : E) | max2 (a b : E)
  | isi (a : E) (ks : List Ty)
  | comp (elt : E) (tg : List Nat) (one : Bool) (n : Nat) (caps : List Nat) (it : It) (c : Oe)
inductive Es where
  | nil | cons (e : E) (es : Es)
inductive Oe where
  | none | some (e : E)
inductive It where
  | seq (e : E) | rng1 (a : E) | rng2 (a b : E) | zip (a b : E) | rev (a : E)
end

mutual
inductive S where
  | ret (e : E) | retN | expr (e : E) | asg (i : Nat) (e : E) | unp (is : List Nat) (e : E)
  | app (i : Nat) (e : E) | ins (i : Nat) (k e : E) | sub (i : Nat) (k e : E)
  | ife (c : E) (a b : Ss) | loop (tg : List Nat) (one : Bool) (it : It) (b : Ss) | whl (c : E) (b : Ss)
  | brk | cnt | pas | rai (c : Nat) (e : E) | tryx (b : Ss) (c : Nat) (i : Option Nat) (h : Ss)
inductive Ss where
  | nil | cons (s : S) (ss : Ss)
end

/-- what a name holds: nothing, data, a list that this name alone has -/
inductive Sl where | no | dat (d : D) | own (xs : List D)
abbrev Rho := List Sl
inductive Fl where | nx (ρ : Rho) | rt (d : D) | bk (ρ : Rho) | ct (ρ : Rho)

/-! ### operations -/
mutual
def eqD : D → D → Bool
  | .non, .non => true
  | .bl a, .bl b => a == b
  | .bl a, .int b => (if a then 1 else 0) == b
  | .int a, .bl b => a == (if b then 1 else 0)
  | .int a, .int b => a == b
  | .str a, .str b => a == b
  | .tup a, .tup b => eqDs a b
  | .lst a, .lst b => eqDs a b
  | .emp, .emp => true
  | _, _ => false
def eqDs : List D → List D → Bool
  | [], [] => true
  | a :: as, b :: bs => eqD a b && eqDs as bs
  | _, _ => false
end

def fits (n : Nat) : Bool := n ≤ 16777216
def opD : Op → D → D → R D
  | .add, .int a, .int b => .ok (.int (a + b))
  | .add, .tup a, .tup b => if fits (a.length + b.length) then .ok (.tup (a ++ b)) else .stk
  | .add, .lst a, .lst b => if fits (a.length + b.length) then .ok (.lst (a ++ b)) else .stk
  | .sub, .int a, .int b => .ok (.int (a - b))
  | .mul, .int a, .int b => if (-(2 ^ 64) < a ∧ a < 2 ^ 64) ∨ (-(2 ^ 64) < b ∧ b < 2 ^ 64) then .ok (.int (a * b)) else .stk
  | .mul, .tup a, .int b => if 0 ≤ b ∧ b ≤ 16777216 ∧ fits (a.length * b.toNat) then .ok (.tup (List.replicate b.toNat a).flatten) else .stk
  | .fdiv, .int a, .int b => if 0 < b ∧ b < 1073741824 then .ok (.int (a / b)) else .stk
  | .mod, .int a, .int b => if 0 < b then .ok (.int (a % b)) else .stk
  | .pow, .int a, .int b => if 0 ≤ b ∧ b ≤ 1000000 ∧ a.natAbs < 2 ^ 64 then .ok (.int (a ^ b.toNat)) else .stk
  | _, _, _ => .stk
def negD : D → R D
  | .int a => .ok (.int (-a))
  | _ => .stk
def truth : D → R Bool
  | .non => .ok false
  | .bl b => .ok b
  | .int i => .ok (i != 0)
  | .tup xs => .ok (!xs.isEmpty)
  | .lst xs => .ok (!xs.isEmpty)
  | _ => .stk
/-- all ints -/
def intsOf : List D → Option (List Int)
  | [] => some []
  | .int i :: r => (intsOf r).map (i :: ·)
  | _ :: _ => none
def lexLt : List Int → List Int → Bool
  | [], [] => false
  | [], _ :: _ => true
  | _ :: _, [] => false
  | x :: xs, y :: ys => if x = y then lexLt xs ys else decide (x < y)
/-- a < b of ints, of tuples of ints -/
def ltD : D → D → R Bool
  | .int a, .int b => .ok (decide (a < b))
  | .tup a, .tup b => match intsOf a, intsOf b with
    | some x, some y => .ok (lexLt x y)
    | _, _ => .stk
  | _, _ => .stk
def seqOf : D → R (List D)
  | .tup xs => .ok xs
  | .lst xs => .ok xs
  | _ => .stk
/-- == of ints, bools, texts -/
def eqR : D → D → R Bool
  | .int a, .int b => .ok (a == b)
  | .bl a, .bl b => .ok (a == b)
  | .str a, .str b => .ok (a == b)
  | _, _ => .stk
def cmD : Cm → D → D → R Bool
  | .eq, a, b => eqR a b
  | .ne, a, b => (eqR a b).bind fun c => .ok (!c)
  | .lt, a, b => ltD a b
  | .gt, .int a, .int b => .ok (decide (b < a))
  | .le, .int a, .int b => .ok (decide (a ≤ b))
  | .ge, .int a, .int b => .ok (decide (b ≤ a))
  | .isn, a, .non => .ok (match a with | .non => true | _ => false)
  | .notn, a, .non => .ok (match a with | .non => false | _ => true)
  | _, _, _ => .stk
def atI (xs : List D) (i : Int) : R D :=
  if 0 ≤ i then (match xs[i.toNat]? with | some d => .ok d | none => .stk)
  else if 0 ≤ i + xs.length then (match xs[(i + xs.length).toNat]? with | some d => .ok d | none => .stk) else .stk
def idxD : D → D → R D
  | .tup xs, .int i => atI xs i
  | .lst xs, .int i => atI xs i
  | _, _ => .stk
def sIx (n d : Nat) : Option Int → Nat
  | none => d
  | some v => if v < 0 then (v + n).toNat else min v.toNat n
def cut {α : Type} (xs : List α) (lo hi : Option Int) : List α := (xs.drop (sIx xs.length 0 lo)).take (sIx xs.length xs.length hi - sIx xs.length 0 lo)
def slcD : D → Option Int → Option Int → R D
  | .tup xs, lo, hi => .ok (.tup (cut xs lo hi))
  | .lst xs, lo, hi => .ok (.lst (cut xs lo hi))
  | _, _, _ => .stk
def sumD : List D → Int → R D
  | [], a => .ok (.int a)
  | .int i :: r, a => sumD r (a + i)
  | _ :: _, _ => .stk
/-- bools and ints by their truth -/
def boolsOf : List D → Option (List Bool)
  | [] => some []
  | .bl b :: r => (boolsOf r).map (b :: ·)
  | .int i :: r => (boolsOf r).map ((i != 0) :: ·)
  | _ :: _ => none
def allD (xs : List D) : R Bool := match boolsOf xs with | some bs => .ok (bs.all id) | none => .stk
def anyD (xs : List D) : R Bool := match boolsOf xs with | some bs => .ok (bs.any id) | none => .stk
def minI : List Int → Int → Int
  | [], m => m
  | x :: r, m => minI r (if x < m then x else m)
def maxI : List Int → Int → Int
  | [], m => m
  | x :: r, m => maxI r (if x > m then x else m)
def bfD : Bf → List D → R D
  | .len, xs => .ok (.int xs.length)
  | .tuple, xs => .ok (.tup xs)
  | .list, xs => .ok (.lst xs)
  | .all, xs => (allD xs).bind fun b => .ok (.bl b)
  | .any, xs => (anyD xs).bind fun b => .ok (.bl b)
  | _, _ => .stk
def tyIs : D → Ty → R Bool
  | .exc _, _ => .stk
  | .non, _ => .ok false
  | .bl _, t => .ok (t == .bool || t == .int)
  | .int _, t => .ok (t == .int)
  | .str _, t => .ok (t == .str)
  | .tup _, t => .ok (t == .tuple)
  | .lst _, t => .ok (t == .list)
  | .emp, t => .ok (t == .dict)
def tyAny : D → List Ty → R Bool
  | _, [] => .ok false
  | d, t :: r => (tyIs d t).bind fun b => if b then .ok true else tyAny d r

def rngD (a : Int) (n : Nat) : List D := (List.range n).map fun (k : Nat) => D.int (a + (k : Int))
def rng1D : D → R (List D)
  | .int n => if -16777216 ≤ n ∧ n ≤ 16777216 then .ok (rngD 0 n.toNat) else .stk
  | _ => .stk
def rng2D : D → D → R (List D)
  | .int i, .int j => if -1000000000 ≤ i ∧ i ≤ 1000000000 ∧ -1000000000 ≤ j ∧ j - i ≤ 16777216 then .ok (rngD i (j - i).toNat) else .stk
  | _, _ => .stk
def zipD : List D → List D → List D
  | a :: as, b :: bs => .tup [a, b] :: zipD as bs
  | _, _ => []

/-- one name, or several by a tuple -/
def putT (tg : List Nat) (one : Bool) (d : D) (ρ : Rho) : R Rho := match one, tg, d with
  | true, [i], d => .ok (ρ.set i (.dat d))
  | false, is, .tup xs => if is.length = xs.length then .ok ((is.zip xs).foldl (fun r p => r.set p.1 (.dat p.2)) ρ) else .stk
  | _, _, _ => .stk
def compGo (f : D → R (Option D)) : List D → R (List D)
  | [] => .ok []
  | x :: xs => (f x).bind fun o => (compGo f xs).bind fun r => .ok (match o with | some d => d :: r | none => r)
def capsOf (ρ : Rho) (caps : List Nat) : Rho := caps.map fun i => match ρ[i]? with | some s => s | none => .no

def boolR : D → R Bool
  | .bl b => .ok b
  | _ => .stk
abbrev Calls := Nat → List D → R D
section
variable (G : Calls)
mutual
def evE : E → Rho → R D
  | .lit d, _ => .ok d
  | .emp, _ => .ok .emp
  | .var i, ρ => match ρ[i]? with | some (.dat d) => .ok d | _ => .stk
  | .bor i, ρ => match ρ[i]? with | some (.dat d) => .ok d | some (.own xs) => .ok (.lst xs) | _ => .stk
  | .bin o a b, ρ => (evE a ρ).bind fun x => (evE b ρ).bind fun y => opD o x y
  | .neg a, ρ => (evE a ρ).bind negD
  | .cmp o a b, ρ => (evE a ρ).bind fun x => (evE b ρ).bind fun y => (cmD o x y).bind fun c => .ok (.bl c)
  | .and a b, ρ => (evE a ρ).bind fun x => (boolR x).bind fun t => if t then (evE b ρ).bind fun y => (boolR y).bind fun u => .ok (.bl u) else .ok (.bl false)
  | .or a b, ρ => (evE a ρ).bind fun x => (boolR x).bind fun t => if t then .ok (.bl true) else (evE b ρ).bind fun y => (boolR y).bind fun u => .ok (.bl u)
  | .not a, ρ => (evE a ρ).bind fun x => (boolR x).bind fun t => .ok (.bl (!t))
  | .ite c a b, ρ => (evT c ρ).bind fun t => if t then evE a ρ else evE b ρ
  | .tup es, ρ => (evEs es ρ).bind fun xs => if fits xs.length then .ok (.tup xs) else .stk
  | .lst es, ρ => (evEs es ρ).bind fun xs => if fits xs.length then .ok (.lst xs) else .stk
  | .idx a b, ρ => (evE a ρ).bind fun x => (evE b ρ).bind fun y => idxD x y
  | .slc a lo hi, ρ => (evE a ρ).bind fun x => (evO lo ρ).bind fun l => (evO hi ρ).bind fun h => slcD x l h
  | .call f es, ρ => (evEs es ρ).bind fun xs => G f xs
  | .blt f it, ρ => (evI it ρ).bind fun xs => bfD f xs
  | .min2 _ _, _ => .stk
  | .max2 _ _, _ => .stk
  | .isi a ks, ρ => (evE a ρ).bind fun x => (tyAny x ks).bind fun b => .ok (.bl b)
  | .comp elt tg one n caps it c, ρ => (evI it ρ).bind fun xs => (compGo (fun x => (putT tg one x (List.replicate n .no ++ capsOf ρ caps)).bind fun ρ' =>
      match c with
      | .none => (evE elt ρ').bind fun d => .ok (some d)
      | .some t => (evT t ρ').bind fun b => if b then (evE elt ρ').bind fun d => .ok (some d) else .ok none) xs).noErr.bind fun ys => .ok (.lst ys)
def evT : E → Rho → R Bool
  | .and a b, ρ => (evT a ρ).bind fun x => if x then evT b ρ else .ok false
  | .or a b, ρ => (evT a ρ).bind fun x => if x then .ok true else evT b ρ
  | .not a, ρ => (evT a ρ).bind fun x => .ok (!x)
  | .cmp o a b, ρ => (evE a ρ).bind fun x => (evE b ρ).bind fun y => cmD o x y
  | .ite c a b, ρ => (evT c ρ).bind fun t => if t then evT a ρ else evT b ρ
  | .bor i, ρ => match ρ[i]? with | some (.dat d) => truth d | some (.own xs) => .ok (!xs.isEmpty) | _ => .stk
  | .isi a ks, ρ => (evE a ρ).bind fun x => tyAny x ks
  | .call f es, ρ => (evEs es ρ).bind fun xs => (G f xs).bind truth
  | .blt f it, ρ => (evI it ρ).bind fun xs => (bfD f xs).bind truth
  | .idx a b, ρ => (evE a ρ).bind fun x => (evE b ρ).bind fun y => (idxD x y).bind truth
  | .lit d, _ => truth d
  | .slc a lo hi, ρ => (evE a ρ).bind fun x => (evO lo ρ).bind fun l => (evO hi ρ).bind fun h => (slcD x l h).bind truth
  | _, _ => .stk
def evEs : Es → Rho → R (List D)
  | .nil, _ => .ok []
  | .cons e es, ρ => (evE e ρ).bind fun x => (evEs es ρ).bind fun r => .ok (x :: r)
def evO : Oe → Rho → R (Option Int)
  | .none, _ => .ok none
  | .some e, ρ => (evE e ρ).bind fun x => match x with | .int i => .ok (some i) | _ => .stk
def evI : It → Rho → R (List D)
  | .seq e, ρ => (evE e ρ).bind seqOf
  | .rng1 a, ρ => (evE a ρ).bind rng1D
  | .rng2 a b, ρ => (evE a ρ).bind fun x => (evE b ρ).bind fun y => rng2D x y
  | .zip _ _, _ => .stk
  | .rev _, _ => .stk
end

def seqF (g : Rho → R Fl) : Fl → R Fl
  | .nx ρ => g ρ
  | r => .ok r
def freeze : Sl → Sl
  | .own xs => .dat (.lst xs)
  | s => s
def forGo (f : D → Rho → R Fl) : List D → Rho → R Fl
  | [], ρ => .ok (.nx ρ)
  | x :: xs, ρ => (f x ρ).bind fun r => match r with
    | .nx ρ' => forGo f xs ρ'
    | .ct ρ' => forGo f xs ρ'
    | .bk ρ' => .ok (.nx ρ')
    | .rt d => .ok (.rt d)
def whileN (c : Rho → R Bool) (f : Rho → R Fl) : Nat → Rho → R Fl
  | 0, _ => .stk
  | n + 1, ρ => (c ρ).bind fun b => if b then (f ρ).bind fun r => match r with
    | .nx ρ' => whileN c f n ρ'
    | .ct ρ' => whileN c f n ρ'
    | .bk ρ' => .ok (.nx ρ')
    | .rt d => .ok (.rt d) else .ok (.nx ρ)
/-- which expressions make a new list -/
def fresh : E → Bool
  | .lst _ => true
  | .comp .. => true
  | .blt .list _ => true
  | .blt .sorted _ => true
  | .bin .add _ _ => true
  | .bin .mul _ _ => true
  | .slc .. => true
  | _ => false
def asgD (e : E) (d : D) : Sl := match d with
  | .lst xs => if fresh e then .own xs else .dat d
  | d => .dat d
def frzI : It → Rho → Rho
  | .seq (.bor i), ρ => match ρ[i]? with | some s => ρ.set i (freeze s) | none => ρ
  | _, ρ => ρ
variable (W : Nat)
mutual
def evS : S → Rho → R Fl
  | .ret e, ρ => (evE G e (ρ.map freeze)).bind fun d => .ok (.rt d)
  | .retN, _ => .ok (.rt .non)
  | .expr e, ρ => (evE G e ρ).bind fun _ => .ok (.nx ρ)
  | .asg i e, ρ => (evE G e ρ).bind fun d => if i < ρ.length then .ok (.nx (ρ.set i (asgD e d))) else .stk
  | .unp is e, ρ => (evE G e ρ).bind fun d => (putT is false d ρ).bind fun ρ' => .ok (.nx ρ')
  | .app i e, ρ => (evE G e ρ).bind fun d => match ρ[i]? with
    | some (.own xs) => if fits (xs.length + 1) then .ok (.nx (ρ.set i (.own (xs ++ [d])))) else .stk
    | _ => .stk
  | .ins i k e, ρ => (evE G k ρ).bind fun kd => (evE G e ρ).bind fun d => match ρ[i]?, kd with
    | some (.own xs), .int 0 => if fits (xs.length + 1) then .ok (.nx (ρ.set i (.own (d :: xs)))) else .stk
    | _, _ => .stk
  | .sub i k e, ρ => (evE G e ρ).bind fun d => (evE G k ρ).bind fun kd => match ρ[i]?, kd with
    | some (.own xs), .int j => if 0 ≤ j ∧ j < xs.length then .ok (.nx (ρ.set i (.own (xs.set j.toNat d)))) else .stk
    | _, _ => .stk
  | .ife c a b, ρ => (evT G c ρ).bind fun t => if t then evSs a ρ else evSs b ρ
  | .loop tg one it b, ρ => (evI G it ρ).bind fun xs => forGo (fun x r => (putT tg one x r).bind fun r' => evSs b r') xs (frzI it ρ)
  | .whl c b, ρ => whileN (fun r => evT G c r) (fun r => evSs b r) W ρ
  | .brk, ρ => .ok (.bk ρ)
  | .cnt, ρ => .ok (.ct ρ)
  | .pas, ρ => .ok (.nx ρ)
  | .rai c e, ρ => (evE G e ρ).bind fun _ => .err c
  | .tryx b c i h, ρ => match evSs b ρ with
    | .err c' => if c' = c then evSs h (match i with | some k => ρ.set k (.dat (.exc c')) | none => ρ) else .err c'
    | r => r
def evSs : Ss → Rho → R Fl
  | .nil, ρ => .ok (.nx ρ)
  | .cons s ss, ρ => (evS s ρ).bind (seqF fun ρ' => evSs ss ρ')
end
end

structure Def where
  ps : Nat
  n : Nat
  body : Ss
def callD (W : Nat) (P : List Def) : Nat → Calls
  | 0 => fun _ _ => .stk
  | n + 1 => fun f xs => match P[f]? with
    | none => .stk
    | some d => if xs.length = d.ps then (evSs (callD W P n) W d.body (xs.map Sl.dat ++ List.replicate (d.n - d.ps) .no)).bind fun r => match r with
        | .rt v => .ok v
        | .nx _ => .ok .non
        | _ => .stk
      else .stk

/-! ### from the text -/
structure Tab where
  defs : List Str
  cons : List (Str × D)
def knd (sc : List (Str × NameKind)) (x : Str) : Nat := match sc.lookup x with
  | some .local => 1
  | some .cell => 1
  | some .free => 1
  | some .globalImplicit => 2
  | _ => 0
def ixOf (N : List Str) (x : Str) : Option Nat := N.findIdx? (· == x)
def mapO {α β : Type} (f : α → Option β) : List α → Option (List β)
  | [] => some []
  | a :: as => match f a, mapO f as with
    | some b, some bs => some (b :: bs)
    | _, _ => none
def toEs : List E → Es
  | [] => .nil
  | e :: es => .cons e (toEs es)
def opOf : Operator → Option Op
  | .Add => some .add | .Sub => some .sub | .Mult => some .mul | .FloorDiv => some .fdiv | .Mod => some .mod | .Pow => some .pow
  | _ => none
def cmOf : CmpOp → Option Cm
  | .Eq => some .eq | .NotEq => some .ne | .Lt => some .lt | .LtE => some .le | .Gt => some .gt | .GtE => some .ge
  | _ => none
def foldB (f : E → E → E) : List E → Option E
  | [] => none
  | [e] => some e
  | e :: es => (foldB f es).map (f e)
def tyOf (x : Str) : Option Ty :=
  if x = "int" then some .int else if x = "bool" then some .bool else if x = "str" then some .str else if x = "tuple" then some .tuple else if x = "list" then some .list else if x = "dict" then some .dict else none
def isNm (x : Str) (e : Expr) : Bool := match e with | .Name y _ => y == x | _ => false
def nmOf : Expr → Option Str
  | .Name x _ => some x
  | _ => none
def badN (x : Str) : Bool := x == "__debug__" || x == "__classdict__" || x == "__name__"
section
variable (T : Tab)
/-- names that a target binds, in order -/
def tgNames : Expr → Option (List Str × Bool)
  | .Name x _ => some ([x], true)
  | .Tuple es _ _ => (mapO nmOf es).map fun xs => (xs, false)
  | _ => none
def ndp (xs : List Str) : Bool := match xs with
  | [] => true
  | x :: r => !r.contains x && ndp r
def trIo (sc : List (Str × NameKind)) (tr : Expr → Option E) (e : Expr) : Option It := match e with
  | .Call (.Name f _) [a] [] _ => if f = "range" && knd sc f == 2 && (ixOf T.defs f).isNone then (tr a).map It.rng1 else (tr e).map It.seq
  | .Call (.Name f _) [a, b] [] _ => if f = "range" && knd sc f == 2 && (ixOf T.defs f).isNone then (match tr a, tr b with | some a, some b => some (.rng2 a b) | _, _ => none) else (tr e).map It.seq
  | e => (tr e).map It.seq
/-- b: borrowed at the top -/
def trE : Nat → List (Str × NameKind) → List Str → Bool → Expr → Option E
  | 0, _, _, _, _ => none
  | n + 1, sc, N, b, e => match e with
    | .Constant .none _ _ => some (.lit .non)
    | .Constant (.bool v) _ _ => some (.lit (.bl v))
    | .Constant (.int i) _ _ => some (.lit (.int i))
    | .Constant (.str x) _ _ => some (.lit (.str x))
    | .Name x _ => if badN x then none else match knd sc x with
      | 1 => (ixOf N x).map fun i => if b then .bor i else .var i
      | 2 => (T.cons.lookup x).map .lit
      | _ => none
    | .BinOp l o r _ => match opOf o, trE n sc N true l, trE n sc N true r with
      | some o, some l, some r => some (.bin o l r)
      | _, _, _ => none
    | .UnaryOp .USub a _ => (trE n sc N true a).map .neg
    | .UnaryOp .Not a _ => (trE n sc N true a).map .not
    | .BoolOp .And vs _ => if vs.length < 2 then none else (mapO (trE n sc N true) vs).bind (foldB .and)
    | .BoolOp .Or vs _ => if vs.length < 2 then none else (mapO (trE n sc N true) vs).bind (foldB .or)
    | .Compare a [o] [c] _ => match cmOf o, trE n sc N true a, trE n sc N true c with
      | some o, some a, some c => some (.cmp o a c)
      | _, _, _ => none
    | .Tuple es _ _ => (mapO (trE n sc N false) es).map fun es => .tup (toEs es)
    | .List es _ => (mapO (trE n sc N false) es).map fun es => .lst (toEs es)
    | .Dict [] [] _ => some .emp
    | .Subscript a (.Slice lo hi none _) _ => match trE n sc N true a, (match lo with | none => some Oe.none | some e => (trE n sc N true e).map Oe.some), (match hi with | none => some Oe.none | some e => (trE n sc N true e).map Oe.some) with
      | some a, some lo, some hi => some (.slc a lo hi)
      | _, _, _ => none
    | .Subscript a i _ => match i with
      | .Slice .. => none
      | i => match trE n sc N true a, trE n sc N true i with
        | some a, some i => some (.idx a i)
        | _, _ => none
    | .Call (.Name f _) args [] _ => if badN f || knd sc f != 2 then none else
      match ixOf T.defs f with
      | some k => (mapO (trE n sc N false) args).map fun es => .call k (toEs es)
      | none =>
        if f = "isinstance" then (match args with
          | [a, .Name t _] => if badN t || knd sc t != 2 then none else match trE n sc N true a, tyOf t with
            | some a, some t => some (.isi a [t])
            | _, _ => none
          | _ => none)
        else match args with
          | [a] => match (if f = "len" then some Bf.len else if f = "tuple" then some .tuple else if f = "list" then some .list else if f = "all" then some .all else if f = "any" then some .any else none), trE n sc N true a with
            | some g, some a => some (.blt g (.seq a))
            | _, _ => none
          | _ => none
    | .ListComp elt [⟨tg, iter, ks, 0⟩] scope _ =>
      match tgNames tg with
      | none => none
      | some (xs, one) =>
        let cn := (scope.names.filter fun p => p.2 == .free).map (·.1)
        if !(scope.kind == .function) || scope.names.any (fun p => p.2 == .cell) || !(scope.names.all fun p => p.2 != .local || scope.names.lookup p.1 == some .local)
          || !(ndp (xs ++ cn)) || !(xs.all fun x => scope.names.lookup x == some .local) || !(cn.all fun x => scope.names.lookup x == some .free && (sc.lookup x == some .cell || sc.lookup x == some .free)) then none
        else match mapO (ixOf N) cn, trIo T sc (trE n sc N true) iter, trE n scope.names (xs ++ cn) false elt, (match ks with | [] => some Oe.none | [k] => (trE n scope.names (xs ++ cn) true k).map Oe.some | _ => none) with
          | some caps, some it, some elt, some c => some (.comp elt (List.range xs.length) one xs.length caps it c)
          | _, _, _, _ => none
    | _ => none
end
end DI

namespace DI
open PySem PySem.Spec PyProof.Rows L2

abbrev Frag := PySem.W.Frag
/-! ### data in the heap. F: what is frozen -/
def KT (K : Frag) (a : Addr) (xs : List V) : Prop := ∃ (o : Obj) (its : Array Value) (n : Nat), K.lookup a = some o ∧ o.cls = .type "tuple" ∧ o.data = .seq its n ∧ its.size ≤ sizeLine ∧ Vals xs its.toList
def KL (K : Frag) (a : Addr) (xs : List V) : Prop := ∃ (o : Obj) (its : Array Value) (n : Nat), K.lookup a = some o ∧ o.cls = .type "list" ∧ o.dict = none ∧ o.data = .seq its n ∧ its.size ≤ sizeLine ∧ Vals xs its.toList
def FT (K : Frag) (F : Addr → Prop) (H : Hp) (a : Addr) (xs : List V) : Prop := (F a ∧ Rd H a (.tup xs)) ∨ KT K a xs
def FL (K : Frag) (F : Addr → Prop) (H : Hp) (a : Addr) (xs : List V) : Prop := (F a ∧ Rd H a (.lst xs)) ∨ KL K a xs
theorem FT.sq {K : Frag} {F : Addr → Prop} {H : Hp} {a : Addr} {xs : List V} (h : FT K F H a xs) : SqT K H a xs := h.imp (·.2) id
theorem FL.sq {K : Frag} {F : Addr → Prop} {H : Hp} {a : Addr} {xs : List V} (h : FL K F H a xs) : SqL K H a xs := h.imp (·.2) id

section
variable (K : Frag) (F : Addr → Prop) (H : Hp)
mutual
def Rep : D → V → Prop
  | .non, v => v = .non
  | .bl b, v => v = .bl b
  | .int i, v => v = .int i
  | .str x, v => v = .str x
  | .tup ds, v => ∃ a vs, v = .ref a ∧ FT K F H a vs ∧ Reps ds vs
  | .lst ds, v => ∃ a vs, v = .ref a ∧ FL K F H a vs ∧ Reps ds vs
  | .emp, v => ∃ a, v = .ref a ∧ F a ∧ H a = some (.dK [])
  | .exc _, _ => False
def Reps : List D → List V → Prop
  | [], vs => vs = []
  | d :: ds, vs => ∃ v r, vs = v :: r ∧ Rep d v ∧ Reps ds r
end
end

def Keep (F F' : Addr → Prop) (H H' : Hp) : Prop := ∀ a, F a → F' a ∧ H' a = H a
theorem Keep.rd {F F' : Addr → Prop} {H H' : Hp} (k : Keep F F' H H') {a : Addr} {u : HO} (h : F a ∧ Rd H a u) : F' a ∧ Rd H' a u := by
  obtain ⟨f, e⟩ := k a h.1
  refine ⟨f, ?_⟩
  unfold Rd
  rw [e]
  exact h.2
section
variable {K : Frag} {F F' : Addr → Prop} {H H' : Hp}
mutual
theorem Rep.mono (k : Keep F F' H H') : ∀ {d : D} {v : V}, Rep K F H d v → Rep K F' H' d v
  | .non, _, h => by simpa only [Rep] using h
  | .bl _, _, h => by simpa only [Rep] using h
  | .int _, _, h => by simpa only [Rep] using h
  | .str _, _, h => by simpa only [Rep] using h
  | .tup ds, v, h => by
    simp only [Rep] at h ⊢
    obtain ⟨a, vs, e, q, r⟩ := h
    exact ⟨a, vs, e, q.imp k.rd id, Reps.mono k r⟩
  | .lst ds, v, h => by
    simp only [Rep] at h ⊢
    obtain ⟨a, vs, e, q, r⟩ := h
    exact ⟨a, vs, e, q.imp k.rd id, Reps.mono k r⟩
  | .emp, v, h => by
    simp only [Rep] at h ⊢
    obtain ⟨a, e, q, r⟩ := h
    obtain ⟨f, e'⟩ := k a q
    exact ⟨a, e, f, e'.trans r⟩
  | .exc _, _, h => by simp only [Rep] at h
theorem Reps.mono (k : Keep F F' H H') : ∀ {ds : List D} {vs : List V}, Reps K F H ds vs → Reps K F' H' ds vs
  | [], _, h => by simpa only [Reps] using h
  | d :: ds, vs, h => by
    simp only [Reps] at h ⊢
    obtain ⟨v, r, e, h1, h2⟩ := h
    exact ⟨v, r, e, Rep.mono k h1, Reps.mono k h2⟩
end
theorem Reps.length : ∀ {ds : List D} {vs : List V}, Reps K F H ds vs → ds.length = vs.length
  | [], vs, h => by simp only [Reps] at h; subst h; rfl
  | d :: ds, vs, h => by
    simp only [Reps] at h
    obtain ⟨v, r, rfl, _, h2⟩ := h
    rw [List.length_cons, List.length_cons, Reps.length h2]
theorem Reps.get : ∀ {ds : List D} {vs : List V} {i : Nat} {d : D}, Reps K F H ds vs → ds[i]? = some d → ∃ v, vs[i]? = some v ∧ Rep K F H d v
  | [], _, _, _, _, e => by simp at e
  | x :: ds, vs, 0, d, h, e => by
    simp only [Reps] at h
    obtain ⟨v, r, rfl, h1, _⟩ := h
    simp at e; subst e
    exact ⟨v, rfl, h1⟩
  | x :: ds, vs, i + 1, d, h, e => by
    simp only [Reps] at h
    obtain ⟨v, r, rfl, _, h2⟩ := h
    obtain ⟨u, e1, e2⟩ := Reps.get (i := i) h2 (by simpa using e)
    exact ⟨u, by simpa using e1, e2⟩
theorem Reps.getV : ∀ {ds : List D} {vs : List V} {i : Nat} {v : V}, Reps K F H ds vs → vs[i]? = some v → ∃ d, ds[i]? = some d ∧ Rep K F H d v
  | [], vs, i, v, h, e => by simp only [Reps] at h; subst h; simp at e
  | x :: ds, vs, 0, v, h, e => by
    simp only [Reps] at h
    obtain ⟨v', r, rfl, h1, _⟩ := h
    simp at e; subst e
    exact ⟨x, rfl, h1⟩
  | x :: ds, vs, i + 1, v, h, e => by
    simp only [Reps] at h
    obtain ⟨v', r, rfl, _, h2⟩ := h
    obtain ⟨u, e1, e2⟩ := Reps.getV (i := i) h2 (by simpa using e)
    exact ⟨u, by simpa using e1, e2⟩
theorem Reps.append : ∀ {ds es : List D} {vs us : List V}, Reps K F H ds vs → Reps K F H es us → Reps K F H (ds ++ es) (vs ++ us)
  | [], _, _, _, h, h' => by simp only [Reps] at h; subst h; exact h'
  | d :: ds, es, vs, us, h, h' => by
    simp only [Reps] at h
    obtain ⟨v, r, rfl, h1, h2⟩ := h
    show Reps K F H (d :: (ds ++ es)) (v :: (r ++ us))
    simp only [Reps]
    exact ⟨v, _, rfl, h1, Reps.append h2 h'⟩
theorem Reps.drop : ∀ {ds : List D} {vs : List V} (n : Nat), Reps K F H ds vs → Reps K F H (ds.drop n) (vs.drop n)
  | _, _, 0, h => h
  | [], vs, n + 1, h => by simp only [Reps] at h; subst h; simp [Reps]
  | d :: ds, vs, n + 1, h => by
    simp only [Reps] at h
    obtain ⟨v, r, rfl, h1, h2⟩ := h
    exact Reps.drop n h2
theorem Reps.take : ∀ {ds : List D} {vs : List V} (n : Nat), Reps K F H ds vs → Reps K F H (ds.take n) (vs.take n)
  | _, _, 0, h => by simp [Reps]
  | [], vs, n + 1, h => by simp only [Reps] at h; subst h; simp [Reps]
  | d :: ds, vs, n + 1, h => by
    simp only [Reps] at h
    obtain ⟨v, r, rfl, h1, h2⟩ := h
    simp only [List.take_succ_cons, Reps]
    exact ⟨v, _, rfl, h1, Reps.take n h2⟩
theorem Reps.set {d : D} {v : V} (hd : Rep K F H d v) : ∀ {ds : List D} {vs : List V} (i : Nat), Reps K F H ds vs → Reps K F H (ds.set i d) (vs.set i v)
  | [], vs, i, h => by simp only [Reps] at h; subst h; simp [Reps]
  | e :: ds, vs, 0, h => by
    simp only [Reps] at h
    obtain ⟨u, r, rfl, h1, h2⟩ := h
    simp only [List.set_cons_zero, Reps]
    exact ⟨v, _, rfl, hd, h2⟩
  | e :: ds, vs, i + 1, h => by
    simp only [Reps] at h
    obtain ⟨u, r, rfl, h1, h2⟩ := h
    simp only [List.set_cons_succ, Reps]
    exact ⟨u, _, rfl, h1, Reps.set hd i h2⟩
theorem Reps.one {d : D} {v : V} (hd : Rep K F H d v) : Reps K F H [d] [v] := by simp only [Reps]; exact ⟨v, [], rfl, hd, rfl⟩
theorem Reps.nil : Reps K F H [] [] := by simp only [Reps]
theorem Reps.cons {d : D} {v : V} {ds : List D} {vs : List V} (hd : Rep K F H d v) (h : Reps K F H ds vs) : Reps K F H (d :: ds) (v :: vs) := by simp only [Reps]; exact ⟨v, vs, rfl, hd, h⟩
theorem Reps.reverse {ds : List D} {vs : List V} (h : Reps K F H ds vs) : Reps K F H ds.reverse vs.reverse := by
  induction ds generalizing vs with
  | nil => simp only [Reps] at h; subst h; exact .nil
  | cons d ds ih =>
    simp only [Reps] at h
    obtain ⟨v, r, rfl, h1, h2⟩ := h
    rw [List.reverse_cons, List.reverse_cons]
    exact (ih h2).append (.one h1)
theorem Reps.rep {ds : List D} {vs : List V} (h : Reps K F H ds vs) : ∀ k : Nat, Reps K F H (List.replicate k ds).flatten (List.replicate k vs).flatten
  | 0 => .nil
  | k + 1 => by
    rw [List.replicate_succ, List.replicate_succ, List.flatten_cons, List.flatten_cons]
    exact h.append (Reps.rep h k)
end

/-- the heap grows: what was tracked stays; what is frozen more is new -/
structure Ext (F : Addr → Prop) (H : Hp) (F' : Addr → Prop) (H' : Hp) : Prop where
  sub : ∀ a, F a → F' a
  same : Same H H'
  new : ∀ a, F' a → F a ∨ H a = none
  dom : ∀ a, F' a → ∃ o, H' a = some o
def Dom (F : Addr → Prop) (H : Hp) : Prop := ∀ a, F a → ∃ o, H a = some o
section
variable {K : Frag} {F F1 F2 : Addr → Prop} {H H1 H2 : Hp}
theorem Ext.refl (d : Dom F H) : Ext F H F H := ⟨fun _ h => h, Same.refl _, fun _ h => .inl h, d⟩
theorem Ext.trans (a : Ext F H F1 H1) (b : Ext F1 H1 F2 H2) : Ext F H F2 H2 :=
  ⟨fun x h => b.sub x (a.sub x h), a.same.trans b.same, fun x h => (b.new x h).elim (a.new x) fun n => .inr (a.same.free n), b.dom⟩
theorem Ext.keep (a : Ext F H F1 H1) (d : Dom F H) : Keep F F1 H H1 := fun x h => by
  obtain ⟨o, e⟩ := d x h
  exact ⟨a.sub x h, (a.same x o e).trans e.symm⟩
/-- a new object that is frozen -/
theorem Ext.newF {p : Addr} {o : HO} (d : Dom F H) (h : H p = none) : Ext F H (fun a => F a ∨ a = p) (upd H p o) :=
  ⟨fun _ h => .inl h, fun b u e => by rw [upd_ne (ne_of_none e h)]; exact e, fun a q => q.imp id fun (e : a = p) => by rw [e]; exact h, fun a q => by
    rcases q with q | rfl
    · obtain ⟨u, e⟩ := d a q
      exact ⟨u, by rw [upd_ne (ne_of_none e h)]; exact e⟩
    · exact ⟨o, upd_same⟩⟩
/-- a new object that is not -/
theorem Ext.newO {p : Addr} {o : HO} (d : Dom F H) (h : H p = none) : Ext F H F (upd H p o) :=
  ⟨fun _ h => h, fun b u e => by rw [upd_ne (ne_of_none e h)]; exact e, fun a q => .inl q, fun a q => by
    obtain ⟨u, e⟩ := d a q
    exact ⟨u, by rw [upd_ne (ne_of_none e h)]; exact e⟩⟩
end

/-- a list that was just made -/
def New (K : Frag) (F : Addr → Prop) (H0 H : Hp) (v : V) (ds : List D) : Prop := ∃ l vs, v = .ref l ∧ ¬F l ∧ H0 l = none ∧ H l = some (.lst vs) ∧ Reps K F H ds vs
/-- data, or a list of data whoever has it -/
def RepB (K : Frag) (F : Addr → Prop) (H : Hp) (d : D) (v : V) : Prop := Rep K F H d v ∨ ∃ l vs ds, v = .ref l ∧ d = .lst ds ∧ H l = some (.lst vs) ∧ Reps K F H ds vs
inductive Md where | val | bor | fre
def Rs (m : Md) (K : Frag) (F : Addr → Prop) (H0 H : Hp) (d : D) (v : V) : Prop := match m with
  | .val => Rep K F H d v
  | .bor => RepB K F H d v
  | .fre => match d with
    | .lst ds => New K F H0 H v ds
    | d => Rep K F H d v
section
variable {K : Frag} {F F1 : Addr → Prop} {H0 H H1 : Hp} {d : D} {v : V} {m : Md}
theorem RepB.ext (h : RepB K F H d v) (e : Ext F H F1 H1) (dm : Dom F H) : RepB K F1 H1 d v := by
  rcases h with h | ⟨l, vs, ds, e1, e2, e3, e4⟩
  · exact .inl (h.mono (e.keep dm))
  · exact .inr ⟨l, vs, ds, e1, e2, e.same _ _ e3, e4.mono (e.keep dm)⟩
theorem Rs.bor (h : Rs m K F H0 H d v) : RepB K F H d v := by
  cases m with
  | val => exact .inl h
  | bor => exact h
  | fre =>
    cases d with
    | lst ds => obtain ⟨l, vs, e1, _, _, e3, e4⟩ := h; exact .inr ⟨l, vs, ds, e1, rfl, e3, e4⟩
    | _ => exact .inl h
/-- as data: a new list is frozen -/
theorem Rs.val (h : Rs m K F H0 H d v) (hm : m ≠ .bor) (dm : Dom F H) : ∃ F', (∀ a, F a → F' a) ∧ (∀ a, F' a → F a ∨ H0 a = none) ∧ Dom F' H ∧ Rep K F' H d v := by
  have triv : Rep K F H d v → ∃ F', (∀ a, F a → F' a) ∧ (∀ a, F' a → F a ∨ H0 a = none) ∧ Dom F' H ∧ Rep K F' H d v := fun h => ⟨F, fun _ h => h, fun _ h => .inl h, dm, h⟩
  cases m with
  | val => exact triv h
  | bor => exact absurd rfl hm
  | fre =>
    cases d with
    | lst ds =>
      obtain ⟨l, vs, e1, e2, e0, e3, e4⟩ := h
      refine ⟨fun a => F a ∨ a = l, fun _ h => .inl h, fun a q => q.imp id fun (e : a = l) => by rw [e]; exact e0, fun a q => q.elim (dm a) fun (e : a = l) => ⟨.lst vs, by rw [e]; exact e3⟩, ?_⟩
      simp only [Rep]
      exact ⟨l, vs, e1, .inl ⟨.inr rfl, .inl e3⟩, e4.mono fun a q => ⟨.inl q, rfl⟩⟩
    | _ => exact triv h
theorem Rs.base {H0' : Hp} (h : Rs m K F H0 H d v) (s : Same H0' H0) : Rs m K F H0' H d v := by
  cases m with
  | val => exact h
  | bor => exact h
  | fre =>
    cases d with
    | lst ds => obtain ⟨l, vs, e1, e2, e0, e3, e4⟩ := h; exact ⟨l, vs, e1, e2, s.free e0, e3, e4⟩
    | _ => exact h
end

/-! ### a frame's names. B: the heap at the def's entry, all of it stays -/
/-- the heap at the entry; what an own list's address must be; what was frozen at the entry -/
structure Bs where
  hp : Hp
  o : Addr → Prop
  f : Addr → Prop
structure SR (K : Frag) (B : Bs) (F : Addr → Prop) (H : Hp) (σ : L2.St) (ρ : Rho) : Prop where
  dom : Dom F H
  base : Same B.hp H
  fnew : ∀ a, F a → B.f a ∨ B.hp a = none
  len : ρ.length = σ.length
  dat : ∀ (i : Nat) (d : D), ρ[i]? = some (.dat d) → ∃ v, σ[i]? = some (some v) ∧ Rep K F H d v
  own : ∀ (i : Nat) (ds : List D), ρ[i]? = some (.own ds) → ∃ l vs, σ[i]? = some (some (.ref l)) ∧ ¬F l ∧ (B.hp l = none ∧ B.o l) ∧ H l = some (.lst vs) ∧ Reps K F H ds vs
  one : ∀ (i j : Nat) (ds es : List D) (l : Addr), i ≠ j → ρ[i]? = some (.own ds) → ρ[j]? = some (.own es) → σ[i]? = some (some (.ref l)) → σ[j]? ≠ some (some (.ref l))
section
variable {K : Frag} {B : Bs} {F F1 : Addr → Prop} {H H1 : Hp} {σ : L2.St} {ρ : Rho}
theorem SR.ext (r : SR K B F H σ ρ) (e : Ext F H F1 H1) : SR K B F1 H1 σ ρ where
  dom := e.dom
  base := r.base.trans e.same
  fnew := fun a q => (e.new a q).elim (r.fnew a) fun z => .inr (r.base.free z)
  len := r.len
  dat := fun i d h => let ⟨v, h1, h2⟩ := r.dat i d h; ⟨v, h1, h2.mono (e.keep r.dom)⟩
  own := fun i ds h => by
    obtain ⟨l, vs, h1, h2, hb, h3, h4⟩ := r.own i ds h
    refine ⟨l, vs, h1, fun z => ?_, hb, e.same _ _ h3, h4.mono (e.keep r.dom)⟩
    rcases e.new l z with z | z
    · exact h2 z
    · rw [h3] at z; cases z
  one := r.one
end

/-! ### what is wanted -/
/-- an exception of the class number c, in the abstract heap -/
def ExcV (_ : Frag) (_ : Hp) (_ : Value) (_ : Nat) : Prop := False
def XW (X : Cx) (H : Hp) (c : Nat) : Prop := ∀ (pins : List (Addr × Obj)) (σ' : L2.St) (H' : Hp) (s' : Shared) (e : Value), Inv X pins σ' H' s' → Same H H' → ExcV X.K H' e c → X.xe e s'
theorem XW.mono {X : Cx} {H H' : Hp} {c : Nat} (h : XW X H c) (s : Same H H') : XW X H' c := fun p σ H2 s' e I q => h p σ H2 s' e I (s.trans q)
def Ok {α : Type} (W : Nat → Prop) (r : R α) (Q : α → Prop) : Prop := match r with
  | .ok d => Q d
  | .err c => W c
  | .stk => False
def Post (m : Md) (K : Frag) (F : Addr → Prop) (H : Hp) (Q : VK) (d : D) : Prop := ∀ v F' H', Ext F H F' H' → Rs m K F' H H' d v → Q v H'
def tE (X : Cx) (B : Bs) (m : Md) (f : Rho → R D) : TE := fun σ H Q => ∃ F ρ, SR X.K B F H σ ρ ∧ Ok (XW X H) (f ρ) (Post m X.K F H Q)
def tT (X : Cx) (B : Bs) (f : Rho → R Bool) : TT := fun σ H Q => ∃ F ρ, SR X.K B F H σ ρ ∧ Ok (XW X H) (f ρ) fun b => ∀ F' H', Ext F H F' H' → Q b H'
theorem Ok.bind {α β : Type} {W : Nat → Prop} {r : R α} {f : α → R β} {Q : β → Prop} (h : Ok W (r.bind f) Q) : Ok W r fun a => Ok W (f a) Q := by
  cases r with
  | ok a => exact h
  | err c => exact h
  | stk => exact h
theorem Ok.imp {α : Type} {W W' : Nat → Prop} {r : R α} {Q Q' : α → Prop} (h : Ok W r Q) (w : ∀ c, W c → W' c) (k : ∀ a, Q a → Q' a) : Ok W' r Q' := by
  cases r with
  | ok a => exact k a h
  | err c => exact w c h
  | stk => exact h
theorem Post.ext {m : Md} {K : Frag} {F F1 : Addr → Prop} {H H1 : Hp} {Q : VK} {d : D} (h : Post m K F H Q d) (e : Ext F H F1 H1) : Post m K F1 H1 Q d :=
  fun v F' H' e' r => h v F' H' (e.trans e') (r.base e.same)
theorem PE.imp {X : Cx} {e : Expr} {t t' : TE} (h : PE X e t) (k : ∀ σ H Q, t' σ H Q → t σ H Q) : PE X e t' := fun pins s σ H Q I q => h pins s σ H Q I (k σ H Q q)
theorem PT.imp {X : Cx} {e : Expr} {t t' : TT} (h : PT X e t) (k : ∀ σ H Q, t' σ H Q → t σ H Q) : PT X e t' := fun pins s σ H Q I q => h pins s σ H Q I (k σ H Q q)

/-! ### the frame's names change -/
section
variable {K : Frag} {B : Bs} {F : Addr → Prop} {H : Hp} {σ : L2.St} {ρ : Rho}
theorem SR.put (r : SR K B F H σ ρ) {i : Nat} {d : D} {v : V} (h : Rep K F H d v) : SR K B F H (σ.set i (some v)) (ρ.set i (.dat d)) where
  dom := r.dom
  base := r.base
  fnew := r.fnew
  len := by simp [r.len]
  dat := fun j e hj => by
    rw [List.getElem?_set] at hj ⊢
    by_cases hij : i = j
    · subst hij
      rw [if_pos rfl] at hj ⊢
      rw [← r.len]
      split at hj
      · rename_i hl
        cases hj
        exact ⟨v, by rw [if_pos hl], h⟩
      · cases hj
    · rw [if_neg hij] at hj ⊢
      exact r.dat j e hj
  own := fun j ds hj => by
    rw [List.getElem?_set] at hj ⊢
    by_cases hij : i = j
    · subst hij
      rw [if_pos rfl] at hj
      split at hj <;> cases hj
    · rw [if_neg hij] at hj ⊢
      exact r.own j ds hj
  one := fun j k ds es l hjk hj hk => by
    rw [List.getElem?_set] at hj hk
    rw [List.getElem?_set, List.getElem?_set]
    by_cases h1 : i = j
    · rw [if_pos h1] at hj; split at hj <;> cases hj
    · by_cases h2 : i = k
      · rw [if_pos h2] at hk; split at hk <;> cases hk
      · rw [if_neg h1] at hj ⊢; rw [if_neg h2] at hk ⊢
        exact r.one j k ds es l hjk hj hk
/-- a list that the name alone has -/
theorem SR.putOwn (r : SR K B F H σ ρ) {i : Nat} {ds : List D} {l : Addr} {vs : List V} (hl : ¬F l) (hb : B.hp l = none ∧ B.o l) (e : H l = some (.lst vs)) (h : Reps K F H ds vs)
    (hne : ∀ (j : Nat) es, j ≠ i → ρ[j]? = some (.own es) → σ[j]? ≠ some (some (.ref l))) : SR K B F H (σ.set i (some (.ref l))) (ρ.set i (.own ds)) where
  dom := r.dom
  base := r.base
  fnew := r.fnew
  len := by simp [r.len]
  dat := fun j e hj => by
    rw [List.getElem?_set] at hj ⊢
    by_cases hij : i = j
    · subst hij
      rw [if_pos rfl] at hj
      split at hj <;> cases hj
    · rw [if_neg hij] at hj ⊢
      exact r.dat j e hj
  own := fun j es hj => by
    rw [List.getElem?_set] at hj ⊢
    by_cases hij : i = j
    · subst hij
      rw [if_pos rfl] at hj ⊢
      rw [← r.len]
      split at hj
      · rename_i hl'
        cases hj
        exact ⟨l, vs, by rw [if_pos hl'], hl, hb, e, h⟩
      · cases hj
    · rw [if_neg hij] at hj ⊢
      exact r.own j es hj
  one := fun j k es fs m hjk hj hk => by
    rw [List.getElem?_set] at hj hk
    rw [List.getElem?_set, List.getElem?_set]
    by_cases h1 : i = j
    · subst h1
      rw [if_neg hjk] at hk ⊢
      rw [if_pos rfl]
      intro q
      split at q
      · cases q
        exact hne k fs (Ne.symm hjk) hk
      · cases q
    · by_cases h2 : i = k
      · subst h2
        rw [if_neg h1] at hj ⊢
        rw [if_pos rfl]
        intro q z
        split at z
        · cases z
          exact hne j es (Ne.symm h1) hj q
        · cases z
      · rw [if_neg h1] at hj ⊢; rw [if_neg h2] at hk ⊢
        exact r.one j k es fs m hjk hj hk
/-- a list that a name alone had is frozen -/
theorem SR.frz (r : SR K B F H σ ρ) {i : Nat} {ds : List D} (h : ρ[i]? = some (.own ds)) : ∃ F', Keep F F' H H ∧ SR K B F' H σ (ρ.set i (.dat (.lst ds))) := by
  obtain ⟨l, vs, h1, h2, hb, h3, h4⟩ := r.own i ds h
  have kp : Keep F (fun a => F a ∨ a = l) H H := fun a q => ⟨.inl q, rfl⟩
  have dm : Dom (fun a => F a ∨ a = l) H := fun a q => q.elim (r.dom a) fun (e : a = l) => ⟨.lst vs, by rw [e]; exact h3⟩
  have hi : i < ρ.length := (List.getElem?_eq_some_iff.mp h).1
  have rp : Rep K (fun a => F a ∨ a = l) H (.lst ds) (.ref l) := by
    simp only [Rep]
    exact ⟨l, vs, rfl, .inl ⟨.inr rfl, .inl h3⟩, h4.mono kp⟩
  refine ⟨_, kp, dm, r.base, (fun a q => q.elim (r.fnew a) fun e => .inr (by rw [e]; exact hb.1)), by simp [r.len], fun j d hj => ?_, fun j es hj => ?_, fun j k es fs m hjk hj hk => ?_⟩
  · rw [List.getElem?_set] at hj
    by_cases hij : i = j
    · subst hij
      rw [if_pos rfl, if_pos hi] at hj
      cases hj
      exact ⟨_, h1, rp⟩
    · rw [if_neg hij] at hj
      obtain ⟨v, e1, e2⟩ := r.dat j d hj
      exact ⟨v, e1, e2.mono kp⟩
  · rw [List.getElem?_set] at hj
    by_cases hij : i = j
    · subst hij
      rw [if_pos rfl, if_pos hi] at hj
      cases hj
    · rw [if_neg hij] at hj
      obtain ⟨l', vs', e1, e2, eb, e3, e4⟩ := r.own j es hj
      refine ⟨l', vs', e1, fun z => z.elim e2 fun z => ?_, eb, e3, e4.mono kp⟩
      subst z
      exact r.one i j ds es l' hij h hj h1 e1
  · rw [List.getElem?_set] at hj hk
    by_cases h1 : i = j
    · subst h1; rw [if_pos rfl, if_pos hi] at hj; cases hj
    · by_cases h2 : i = k
      · subst h2; rw [if_pos rfl, if_pos hi] at hk; cases hk
      · rw [if_neg h1] at hj; rw [if_neg h2] at hk
        exact r.one j k es fs m hjk hj hk
/-- a list that a name alone has is written -/
theorem SR.wr (r : SR K B F H σ ρ) {i : Nat} {ds es : List D} {l : Addr} {us : List V} (h : ρ[i]? = some (.own ds)) (hi : σ[i]? = some (some (.ref l))) (q : Reps K F H es us) :
    Keep F F H (upd H l (.lst us)) ∧ SR K B F (upd H l (.lst us)) σ (ρ.set i (.own es)) := by
  obtain ⟨l', vs, h1, h2, hb, h3, h4⟩ := r.own i ds h
  rw [hi] at h1
  cases h1
  have kp : Keep F F H (upd H l (.lst us)) := fun a q => ⟨q, upd_ne fun z => h2 (z ▸ q)⟩
  have hlt : i < ρ.length := (List.getElem?_eq_some_iff.mp h).1
  refine ⟨kp, fun a q => ?_, fun b o e => ?_, r.fnew, by simp [r.len], fun j d hj => ?_, fun j fs hj => ?_, fun j k es' fs m hjk hj hk => ?_⟩
  · obtain ⟨o, e⟩ := r.dom a q
    exact ⟨o, (kp a q).2.trans e⟩
  · rw [upd_ne (ne_of_none e hb.1)]; exact r.base b o e
  · rw [List.getElem?_set] at hj
    by_cases hij : i = j
    · subst hij
      rw [if_pos rfl, if_pos hlt] at hj
      cases hj
    · rw [if_neg hij] at hj
      obtain ⟨v, e1, e2⟩ := r.dat j d hj
      exact ⟨v, e1, e2.mono kp⟩
  · rw [List.getElem?_set] at hj
    by_cases hij : i = j
    · subst hij
      rw [if_pos rfl, if_pos hlt] at hj
      cases hj
      exact ⟨l, us, hi, h2, hb, upd_same, q.mono kp⟩
    · rw [if_neg hij] at hj
      obtain ⟨l', vs', e1, e2, eb, e3, e4⟩ := r.own j fs hj
      refine ⟨l', vs', e1, e2, eb, ?_, e4.mono kp⟩
      rw [upd_ne fun z => ?_]
      · exact e3
      · subst z
        exact r.one i j ds fs l' hij h hj hi e1
  · have back : ∀ {j : Nat} {es' : List D}, (ρ.set i (.own es))[j]? = some (.own es') → ∃ es2, ρ[j]? = some (.own es2) := fun {j es'} hj => by
      rw [List.getElem?_set] at hj
      by_cases hij : i = j
      · subst hij; exact ⟨ds, h⟩
      · rw [if_neg hij] at hj; exact ⟨_, hj⟩
    obtain ⟨_, hj'⟩ := back hj
    obtain ⟨_, hk'⟩ := back hk
    exact r.one j k _ _ m hjk hj' hk'
/-- an object that is neither frozen nor a name's is written -/
theorem SR.oth (r : SR K B F H σ ρ) {p : Addr} {o : HO} (h1 : ¬F p) (h2 : B.hp p = none) (h3 : ¬B.o p) : Keep F F H (upd H p o) ∧ SR K B F (upd H p o) σ ρ := by
  have kp : Keep F F H (upd H p o) := fun a q => ⟨q, upd_ne fun z => h1 (z ▸ q)⟩
  refine ⟨kp, fun a q => ?_, fun b u e => ?_, r.fnew, r.len, fun j d hj => ?_, fun j fs hj => ?_, r.one⟩
  · obtain ⟨u, e⟩ := r.dom a q
    exact ⟨u, (kp a q).2.trans e⟩
  · rw [upd_ne (ne_of_none e h2)]; exact r.base b u e
  · obtain ⟨v, e1, e2⟩ := r.dat j d hj
    exact ⟨v, e1, e2.mono kp⟩
  · obtain ⟨l', vs', e1, e2, eb, e3, e4⟩ := r.own j fs hj
    refine ⟨l', vs', e1, e2, eb, ?_, e4.mono kp⟩
    have hne : l' ≠ p := fun z => h3 (by rw [← z]; exact eb.2)
    rw [upd_ne hne]
    exact e3
/-- fewer names -/
theorem SR.weak (r : SR K B F H σ ρ) {ρ' : Rho} (hl : ρ'.length = ρ.length) (hd : ∀ (i : Nat) d, ρ'[i]? = some (.dat d) → ρ[i]? = some (.dat d)) (ho : ∀ (i : Nat) ds, ρ'[i]? = some (.own ds) → ρ[i]? = some (.own ds)) : SR K B F H σ ρ' :=
  ⟨r.dom, r.base, r.fnew, hl.trans r.len, fun i d h => r.dat i d (hd i d h), fun i ds h => r.own i ds (ho i ds h), fun i j ds es l hij h1 h2 => r.one i j ds es l hij (ho i ds h1) (ho j es h2)⟩
end
end DI

namespace DI
open PySem PySem.Spec PyProof.Rows L2

/-! ### targets -/
inductive TgsOk (X : Cx) : List Expr → List Nat → Prop where
  | nil : TgsOk X [] []
  | cons {x : Str} {pos : Pos} {i : Nat} {es : List Expr} {is : List Nat} : X.N[i]? = some x → Loc X.env.scope x → (X.fn x = true ∨ X.env.scope.names.lookup x = some .local) → TgsOk X es is → TgsOk X (.Name x pos :: es) (i :: is)
inductive TgOk (X : Cx) : Expr → List Nat → Bool → Prop where
  | one {x : Str} {pos : Pos} {i : Nat} : X.N[i]? = some x → Loc X.env.scope x → (X.fn x = true ∨ X.env.scope.names.lookup x = some .local) → TgOk X (.Name x pos) [i] true
  | many {es : List Expr} {k : Nat} {pos : Pos} {is : List Nat} : TgsOk X es is → TgOk X (.Tuple es k pos) is false
def gNs : List Nat → TGs
  | [] => gNil
  | i :: is => gCons (gName i) (gNs is)
def setN (is : List Nat) (vs : List V) (σ : L2.St) : L2.St := (is.zip vs).foldl (fun r p => r.set p.1 (some p.2)) σ
theorem gNs_of : ∀ {is : List Nat} {vs : List V} {σ : L2.St} {H : Hp} {Q : L2.St → Hp → Prop}, is.length = vs.length → Q (setN is vs σ) H → gNs is vs σ H Q
  | [], [], _, _, _, _, q => ⟨rfl, q⟩
  | [], _ :: _, _, _, _, e, _ => by simp at e
  | _ :: _, [], _, _, _, e, _ => by simp at e
  | i :: is, v :: vs, σ, H, Q, e, q => ⟨v, vs, rfl, gNs_of (is := is) (vs := vs) (σ := σ.set i (some v)) (H := H) (Q := Q) (by simpa using e) q⟩
theorem TgsOk.pgs {X : Cx} (nd : X.N.Nodup) {es : List Expr} {is : List Nat} (h : TgsOk X es is) : PGs X es (gNs is) := by
  induction h with
  | nil => exact pgs_nil
  | cons h1 h2 h3 _ ih => exact pgs_cons (pg_name nd h1 h2 h3) ih
theorem TgsOk.lens {X : Cx} {es : List Expr} {is : List Nat} (h : TgsOk X es is) : (assignEach es X.env).length = is.length ∧ (assignEach es X.env).findIdx? (·.1) = none := by
  induction h with
  | nil => exact ⟨rfl, rfl⟩
  | @cons x pos i es is _ _ _ _ ih =>
    have e : assignEach (Expr.Name x pos :: es) X.env = (false, assign (.Name x pos) X.env) :: assignEach es X.env := rfl
    rw [e]
    refine ⟨by simp [ih.1], ?_⟩
    rw [List.findIdx?_cons]
    simp [ih.2]
section
variable {K : Frag} {B : Bs} {F : Addr → Prop} {H : Hp}
theorem SR.putN : ∀ {is : List Nat} {ds : List D} {vs : List V} {σ : L2.St} {ρ : Rho}, SR K B F H σ ρ → Reps K F H ds vs →
    SR K B F H (setN is vs σ) ((is.zip ds).foldl (fun r p => r.set p.1 (.dat p.2)) ρ)
  | [], _, _, _, _, r, _ => by simpa [setN] using r
  | _ :: _, [], vs, _, _, r, h => by
    simp only [Reps] at h
    subst h
    simpa [setN] using r
  | i :: is, d :: ds, vs, σ, ρ, r, h => by
    simp only [Reps] at h
    obtain ⟨v, us, rfl, h1, h2⟩ := h
    simp only [setN, List.zip_cons_cons, List.foldl_cons]
    exact SR.putN (is := is) (r.put h1) h2
end
/-- a value is given to a target -/
theorem asgT {X : Cx} {tg : Expr} {tgs : List Nat} {one : Bool} (hc : X.calm = true) (nd : X.N.Nodup) (T : TgOk X tg tgs one) {pins : List (Addr × Obj)} {s : Shared} {σ : L2.St} {ρ ρ' : Rho} {B : Bs} {F : Addr → Prop} {H : Hp} {d : D} {v : V} {u : Value}
    (I : Inv X pins σ H s) (r : SR X.K B F H σ ρ) (rp : Rep X.K F H d v) (rv : RelV v u) (hp : putT tgs one d ρ = .ok ρ') :
    wpAny (model X.prog X.w) X.A (assign tg X.env u) (fun _ s' => ∃ σ', Inv X pins σ' H s' ∧ SR X.K B F H σ' ρ') X.xe s := by
  cases T with
  | one h1 h2 h3 =>
    simp only [putT] at hp
    cases hp
    refine thn (pg_name nd h1 h2 h3 pins s σ H v u (fun σ' H' => SR X.K B F H σ' _ ∧ H' = H) I rv ⟨r.put rp, rfl⟩) fun _ s' ⟨σ', H', I', q, e⟩ => ?_
    subst e
    exact ⟨σ', I', q⟩
  | many h =>
    cases d with
    | tup ds =>
      simp only [putT] at hp
      split at hp
      · rename_i hl
        cases hp
        simp only [Rep] at rp
        obtain ⟨a, vs, rfl, ft, rs⟩ := rp
        have hvl : vs.length = tgs.length := by rw [hl, rs.length]
        refine thn (pg_tup (n := tgs.length) hc (h.pgs nd) h.lens.1 h.lens.2 pins s σ H (.ref a) u (fun σ' H' => SR X.K B F H σ' _ ∧ H' = H) I rv ⟨a, vs, rfl, ft.sq, hvl, gNs_of hvl.symm ⟨r.putN rs, rfl⟩⟩) fun _ s' ⟨σ', H', I', q, e⟩ => ?_
        subst e
        exact ⟨σ', I', q⟩
      · cases hp
    | _ => simp only [putT] at hp <;> cases hp

/-! ### what is walked: xs, in every heap that is good -/
structure Wk (P : Program) (w : World) (K : Frag) (tg : Expr) (G : (Addr → Prop) → Hp → Prop) (xs : List D) (fp : List Addr) (it : Addr) (tn : Nat → Heap → Prop) : Prop where
  mem : it ∈ fp
  len : xs.length ≤ sizeLine
  obj : ∀ i h, tn i h → ∀ b ∈ fp, ∃ o, h.get? b = some o ∧ ∀ v, o.data ≠ .cell v
  keep : ∀ i h h', tn i h → (∀ b ∈ fp, ∀ o, h.get? b = some o → h'.get? b = some o) → tn i h'
  self : ∀ (A : Around) (i : Nat) (s : Shared) (Q : Value → Shared → Prop) (E : Value → Shared → Prop), tn i s.heap → Q (.ref it) s → wpAny (model P w) A (pyIter (.ref it)) Q E s
  take : ∀ (X : Cx), X.prog = P → X.w = w → X.K = K → X.calm = true → X.N.Nodup → ∀ tgs one, TgOk X tg tgs one →
    ∀ (i : Nat) (pins : List (Addr × Obj)) (s : Shared) (σ : L2.St) (ρ ρ' : Rho) (B : Bs) (F : Addr → Prop) (H : Hp) (x : D), Inv X pins σ H s → SR K B F H σ ρ → G F H → (∀ b ∈ fp, FpOk X pins H b) → tn i s.heap → xs[i]? = some x → putT tgs one x ρ = .ok ρ' →
    wpAny (model P w) X.A (pyNext (.ref it)) (fun r s1 => ∃ u, r = some u ∧ wpAny (model P w) X.A (letOwnedTupleGo tg (.ref it) u) (fun _ s2 => wpAny (model P w) X.A (assign tg X.env u)
      (fun _ s3 => ∃ σ3 F3 H3, Inv X pins σ3 H3 s3 ∧ SR K B F3 H3 σ3 ρ' ∧ Ext F H F3 H3 ∧ tn (i + 1) s3.heap ∧ ∀ b ∈ fp, H3 b = none) X.xe s2) X.xe s1) X.xe s
  done : ∀ (X : Cx), X.prog = P → X.w = w → X.K = K → X.calm = true → ∀ (pins : List (Addr × Obj)) (s : Shared) (σ : L2.St) (F : Addr → Prop) (H : Hp), Inv X pins σ H s → Dom F H → G F H → (∀ b ∈ fp, FpOk X pins H b) → tn xs.length s.heap →
    wpAny (model P w) X.A (pyNext (.ref it)) (fun r s1 => r = none ∧ Inv X pins σ H s1) X.xe s
theorem Wk.of_turn {P : Program} {w : World} {K : Frag} {tg : Expr} {G : (Addr → Prop) → Hp → Prop} {xs : List D} {fp : List Addr} {it : Addr} {tn : Nat → Heap → Prop} {J : L2.It} (T : Turn P w K tg J fp it tn)
    (go : ∀ (i : Nat) (x : D) (F : Addr → Prop) (H : Hp), xs[i]? = some x → G F H → Dom F H → J.go i H ∧ ∀ v H2, J.yld i H v H2 → ∃ F2, Ext F H F2 H2 ∧ Rep K F2 H2 x v)
    (stop : ∀ (F : Addr → Prop) (H : Hp), G F H → Dom F H → J.stop xs.length H) (len : xs.length ≤ sizeLine) : Wk P w K tg G xs fp it tn where
  mem := T.mem
  len := len
  obj := T.obj
  keep := T.keep
  self := T.self
  done := fun X h1 h2 h3 hc pins s σ F H I dm g fo st => T.done X h1 h2 h3 hc _ pins s σ H X.xe I fo st (stop F H g dm)
  take := by
    intro X h1 h2 h3 hc nd tgs one tk i pins s σ ρ ρ' B F H x I r g fo st hx hp
    obtain ⟨g1, g2⟩ := go i x F H hx g r.dom
    refine thn (T.item X h1 h2 h3 hc i pins s σ H X.xe I fo st g1) fun o s1 ⟨u, ho, h⟩ => ⟨u, ho, thn h fun _ s2 ⟨v, H2, I2, rv, y, st2, fr2⟩ => ?_⟩
    obtain ⟨F2, ex, rp⟩ := g2 v H2 y
    subst h1 h2 h3
    have fo2 : ∀ b ∈ fp, FpOk X pins H2 b := fun b hb => ⟨fr2 b hb, (fo b hb).2⟩
    have I2' := I2.pinned fo2 (T.obj _ _ st2)
    refine thn (asgT hc nd tk I2' (r.ext ex) rp rv hp) fun _ s3 ⟨σ3, I3, r3⟩ => ?_
    refine ⟨σ3, F2, H2, I3.unpinned, r3, ex, T.keep _ _ _ st2 fun b hb o e => (I3.pin (b, o) (List.mem_append_right _ (List.mem_append_right _ (mem_pinsAt hb e)))).1, fr2⟩

section
variable {K : Frag} {F F' : Addr → Prop} {H H' : Hp}
theorem Rd.same {a : Addr} {u : HO} (s : Same H H') (h : Rd H a u) : Rd H' a u := h.imp (s a _) fun ⟨o, e⟩ => ⟨o, s a _ e⟩
theorem SqL.same {a : Addr} {xs : List V} (s : Same H H') (h : SqL K H a xs) : SqL K H' a xs := h.imp (Rd.same s) id
theorem SqT.same {a : Addr} {xs : List V} (s : Same H H') (h : SqT K H a xs) : SqT K H' a xs := h.imp (Rd.same s) id
theorem FL.keep {a : Addr} {xs : List V} (k : Keep F F' H H') (h : FL K F H a xs) : FL K F' H' a xs := h.imp k.rd id
theorem FT.keep {a : Addr} {xs : List V} (k : Keep F F' H H') (h : FT K F H a xs) : FT K F' H' a xs := h.imp k.rd id
end

/-- over a list -/
theorem wk_list {P : Program} {w : World} {K : Frag} {tg : Expr} {G : (Addr → Prop) → Hp → Prop} {xs : List D} {vs : List V} (a it : Addr)
    (hG : ∀ F H, G F H → SqL K H a vs ∧ Reps K F H xs vs) (len : xs.length ≤ sizeLine) : Wk P w K tg G xs [it] it (fun i h => h.IsListIter it a i) :=
  Wk.of_turn (turn_list a it) (fun i x F H hx g dm => by
    obtain ⟨q, r⟩ := hG F H g
    obtain ⟨v, e, rp⟩ := r.get hx
    refine ⟨⟨vs, v, q, e⟩, fun u H2 y => ?_⟩
    obtain ⟨rfl, y⟩ := y
    have := y vs q
    rw [e] at this
    cases this
    exact ⟨F, Ext.refl dm, rp⟩) (fun F H g _ => by
    obtain ⟨q, r⟩ := hG F H g
    exact ⟨vs, q, by rw [r.length]; exact Nat.le_refl _⟩) len
theorem wk_tup {P : Program} {w : World} {K : Frag} {tg : Expr} {G : (Addr → Prop) → Hp → Prop} {xs : List D} {vs : List V} (a it : Addr)
    (hG : ∀ F H, G F H → SqT K H a vs ∧ Reps K F H xs vs) (len : xs.length ≤ sizeLine) : Wk P w K tg G xs [it] it (fun i h => h.IsTupleIter it a i) :=
  Wk.of_turn (turn_tuple a it) (fun i x F H hx g dm => by
    obtain ⟨q, r⟩ := hG F H g
    obtain ⟨v, e, rp⟩ := r.get hx
    refine ⟨⟨vs, v, q, e⟩, fun u H2 y => ?_⟩
    obtain ⟨rfl, y⟩ := y
    have := y vs q
    rw [e] at this
    cases this
    exact ⟨F, Ext.refl dm, rp⟩) (fun F H g _ => by
    obtain ⟨q, r⟩ := hG F H g
    exact ⟨vs, q, by rw [r.length]; exact Nat.le_refl _⟩) len
theorem wk_range {P : Program} {w : World} {K : Frag} {tg : Expr} {G : (Addr → Prop) → Hp → Prop} (it : Addr) (lo : Int) (n : Nat) (hn : n ≤ sizeLine) :
    Wk P w K tg G (rngD lo n) [it] it (fun i h => IsRangeIter h it (lo + (i : Nat) * 1) ((n : Int) - (i : Nat)) 1) :=
  Wk.of_turn (turn_range it lo n) (fun i x F H hx g dm => by
    unfold rngD at hx
    rw [List.getElem?_map] at hx
    cases e : (List.range n)[i]? with
    | none => rw [e] at hx; cases hx
    | some k =>
      rw [e] at hx
      obtain ⟨h1, h2⟩ := List.getElem?_eq_some_iff.mp e
      rw [List.length_range] at h1
      rw [List.getElem_range] at h2
      subst h2
      cases hx
      refine ⟨h1, fun u H2 y => ?_⟩
      obtain ⟨rfl, rfl⟩ := y
      exact ⟨F, Ext.refl dm, by simp only [Rep]⟩) (fun F H g _ => by
    show n ≤ (rngD lo n).length
    unfold rngD
    rw [List.length_map, List.length_range]
    exact Nat.le_refl _) (by unfold rngD; rw [List.length_map, List.length_range]; exact hn)
end DI

namespace DI
open PySem PySem.Spec PyProof.Rows L2

/-! ### a comprehension -/
def clGo (env : Env) : List (Str × NameKind) → List (Str × Addr) → List (Str × Addr)
  | [], cs => cs
  | (n, k) :: r, cs => clGo env r (if k == .free then (n, (env.cells.lookup n).getD 0) :: cs else cs)
theorem clos_go {env : Env} : ∀ (names : List (Str × NameKind)) (cs : List (Str × Addr)), (∀ x ∈ names, x.2 = .free → ∃ c, env.cells.lookup x.1 = some c) →
   (forIn names cs fun (x : Str × NameKind) (cs : List (Str × Addr)) => (match x with
      | (name, kind) => if (kind == NameKind.free) = true then (do let a ← cellOf env name; pure (ForInStep.yield ((name, a) :: cs))) else pure (ForInStep.yield cs) : Sem (ForInStep (List (Str × Addr))))) = (pure (clGo env names cs) : Sem _) := by
  intro names
  induction names with
  | nil => intro cs _; rfl
  | cons x r ih =>
    intro cs h
    obtain ⟨n, k⟩ := x
    rw [List.forIn_cons]
    have ih' := fun cs => ih cs fun x hx => h x (List.mem_cons_of_mem _ hx)
    by_cases hk : (k == NameKind.free) = true
    · obtain ⟨c, hc⟩ := h (n, k) List.mem_cons_self (by simpa using hk)
      have e1 : cellOf env n = pure c := by
        have hc : env.cells.lookup n = some c := hc
        unfold cellOf; rw [hc]
      simp only [hk, if_true, e1]
      have hc : env.cells.lookup n = some c := hc
      simp only [clGo, hk, if_true, hc, Option.getD_some]
      exact ih' _
    · simp only [hk, clGo]
      exact ih' _
theorem clos_of {scope : Scope} {env : Env} (h : ∀ x ∈ scope.names, x.2 = .free → ∃ c, env.cells.lookup x.1 = some c) : closureFor scope env = pure (clGo env scope.names []) := by
  have := clos_go scope.names [] h
  unfold closureFor
  simp only
  rw [this]
  rfl
theorem clGo_sub {env : Env} : ∀ (names : List (Str × NameKind)) (cs : List (Str × Addr)), (∀ x ∈ names, x.2 = .free → ∃ c, env.cells.lookup x.1 = some c) → (∀ n c, cs.lookup n = some c → env.cells.lookup n = some c) →
    ∀ n c, (clGo env names cs).lookup n = some c → env.cells.lookup n = some c
  | [], _, _, h2, n, c, e => h2 n c e
  | (y, k) :: r, cs, h1, h2, n, c, e => by
    refine clGo_sub r _ (fun x hx => h1 x (List.mem_cons_of_mem _ hx)) (fun m b q => ?_) n c e
    by_cases hk : (k == NameKind.free) = true
    · rw [if_pos hk] at q
      obtain ⟨b', hb⟩ := h1 (y, k) List.mem_cons_self (by simpa using hk)
      have hb : env.cells.lookup y = some b' := hb
      rw [hb, List.lookup_cons] at q
      by_cases e : m = y
      · subst e
        simp at q
        subst q
        exact hb
      · have : (m == y) = false := by simpa using e
        rw [this] at q
        exact h2 m b q
    · rw [if_neg hk] at q
      exact h2 m b q
theorem clGo_has {env : Env} : ∀ (names : List (Str × NameKind)) (cs : List (Str × Addr)) (n : Str), (∃ c, cs.lookup n = some c) ∨ (n, NameKind.free) ∈ names → ∃ c, (clGo env names cs).lookup n = some c
  | [], cs, n, h => h.elim id fun h => by simp at h
  | (y, k) :: r, cs, n, h => by
    refine clGo_has r _ n ?_
    have keep : (∃ c, cs.lookup n = some c) → ∃ c, (if k == NameKind.free then (y, (env.cells.lookup y).getD 0) :: cs else cs).lookup n = some c := fun ⟨c, e⟩ => by
      split
      · rw [List.lookup_cons]
        split
        · exact ⟨_, rfl⟩
        · exact ⟨c, e⟩
      · exact ⟨c, e⟩
    rcases h with h | h
    · exact .inl (keep h)
    · rcases List.mem_cons.mp h with h | h
      · cases h
        refine .inl ⟨(env.cells.lookup y).getD 0, ?_⟩
        rw [if_pos (by rfl), List.lookup_cons]
        simp
      · exact .inr h
theorem lookup_rel {c : Str → NameKind → Bool} {x : Str} : ∀ (names : List (Str × NameKind)), (names.map fun (p : Str × NameKind) => match p with | (n, k) => if c n k = true then (n, NameKind.cell) else (n, k)).lookup x = (names.lookup x).map fun k => if c x k = true then NameKind.cell else k
  | [] => rfl
  | (n, k) :: r => by
    rw [List.map_cons, List.lookup_cons]
    have ih := lookup_rel (c := c) (x := x) r
    by_cases e : x = n
    · subst e
      by_cases hc : c x k = true
      · simp [hc]
      · simp [hc]
    · have e' : (x == n) = false := by simpa using e
      by_cases hc : c n k = true
      · simp only [hc, if_true, List.lookup_cons, e']
        exact ih
      · simp only [hc, Bool.false_eq_true, if_false, List.lookup_cons, e']
        exact ih

/-- the block's context -/
def cxComp (X : Cx) (N : List Str) (scope : Scope) (s : Shared) (H : Hp) (fp : List Addr) : Cx :=
  { X with N := N, s₀ := s, H₀ := H, env := compEnvC scope (clGo X.env scope.names []) s.heap.objs.size X.env, outer := X.stack, ex := fp, fn := fun _ => false, pn := [], xe := fun _ _ => False }
/-- what the block's scope must be. cn: the names that it takes from around, at caps -/
structure CompOk (X : Cx) (scope : Scope) (N cn : List Str) (nt : Nat) (caps : List Nat) : Prop where
  kind : scope.kind = .function
  cell : ∀ y ∈ scope.names, y.2 ≠ .cell
  names : ∀ y ∈ scope.names, y.2 = .local → scope.names.lookup y.1 = some .local
  free : ∀ y ∈ scope.names, y.2 = .free → X.env.scope.names.lookup y.1 = some .cell ∨ X.env.scope.names.lookup y.1 = some .free
  nd : N.Nodup
  split : ∃ tn, N = tn ++ cn ∧ tn.length = nt
  clen : cn.length = caps.length
  at_ : ∀ (k j : Nat) (x : Str), cn[k]? = some x → caps[k]? = some j → X.N[j]? = some x ∧ scope.names.lookup x = some .free
section
variable {X : Cx} {scope : Scope} {N cn : List Str} {nt : Nat} {caps : List Nat} {pins : List (Addr × Obj)} {σ : L2.St} {H : Hp} {s : Shared} {fp : List Addr}
def sigC (nt : Nat) (caps : List Nat) (σ : L2.St) : L2.St := List.replicate nt none ++ caps.map fun j => (σ[j]?).getD none
theorem CompOk.cells (C : CompOk X scope N cn nt caps) (I : Inv X pins σ H s) : ∀ y ∈ scope.names, y.2 = .free → ∃ c, X.env.cells.lookup y.1 = some c := fun y hy e => I.ok.has y.1 (C.free y hy e)
theorem comp_ok (C : CompOk X scope N cn nt caps) (I : Inv X pins σ H s) (fo : ∀ b ∈ fp, FpOk X pins H b) (ft : ∀ b ∈ fp, b < s.heap.objs.size) : (cxComp X N scope s H fp).Ok where
  mod := I.ok.mod
  kind := C.kind
  glob := I.ok.glob
  blt := I.ok.blt
  above := Nat.le_refl _
  inj := fun x y c h1 h2 => I.ok.inj x y c (clGo_sub _ _ (C.cells I) (fun _ _ z => by simp at z) _ _ h1) (clGo_sub _ _ (C.cells I) (fun _ _ z => by simp at z) _ _ h2)
  has := fun x hx => by
    refine clGo_has _ _ x (.inr ?_)
    have hx' : (relabel scope X.env).names.lookup x = some .cell ∨ (relabel scope X.env).names.lookup x = some .free := hx
    unfold relabel at hx'
    simp only at hx'
    rw [lookup_rel (c := fun n k => k == .free && X.env.scope.kind == .function && X.env.kindOf n == some .cell)] at hx'
    cases e : scope.names.lookup x with
    | none => rw [e] at hx'; simp at hx'
    | some k =>
      have hm := PySem.mem_of_lookup e
      by_cases hk : k = .free
      · subst hk; exact hm
      · rw [e] at hx'
        have hk' : (k == NameKind.free) = false := by simpa using hk
        simp only [hk', Bool.false_and, Bool.false_eq_true, if_false, Option.map_some, Option.some.injEq] at hx'
        rcases hx' with hx' | hx'
        · exact absurd hx' (C.cell _ hm)
        · exact absurd hx' hk
  cab := fun _ _ h => by cases h
  hd := I.ok.hd
  frames := I.ok.frames
  stk := .inl rfl
  exf := fun b hb => ⟨Nat.ne_of_lt (ft b hb), fun x c h => (fo b hb).2.2.2.2.1 x c (clGo_sub _ _ (C.cells I) (fun _ _ z => by simp at z) _ _ h)⟩
  bs := I.bs
  bsz := Nat.le_trans I.ok.bsz I.sz
  noex := fun b o e hb => by
    rcases (fo b hb).2.2.2.1 with z | z
    · exact I.ok.noex b o e z
    · exact absurd (Nat.lt_of_lt_of_le (Heap.lt_size e) (Nat.le_trans I.ok.bsz z)) (Nat.lt_irrefl _)
  exfs := fun b hb hs => by
    rcases List.mem_cons.mp (I.stkSub b hs) with z | z
    · exact (fo b hb).2.1 z
    · exact (fo b hb).2.2.1 z
  funs := I.stack
  frf := I.stkFree
theorem comp_inv (C : CompOk X scope N cn nt caps) (I : Inv X pins σ H s) (fo : ∀ b ∈ fp, FpOk X pins H b) (ft : ∀ b ∈ fp, b < s.heap.objs.size) {h1 : Heap} {m0 : Str → Option Value} {tk : Nat} (hns : h1.Ns s.heap.objs.size m0)
    (kp : ∀ b o, s.heap.get? b = some o → h1.get? b = some o) : Inv (cxComp X N scope s H fp) [] (sigC nt caps σ) H { s with heap := h1, toks := tk } := by
  have sub := clGo_sub (env := X.env) scope.names [] (C.cells I) (fun _ _ z => by simp at z)
  refine ⟨comp_ok C I fo ft, rfl, I.bare, Un.kept kp, ⟨m0, hns, fun i x v h1' h2 h3 => ?_⟩, fun x c e => ?_, I.hok.fresh (Nat.le_refl _), fun x c e => I.freeC x c (sub x c e), fun p hp => absurd (show p ∈ ([] : List (Addr × Obj)) from hp) (by simp), I.hok.kept kp, ?_⟩
  · obtain ⟨tn, eN, hl⟩ := C.split
    have h1' : N[i]? = some x := h1'
    have hi : nt ≤ i := by
      refine Nat.le_of_not_lt fun hlt => ?_
      unfold sigC at h2
      rw [List.getElem?_append_left (by simpa using hlt), List.getElem?_replicate, if_pos hlt] at h2
      cases h2
    unfold sigC at h2
    rw [List.getElem?_append_right (by simpa using hi), List.length_replicate, List.getElem?_map] at h2
    rw [eN, List.getElem?_append_right (by omega), hl] at h1'
    cases e : caps[i - nt]? with
    | none => rw [e] at h2; cases h2
    | some j =>
      rw [e] at h2
      obtain ⟨hj, hf⟩ := C.at_ _ j x h1' e
      have h2' : (σ[j]?).getD none = some v := Option.some.inj h2
      have h2'' : σ[j]? = some (some v) := by
        cases q : σ[j]? with
        | none => rw [q] at h2'; cases h2'
        | some o => rw [q] at h2'; simp at h2'; rw [h2']
      have hm := PySem.mem_of_lookup hf
      have hk := C.free _ hm rfl
      obtain ⟨m, hn, hl'⟩ := I.loc
      obtain ⟨u, r, lk⟩ := hl' j x v hj h2'' (.inr hk)
      refine ⟨u, r, ?_⟩
      rcases lk with ⟨k1, _⟩ | ⟨_, c, hc, hcell⟩
      · have k1 : X.env.scope.names.lookup x = some .local := k1
        rw [k1] at hk
        rcases hk with z | z <;> cases z
      · obtain ⟨c', hc'⟩ := clGo_has (env := X.env) scope.names [] x (.inr hm)
        have hcc := sub x c' hc'
        rw [hc] at hcc
        cases hcc
        refine .inr ⟨?_, c, hc', ?_⟩
        · show (relabel scope X.env).names.lookup x = some .cell ∨ (relabel scope X.env).names.lookup x = some .free
          unfold relabel
          simp only
          rw [lookup_rel (c := fun n k => k == .free && X.env.scope.kind == .function && X.env.kindOf n == some .cell), hf]
          simp only [Option.map_some]
          split
          · exact .inl rfl
          · exact .inr rfl
        · exact hcell.keeps kp
  · obtain ⟨v, z⟩ := I.cell x c (sub x c e)
    exact ⟨v, z.keeps kp⟩
  · obtain ⟨tn, eN, hl⟩ := C.split
    show (sigC nt caps σ).length = N.length
    unfold sigC
    rw [eN, List.length_append, List.length_append, List.length_replicate, List.length_map, hl, C.clen]
end
/-- the block's loop -/
theorem compLoop_any {prog : Program} {w : World} {A : Around} {R : Result → Shared → Prop} {s : Shared} {elt target iter : Expr} {ifs : List Expr} {scope : Scope} {pos : Pos} {it acc : Value} {env : Env} (I : Nat → Shared → Prop)
    (turn : ∀ n s, I n s → wpAny (model prog w) A (pyNext it) (fun r s₁ => match r with
      | none => R (.ok .next) s₁
      | some v => wpAny (model prog w) A (letOwnedTupleGo target it v) (fun _ s₁' => wpAny (model prog w) A (assign target env v) (fun _ s₂ =>
          wpAny (model prog w) A (forIn ifs true fun c r => if r = true then do let ok ← isTrue c env (eval c env); pure (ForInStep.yield ok) else pure (ForInStep.yield r)) (fun ok s₃ =>
            if ok = true then wpAny (model prog w) A (eval elt env) (fun x s₄ =>
              wpAny (model prog w) A (call (.builtin "list.append") [acc, x]) (fun _ s₅ => ∃ m, m < n ∧ I m s₅) (notedBy (model prog w) A env fun e s' => R (.error e) s') s₄) (notedBy (model prog w) A env fun e s' => R (.error e) s') s₃
            else ∃ m, m < n ∧ I m s₃) (notedBy (model prog w) A env fun e s' => R (.error e) s') s₂) (notedBy (model prog w) A env fun e s' => R (.error e) s') s₁') (notedBy (model prog w) A env fun e s' => R (.error e) s') s₁) (notedBy (model prog w) A env fun e s' => R (.error e) s') s)
    (n : Nat) (h : I n s) :
    codeAny (model prog w) A (.compLoop (.ListComp elt [⟨target, iter, ifs, 0⟩] scope pos) 0 it acc env) R s := by
  refine codeAny_loop rfl I (fun n s hI => ?_) n h
  show wpAny _ A ((compTurn (.ListComp elt [⟨target, iter, ifs, 0⟩] scope pos) 0 it acc env).onRaise (fun x => do noteFrame x env; theTreesLotGoes x)) _ _ s
  refine wpAny_noted ?_
  rw [compTurn_list]
  refine wpAny_bind (wpAny_standAt (wpAny_bind (wpAny_mono (turn n s hI) (fun r s₁ h₁ => ?_) fun _ _ h' => h')))
  cases r with
  | none => exact wpAny_pure h₁
  | some v =>
    refine wpAny_bind (wpAny_mono h₁ (fun _ s₁' h₁' => ?_) fun _ _ h' => h')
    refine wpAny_bind (wpAny_mono h₁' (fun _ s₂ h₂ => wpAny_bind (wpAny_mono h₂ (fun ok s₃ h₃ => ?_) fun _ _ h' => h')) fun _ _ h' => h')
    cases ok with
    | false => exact wpAny_pure ⟨rfl, h₃⟩
    | true =>
      exact wpAny_bind (wpAny_bind (wpAny_mono h₃ (fun x s₄ h₄ => wpAny_bind (wpAny_mono h₄ (fun _ s₅ h₅ => wpAny_pure (wpAny_pure ⟨rfl, h₅⟩)) fun _ _ h' => h')) fun _ _ h' => h'))

theorem putT_out {tgs : List Nat} {one : Bool} {x : D} {ρ ρ' : Rho} (h : putT tgs one x ρ = .ok ρ') : ρ'.length = ρ.length ∧ ∀ i : Nat, i ∉ tgs → ρ'[i]? = ρ[i]? := by
  have fold : ∀ (ps : List (Nat × D)) (ρ : Rho), (ps.foldl (fun r p => r.set p.1 (.dat p.2)) ρ).length = ρ.length ∧ ∀ i : Nat, i ∉ ps.map (·.1) → (ps.foldl (fun r p => r.set p.1 (Sl.dat p.2)) ρ)[i]? = ρ[i]? := by
    intro ps
    induction ps with
    | nil => intro ρ; exact ⟨rfl, fun _ _ => rfl⟩
    | cons p ps ih =>
      intro ρ
      obtain ⟨e1, e2⟩ := ih (ρ.set p.1 (.dat p.2))
      refine ⟨by rw [List.foldl_cons, e1, List.length_set], fun i hi => ?_⟩
      rw [List.map_cons, List.mem_cons, not_or] at hi
      rw [List.foldl_cons, e2 i hi.2, List.getElem?_set_ne (Ne.symm hi.1)]
  unfold putT at h
  split at h
  · cases h
    refine ⟨List.length_set .., fun i hi => ?_⟩
    rw [List.getElem?_set_ne]
    intro z
    exact hi (by simp [z])
  · split at h
    · cases h
      rename_i hl
      obtain ⟨e1, e2⟩ := fold (tgs.zip _) ρ
      refine ⟨e1, fun i hi => e2 i ?_⟩
      rw [List.map_fst_zip (Nat.le_of_eq hl)]
      exact hi
    · cases h
  · cases h
def rho0 (nt : Nat) (caps : List Nat) (ρ : Rho) : Rho := List.replicate nt .no ++ capsOf ρ caps
theorem rho0_low {nt : Nat} {caps : List Nat} {ρ : Rho} {i : Nat} (h : i < nt) : (rho0 nt caps ρ)[i]? = some .no := by
  unfold rho0
  rw [List.getElem?_append_left (by simpa using h), List.getElem?_replicate, if_pos h]
section
variable {X : Cx} {scope : Scope} {N cn : List Str} {nt : Nat} {caps : List Nat} {pins : List (Addr × Obj)} {σ : L2.St} {ρ : Rho} {B : Bs} {F : Addr → Prop} {H : Hp} {s : Shared} {fp : List Addr}
theorem comp_sr (C : CompOk X scope N cn nt caps) (r : SR X.K B F H σ ρ) : SR X.K ⟨B.hp, fun a => B.o a ∧ ∃ o, H a = some o, B.f⟩ F H (sigC nt caps σ) (rho0 nt caps ρ) := by
  have hi : ∀ {i : Nat} {sl : Sl}, sl ≠ .no → (rho0 nt caps ρ)[i]? = some sl → nt ≤ i ∧ ∃ j, caps[i - nt]? = some j ∧ ρ[j]? = some sl ∧ (sigC nt caps σ)[i]? = some ((σ[j]?).getD none) := fun {i sl} hs h => by
    have hn : nt ≤ i := by
      refine Nat.le_of_not_lt fun hlt => ?_
      rw [rho0_low hlt] at h
      cases h
      exact hs rfl
    refine ⟨hn, ?_⟩
    unfold rho0 capsOf at h
    rw [List.getElem?_append_right (by simpa using hn), List.length_replicate, List.getElem?_map] at h
    unfold sigC
    rw [List.getElem?_append_right (by simpa using hn), List.length_replicate, List.getElem?_map]
    cases e : caps[i - nt]? with
    | none => rw [e] at h; cases h
    | some j =>
      rw [e] at h
      refine ⟨j, rfl, ?_, rfl⟩
      cases q : ρ[j]? with
      | none => rw [Option.map_some, q] at h; cases h; exact absurd rfl hs
      | some t => rw [Option.map_some, q] at h; cases h; rfl
  refine ⟨r.dom, r.base, r.fnew, ?_, fun i d h => ?_, fun i ds h => ?_, fun i j ds es l hij h1 h2 q1 q2 => ?_⟩
  · unfold rho0 sigC capsOf
    simp
  · obtain ⟨_, j, _, e, q⟩ := hi (by intro z; cases z) h
    obtain ⟨v, e1, e2⟩ := r.dat j d e
    exact ⟨v, by rw [q, e1]; rfl, e2⟩
  · obtain ⟨_, j, _, e, q⟩ := hi (by intro z; cases z) h
    obtain ⟨l, vs, e1, e2, e3, e4, e5⟩ := r.own j ds e
    exact ⟨l, vs, by rw [q, e1]; rfl, e2, ⟨e3.1, e3.2, _, e4⟩, e4, e5⟩
  · obtain ⟨n1, j1, c1, e1, p1⟩ := hi (by intro z; cases z) h1
    obtain ⟨n2, j2, c2, e2, p2⟩ := hi (by intro z; cases z) h2
    rw [p1] at q1
    rw [p2] at q2
    have g : ∀ {j : Nat}, some ((σ[j]?).getD none) = some (some (V.ref l)) → σ[j]? = some (some (V.ref l)) := fun {j} z => by
      cases q : σ[j]? with
      | none => rw [q] at z; cases z
      | some o => rw [q] at z; simp at z; rw [z]
    refine r.one j1 j2 ds es l (fun z => hij ?_) e1 e2 (g q1) (g q2)
    subst z
    obtain ⟨tn, eN, hl⟩ := C.split
    have ec : ∀ {i j : Nat}, caps[i]? = some j → ∃ x, cn[i]? = some x := fun {i j} e => by
      have := (List.getElem?_eq_some_iff.mp e).1
      rw [← C.clen] at this
      exact ⟨_, List.getElem?_eq_getElem this⟩
    obtain ⟨x1, y1⟩ := ec c1
    obtain ⟨x2, y2⟩ := ec c2
    have z1 := (C.at_ _ _ _ y1 c1).1
    have z2 := (C.at_ _ _ _ y2 c2).1
    rw [z1] at z2
    cases z2
    have f1 : N[i]? = some x1 := by rw [eN, List.getElem?_append_right (by omega), hl]; exact y1
    have f2 : N[j]? = some x1 := by rw [eN, List.getElem?_append_right (by omega), hl]; exact y2
    exact nodup_ix C.nd f1 f2
theorem comp_fp (C : CompOk X scope N cn nt caps) (I : Inv X pins σ H s) (fo : ∀ b ∈ fp, FpOk X pins H b) (ft : ∀ b ∈ fp, b < s.heap.objs.size) {pins' : List (Addr × Obj)} {H' : Hp} (hp : ∀ b ∈ fp, ∀ p ∈ pins', p.1 ≠ b) (hn : ∀ b ∈ fp, H' b = none) :
    ∀ b ∈ fp, FpOk (cxComp X N scope s H fp) pins' H' b := fun b hb => by
  have ok := comp_ok C I fo ft
  exact ⟨hn b hb, (fun e => (ok.exf b hb).1 e), fun z => ok.exfs b hb z, .inl hb, fun x c h => (ok.exf b hb).2 x c h, fun p h => hp b hb p (by simpa [cxComp] using h)⟩
/-- the item's own function -/
def itemF (tgs : List Nat) (one : Bool) (r0 : Rho) (fc : Option (Rho → R Bool)) (fe : Rho → R D) (x : D) : R (Option D) :=
  (putT tgs one x r0).bind fun ρ' => match fc with
    | none => (fe ρ').bind fun d => .ok (some d)
    | some g => (g ρ').bind fun b => if b then (fe ρ').bind fun d => .ok (some d) else .ok none
theorem R.bind_ok {α β : Type} {r : R α} {f : α → R β} {b : β} (h : r.bind f = .ok b) : ∃ a, r = .ok a ∧ f a = .ok b := by
  cases r with
  | ok a => exact ⟨a, rfl, h⟩
  | err c => cases h
  | stk => cases h
/-- the block: from the iterator on. ks: the tests, none or one -/
theorem comp_run {elt tg iter : Expr} {ks : List Expr} {pos : Pos} {tgs : List Nat} {one : Bool} {fc : Option (Rho → R Bool)} {fe : Rho → R D} {me : Md} {xs ys : List D} {it : Addr} {tn : Nat → Heap → Prop} {RR : Value → Addr → Result → Shared → Prop}
    (hc : X.calm = true) (C : CompOk X scope N cn nt caps) (I : Inv X pins σ H s) (r : SR X.K B F H σ ρ) (W : Wk X.prog X.w X.K tg (fun F' H' => Ext F H F' H') xs fp it tn) (st0 : tn 0 s.heap) (fo : ∀ b ∈ fp, FpOk X pins H b)
    (hT : ∀ s' H', TgOk (cxComp X N scope s' H' fp) tg tgs one) (hlow : ∀ i ∈ tgs, i < nt)
    (hE : ∀ s' H' B', PE (cxComp X N scope s' H' fp) elt (tE (cxComp X N scope s' H' fp) B' me fe)) (hm : me ≠ .bor)
    (hK : (ks = [] ∧ fc = none) ∨ ∃ k g, ks = [k] ∧ fc = some g ∧ ∀ s' H' B', PT (cxComp X N scope s' H' fp) k (tT (cxComp X N scope s' H' fp) B' g))
    (hY : compGo (itemF tgs one (rho0 nt caps ρ) fc fe) xs = .ok ys)
    (hRR : ∀ (s3 : Shared) (l : Addr) (σ' : L2.St) (F' : Addr → Prop) (H' : Hp) (s' : Shared) (vs : List V), H l = none → Inv X pins σ (upd H l (.lst [])) s3 → Inv (cxComp X N scope s3 (upd H l (.lst [])) fp) [] σ' H' s' → Ext F H F' H' → ¬F' l → H' l = some (.lst vs) → Reps X.K F' H' ys vs →
      RR (.ref l) s3.heap.objs.size (.ok .next) s') {E : Value → Shared → Prop} :
    wpAny (model X.prog X.w) X.A (newList []) (fun acc s₃ => wpAny (model X.prog X.w) X.A (newFunctionEnv scope X.env.globals (clGo X.env scope.names []) [] X.env.qual none .none (some X.env)) (fun cenv s₄ =>
      codeAny (model X.prog X.w) X.A (.compStart (.ListComp elt [⟨tg, iter, ks, 0⟩] scope pos) 0 (.ref it) acc { cenv with scope := relabel scope X.env }) (RR acc cenv.locals) s₄) E s₃) E s := by
  refine wpAny_newObj_type ?_
  have ft : ∀ b ∈ fp, b < s.heap.objs.size := fun b hb => by
    obtain ⟨o, e, _⟩ := W.obj _ _ st0 b hb
    exact Heap.lt_size e
  have hl : H s.heap.objs.size = none := I.hok.fresh (Nat.le_refl _)
  have I3 : Inv X pins σ (upd H s.heap.objs.size (.lst [])) { s with heap := s.heap.push { cls := .type "list", dict := none, data := .seq ([] : List Value).toArray } } :=
    I.laid (t' := s.toks) (fun b u e => Heap.get?_push_of_some _ e) (Nat.le_refl _) ⟨Nat.zero_le _, [], 0, .nil, Heap.get?_push_size _ rfl⟩
  have r3 : SR X.K B F (upd H s.heap.objs.size (.lst [])) σ ρ := r.ext (Ext.newO r.dom hl)
  have ex3 : Ext F H F (upd H s.heap.objs.size (.lst [])) := Ext.newO r.dom hl
  have fo3 : ∀ b ∈ fp, FpOk X pins (upd H s.heap.objs.size (.lst [])) b := fun b hb => ⟨by rw [upd_ne (Nat.ne_of_lt (ft b hb))]; exact (fo b hb).1, (fo b hb).2⟩
  have st3 : tn 0 (s.heap.push { cls := .type "list", dict := none, data := .seq ([] : List Value).toArray }) := W.keep _ _ _ st0 fun b hb o e => Heap.get?_push_of_some _ e
  have nFl : ¬F s.heap.objs.size := fun z => by
    obtain ⟨o, e⟩ := r.dom _ z
    rw [hl] at e; cases e
  have ft3 : ∀ b ∈ fp, b < (s.heap.push { cls := .type "list", dict := none, data := .seq ([] : List Value).toArray }).objs.size := fun b hb => by
    rw [Heap.size_push]; exact Nat.lt_succ_of_lt (ft b hb)
  revert I3 r3 ex3 fo3 st3 ft3
  generalize hs3 : ({ s with heap := s.heap.push { cls := .type "list", dict := none, data := .seq ([] : List Value).toArray } } : Shared) = s3
  have e3 : s3.heap = s.heap.push { cls := .type "list", dict := none, data := .seq ([] : List Value).toArray } := by rw [← hs3]
  rw [← e3]
  generalize hl0 : s.heap.objs.size = l at hl nFl
  generalize hH3 : upd H l (.lst []) = H3
  intro I3 r3 ex3 fo3 st3 ft3
  have hl3 : H3 l = some (.lst []) := by rw [← hH3]; exact upd_same
  refine wpAny_newFunctionEnv C.cell (by intro y hy; simp at hy) (fun h₁ hns₁ hsb₁ => ?_) C.kind
  have kp : ∀ b o, s3.heap.get? b = some o → h₁.get? b = some o := fun b o e => hsb₁.extBut b o (Nat.ne_of_lt (Heap.lt_size e)) (Heap.get?_push_of_some _ e)
  have IY := comp_inv (fp := fp) C I3 fo3 ft3 (tk := s3.toks + ([] : List (Str × Value)).length) hns₁ kp
  have rY := comp_sr C r3
  have hB : ¬(⟨B.hp, fun a => B.o a ∧ ∃ o, H a = some o, B.f⟩ : Bs).o l := fun ⟨_, o, e⟩ => by rw [hl] at e; cases e
  have hBh : B.hp l = none := r.base.free hl
  have r0 : SR X.K ⟨B.hp, fun a => B.o a ∧ ∃ o, H a = some o, B.f⟩ F H3 (sigC nt caps σ) (rho0 nt caps ρ) := (comp_sr C r).ext ex3
  have loop : ∀ s₄ : Shared, s₄ = { s3 with heap := h₁, toks := s3.toks + ([] : List (Str × Value)).length } →
      codeAny (model X.prog X.w) X.A (.compLoop (.ListComp elt [⟨tg, iter, ks, 0⟩] scope pos) 0 (.ref it) (.ref l) (cxComp X N scope s3 H3 fp).env) (RR (.ref l) s3.heap.objs.size) s₄ := by
    rintro s₄ rfl
    refine compLoop_any (fun k s' => ∃ (i : Nat) (σ' : L2.St) (F' : Addr → Prop) (H' : Hp) (yi zi : List D) (vs : List V), k = xs.length + 1 - i ∧ i ≤ xs.length ∧ Inv (cxComp X N scope s3 H3 fp) [] σ' H' s' ∧ SR X.K ⟨B.hp, fun a => B.o a ∧ ∃ o, H a = some o, B.f⟩ F' H' σ' (rho0 nt caps ρ) ∧
        Ext F H F' H' ∧ tn i s'.heap ∧ (∀ b ∈ fp, H' b = none) ∧ ys = yi ++ zi ∧ compGo (itemF tgs one (rho0 nt caps ρ) fc fe) (xs.drop i) = .ok zi ∧ ¬F' l ∧ H' l = some (.lst vs) ∧ Reps X.K F' H' yi vs ∧ yi.length ≤ i) ?_ (xs.length + 1)
      ⟨0, _, F, H3, [], ys, [], rfl, Nat.zero_le _, IY, r0, ex3, W.keep _ _ _ st3 (fun b _ o e => kp b o e), fun b hb => (fo3 b hb).1, rfl, hY, nFl, hl3, .nil, Nat.le_refl _⟩
    rintro k s' ⟨i, σ', F', H', yi, zi, vs, rfl, hi, I', r', ex', st', fr', eY, hZ, nF', hl', rep', hyi⟩
    have fo' := comp_fp C I3 fo3 ft3 (pins' := []) (H' := H') (fun b _ p h => by simp at h) fr'
    by_cases hlt : i < xs.length
    · have hx : xs[i]? = some xs[i] := List.getElem?_eq_getElem hlt
      rw [List.drop_eq_getElem_cons hlt] at hZ
      simp only [compGo] at hZ
      obtain ⟨o, ho, hZ⟩ := R.bind_ok hZ
      obtain ⟨zr, hr, hZ⟩ := R.bind_ok hZ
      unfold itemF at ho
      obtain ⟨ρ', hp, ho⟩ := R.bind_ok ho
      refine wpAny_mono (W.take (cxComp X N scope s3 H3 fp) rfl rfl rfl hc C.nd tgs one (hT s3 H3) i [] s' σ' _ ρ' _ F' H' _ I' r' ex' fo' st' hx hp) (fun q s1 ⟨u, hq, h1⟩ => ?_) fun _ _ z => False.elim z
      subst hq
      refine wpAny_mono h1 (fun _ s2 h2 => wpAny_mono h2 (fun _ s4 ⟨σ4, F4, H4, I4, r4, ex4, st4, fr4⟩ => ?_) fun _ _ z => False.elim z) fun _ _ z => False.elim z
      have foY : ∀ b ∈ fp, FpOk (cxComp X N scope s3 H3 fp) [] H4 b := comp_fp C I3 fo3 ft3 (pins' := []) (H' := H4) (fun b _ p h => by simp at h) fr4
      have I4p := I4.pinned foY (W.obj _ _ st4)
      obtain ⟨pl, pg⟩ := putT_out hp
      have back : ∀ {F5 : Addr → Prop} {H5 : Hp}, Ext F4 H4 F5 H5 → SR X.K ⟨B.hp, fun a => B.o a ∧ ∃ o, H a = some o, B.f⟩ F5 H5 σ4 (rho0 nt caps ρ) := fun {F5 H5} ex5 => by
        refine (r4.ext ex5).weak pl.symm (fun j d hj => ?_) fun j ds hj => ?_
        · by_cases hjt : j < nt
          · rw [rho0_low hjt] at hj; cases hj
          · rw [pg j fun z => hjt (hlow j z)]; exact hj
        · by_cases hjt : j < nt
          · rw [rho0_low hjt] at hj; cases hj
          · rw [pg j fun z => hjt (hlow j z)]; exact hj
      have exA := ex'.trans ex4
      -- the end of a turn that adds nothing, or y
      have skip : ∀ (s5 : Shared) (F5 : Addr → Prop) (H5 : Hp), Inv (cxComp X N scope s3 H3 fp) ([] ++ pinsAt fp s4.heap) σ4 H5 s5 → Ext F4 H4 F5 H5 → o = none →
          ∃ m, m < xs.length + 1 - i ∧ ∃ (i : Nat) (σ' : L2.St) (F' : Addr → Prop) (H' : Hp) (yi zi : List D) (vs : List V), m = xs.length + 1 - i ∧ i ≤ xs.length ∧ Inv (cxComp X N scope s3 H3 fp) [] σ' H' s5 ∧ SR X.K ⟨B.hp, fun a => B.o a ∧ ∃ o, H a = some o, B.f⟩ F' H' σ' (rho0 nt caps ρ) ∧
            Ext F H F' H' ∧ tn i s5.heap ∧ (∀ b ∈ fp, H' b = none) ∧ ys = yi ++ zi ∧ compGo (itemF tgs one (rho0 nt caps ρ) fc fe) (xs.drop i) = .ok zi ∧ ¬F' l ∧ H' l = some (.lst vs) ∧ Reps X.K F' H' yi vs ∧ yi.length ≤ i := by
        intro s5 F5 H5 I5 ex5 eo
        subst eo
        cases hZ
        have exB := ex4.trans ex5
        refine ⟨xs.length + 1 - (i + 1), by omega, i + 1, σ4, F5, H5, yi, zr, vs, rfl, hlt, I5.unpinned, back ex5, ex'.trans exB, ?_, fun b hb => ?_, eY, hr, fun z => ?_, exB.same _ _ hl', rep'.mono (exB.keep r'.dom), by omega⟩
        · exact W.keep _ _ _ st4 fun b hb o e => (I5.pin (b, o) (List.mem_append_right _ (List.mem_append_right _ (mem_pinsAt hb e)))).1
        · obtain ⟨ob, e, _⟩ := W.obj _ _ st4 b hb
          exact (I5.pin (b, ob) (List.mem_append_right _ (List.mem_append_right _ (mem_pinsAt hb e)))).2.1
        · rcases exB.new l z with z | z
          · exact nF' z
          · rw [hl'] at z; cases z
      have elt_ : ∀ (s5 : Shared) (F5 : Addr → Prop) (H5 : Hp) (E' : Value → Shared → Prop), Inv (cxComp X N scope s3 H3 fp) ([] ++ pinsAt fp s4.heap) σ4 H5 s5 → Ext F4 H4 F5 H5 → ((fe ρ').bind fun d => (.ok (some d) : R (Option D))) = .ok o →
          wpAny (model X.prog X.w) X.A (eval elt (cxComp X N scope s3 H3 fp).env) (fun x s₄ => wpAny (model X.prog X.w) X.A (call (.builtin "list.append") [.ref l, x]) (fun _ s₅ => ∃ m, m < xs.length + 1 - i ∧ ∃ (i : Nat) (σ' : L2.St) (F' : Addr → Prop) (H' : Hp) (yi zi : List D) (vs : List V), m = xs.length + 1 - i ∧ i ≤ xs.length ∧ Inv (cxComp X N scope s3 H3 fp) [] σ' H' s₅ ∧ SR X.K ⟨B.hp, fun a => B.o a ∧ ∃ o, H a = some o, B.f⟩ F' H' σ' (rho0 nt caps ρ) ∧
            Ext F H F' H' ∧ tn i s₅.heap ∧ (∀ b ∈ fp, H' b = none) ∧ ys = yi ++ zi ∧ compGo (itemF tgs one (rho0 nt caps ρ) fc fe) (xs.drop i) = .ok zi ∧ ¬F' l ∧ H' l = some (.lst vs) ∧ Reps X.K F' H' yi vs ∧ yi.length ≤ i) E' s₄) E' s5 := by
        intro s5 F5 H5 E' I5 ex5 ho
        obtain ⟨d, hd, ho⟩ := R.bind_ok ho
        cases ho
        cases hZ
        refine wpAny_mono (hE s3 H3 ⟨B.hp, fun a => B.o a ∧ ∃ o, H a = some o, B.f⟩ ([] ++ pinsAt fp s4.heap) s5 σ4 H5 (fun v H6 => ∃ F6, Ext F5 H5 F6 H6 ∧ Rep X.K F6 H6 d v) I5 ⟨F5, ρ', r4.ext ex5, ?_⟩) (fun u s6 ⟨v, H6, I6, rv, F6, ex6, rp6⟩ => ?_) fun _ _ z => False.elim z
        · rw [hd]
          intro v F6 H6 ex6 rs
          obtain ⟨F7, f1, f2, f3, rp⟩ := rs.val hm ex6.dom
          exact ⟨F7, ⟨fun a h => f1 a (ex6.sub a h), ex6.same, fun a h => (f2 a h).elim (ex6.new a) .inr, f3⟩, rp⟩
        · have exB := (ex4.trans ex5).trans ex6
          have hl6 : H6 l = some (.lst vs) := exB.same _ _ hl'
          have hvl : vs.length < sizeLine := by
            have := rep'.length
            have := W.len
            omega
          have nF6 : ¬F6 l := fun z => by
            rcases exB.new l z with z | z
            · exact nF' z
            · rw [hl'] at z; cases z
          refine wpAny_mono (mt_append (X := cxComp X N scope s3 H3 fp) ([] ++ pinsAt fp s4.heap) s6 σ4 H6 (.ref l) [v] (.ref l) [u] (fun _ H7 => H7 = upd H6 l (.lst (vs ++ [v]))) I6 rfl (.cons rv .nil) ⟨l, vs, v, rfl, rfl, hl6, hvl, rfl⟩) (fun _ s7 ⟨_, H7, I7, _, e7⟩ => ?_) fun _ _ z => False.elim z
          subst e7
          have rB := back (ex5.trans ex6)
          obtain ⟨kp7, r7⟩ := rB.oth (o := .lst (vs ++ [v])) nF6 hBh hB
          refine ⟨xs.length + 1 - (i + 1), by omega, i + 1, σ4, F6, _, yi ++ [d], zr, vs ++ [v], rfl, hlt, I7.unpinned, r7, ⟨(ex'.trans exB).sub, fun b ob e => ?_, (ex'.trans exB).new, r7.dom⟩, ?_, fun b hb => ?_, by rw [eY, List.append_assoc]; rfl, hr, nF6, upd_same, ((rep'.mono (exB.keep r'.dom)).mono kp7).append (.one (rp6.mono kp7)), by rw [List.length_append, List.length_singleton]; omega⟩
          · rw [upd_ne (ne_of_none e hl)]
            exact (ex'.trans exB).same b ob e
          · exact W.keep _ _ _ st4 fun b hb ob e => (I7.pin (b, ob) (List.mem_append_right _ (List.mem_append_right _ (mem_pinsAt hb e)))).1
          · obtain ⟨ob, e, _⟩ := W.obj _ _ st4 b hb
            exact (I7.pin (b, ob) (List.mem_append_right _ (List.mem_append_right _ (mem_pinsAt hb e)))).2.1
      rcases hK with ⟨rfl, rfl⟩ | ⟨k, g, rfl, rfl, hk⟩
      · refine wpAny_tests_nil ?_
        rw [if_pos rfl]
        exact elt_ s4 F4 H4 _ I4p (Ext.refl r4.dom) ho
      · refine wpAny_tests_one ?_
        obtain ⟨b, hb, ho⟩ := R.bind_ok ho
        refine wpAny_mono (hk s3 H3 ⟨B.hp, fun a => B.o a ∧ ∃ o, H a = some o, B.f⟩ ([] ++ pinsAt fp s4.heap) s4 σ4 H4 (fun b' H5 => b' = b ∧ ∃ F5, Ext F4 H4 F5 H5) I4p ⟨F4, ρ', r4, ?_⟩) (fun b' s5 ⟨H5, I5, eb, F5, ex5⟩ => ?_) fun _ _ z => False.elim z
        · rw [hb]
          exact fun F5 H5 ex5 => ⟨rfl, F5, ex5⟩
        · subst eb
          cases b' with
          | true =>
            rw [if_pos rfl]
            exact elt_ s5 F5 H5 _ I5 ex5 ho
          | false =>
            rw [if_neg (by decide)]
            refine skip s5 F5 H5 I5 ex5 ?_
            cases ho
            rfl
    · have hie : i = xs.length := by omega
      subst hie
      rw [List.drop_eq_nil_of_le (Nat.le_refl _)] at hZ
      cases hZ
      rw [List.append_nil] at eY
      subst eY
      refine wpAny_mono (W.done (cxComp X N scope s3 H3 fp) rfl rfl rfl hc [] s' σ' F' H' I' r'.dom ex' fo' st') (fun q s1 ⟨hq, I1⟩ => ?_) fun _ _ z => False.elim z
      subst hq
      subst hH3
      exact hRR s3 l σ' F' H' s1 vs hl I3 I1 ex' nF' hl' rep'
  exact codeAny_compStart_list (loop _ rfl) (W.self _ 0 _ _ _ (W.keep _ _ _ st3 fun b _ o e => kp b o e) (loop _ rfl))
end
end DI

namespace DI
open PySem PySem.Spec PyProof.Rows L2

section
variable {X : Cx} {B : Bs} {σ : L2.St} {H : Hp}
theorem tE.bor {m : Md} {f : Rho → R D} {Q : VK} (h : tE X B .bor f σ H Q) : tE X B m f σ H Q := by
  obtain ⟨F, ρ, r, h⟩ := h
  exact ⟨F, ρ, r, h.imp (fun _ w => w) fun d p v F' H' e q => p v F' H' e q.bor⟩
theorem tE.val {m : Md} (hm : m ≠ .bor) {f : Rho → R D} {Q : VK} (h : tE X B .val f σ H Q) : tE X B m f σ H Q := by
  obtain ⟨F, ρ, r, h⟩ := h
  refine ⟨F, ρ, r, h.imp (fun _ w => w) fun d p v F' H' e q => ?_⟩
  obtain ⟨F2, f1, f2, f3, rp⟩ := q.val hm e.dom
  exact p v F2 H' ⟨fun a z => f1 a (e.sub a z), e.same, fun a z => (f2 a z).elim (e.new a) .inr, f3⟩ rp
end
theorem PE.bor {X : Cx} {B : Bs} {e : Expr} {m : Md} {f : Rho → R D} (h : PE X e (tE X B m f)) : PE X e (tE X B .bor f) := PE.imp h fun _ _ _ q => q.bor
theorem PE.val {X : Cx} {B : Bs} {e : Expr} {m : Md} {f : Rho → R D} (h : PE X e (tE X B m f)) (hm : m ≠ .bor) : PE X e (tE X B .val f) := PE.imp h fun _ _ _ q => q.val hm

/-! ### one, two values in -/
def rD2 (X : Cx) (m : Md) (g : D → D → R D) : R2 := fun x y H Q => ∃ F dx dy, Dom F H ∧ RepB X.K F H dx x ∧ RepB X.K F H dy y ∧ Ok (XW X H) (g dx dy) (Post m X.K F H Q)
def rD1 (X : Cx) (m : Md) (g : D → R D) : V → Hp → VK → Prop := fun x H Q => ∃ F dx, Dom F H ∧ RepB X.K F H dx x ∧ Ok (XW X H) (g dx) (Post m X.K F H Q)
section
variable {X : Cx} {B : Bs} {σ : L2.St} {H : Hp}
theorem tE.two {m : Md} {fa fb : Rho → R D} {g : D → D → R D} {Q : VK} (h : tE X B m (fun ρ => (fa ρ).bind fun x => (fb ρ).bind fun y => g x y) σ H Q) :
    tOp (rD2 X m g) (tE X B .bor fa) (tE X B .bor fb) σ H Q := by
  obtain ⟨F, ρ, r, h⟩ := h
  refine ⟨F, ρ, r, h.bind.imp (fun _ w => w) fun dx h1 v F1 H1 e1 q1 => ⟨F1, ρ, r.ext e1, h1.bind.imp (fun c w => XW.mono w e1.same) fun dy h2 u F2 H2 e2 q2 => ?_⟩⟩
  exact ⟨F2, dx, dy, e2.dom, q1.ext e2 e1.dom, q2, h2.imp (fun c w => w.mono (e1.trans e2).same) fun d p => p.ext (e1.trans e2)⟩
theorem tE.one {m : Md} {fa : Rho → R D} {g : D → R D} {Q : VK} (h : tE X B m (fun ρ => (fa ρ).bind g) σ H Q) : tUn (rD1 X m g) (tE X B .bor fa) σ H Q := by
  obtain ⟨F, ρ, r, h⟩ := h
  refine ⟨F, ρ, r, h.bind.imp (fun _ w => w) fun dx h1 v F1 H1 e1 q1 => ?_⟩
  exact ⟨F1, dx, e1.dom, q1, h1.imp (fun c w => XW.mono w e1.same) fun d p => p.ext e1⟩
end
/-! ### reading data -/
section
variable {K : Frag} {F : Addr → Prop} {H : Hp} {x : V}
theorem RepB.flat {d : D} (h : RepB K F H d x) (hd : ∀ ds, d ≠ .lst ds) : Rep K F H d x := by
  rcases h with h | ⟨_, _, ds, _, e, _⟩
  · exact h
  · exact absurd e (hd ds)
theorem RepB.int {i : Int} (h : RepB K F H (.int i) x) : x = .int i := by have := h.flat (fun _ z => by cases z); simpa only [Rep] using this
theorem RepB.bl {b : Bool} (h : RepB K F H (.bl b) x) : x = .bl b := by have := h.flat (fun _ z => by cases z); simpa only [Rep] using this
theorem RepB.str {s : Str} (h : RepB K F H (.str s) x) : x = .str s := by have := h.flat (fun _ z => by cases z); simpa only [Rep] using this
theorem RepB.non (h : RepB K F H .non x) : x = .non := by have := h.flat (fun _ z => by cases z); simpa only [Rep] using this
theorem RepB.tup {ds : List D} (h : RepB K F H (.tup ds) x) : ∃ a vs, x = .ref a ∧ FT K F H a vs ∧ Reps K F H ds vs := by have := h.flat (fun _ z => by cases z); simpa only [Rep] using this
theorem RepB.lst {ds : List D} (h : RepB K F H (.lst ds) x) : ∃ a vs, x = .ref a ∧ SqL K H a vs ∧ Reps K F H ds vs := by
  rcases h with h | ⟨l, vs, ds', e1, e2, e3, e4⟩
  · simp only [Rep] at h
    obtain ⟨a, vs, e, q, r⟩ := h
    exact ⟨a, vs, e, q.sq, r⟩
  · cases e2
    exact ⟨l, vs, e1, SqL.of e3, e4⟩
theorem RepB.emp (h : RepB K F H .emp x) : ∃ a, x = .ref a ∧ F a ∧ H a = some (.dK []) := by have := h.flat (fun _ z => by cases z); simpa only [Rep] using this
end
/-- a new tuple -/
theorem Post.tup {m : Md} (hm : m ≠ .bor) {K : Frag} {F : Addr → Prop} {H : Hp} {Q : VK} {ds : List D} {vs : List V} (h : Post m K F H Q (.tup ds)) (dm : Dom F H) (r : Reps K F H ds vs) : ∀ p, H p = none → Q (.ref p) (upd H p (.tup vs)) := fun p hp => by
  have ex := Ext.newF (o := .tup vs) dm hp
  refine h _ _ _ ex ?_
  have rp : Rep K (fun a => F a ∨ a = p) (upd H p (.tup vs)) (.tup ds) (.ref p) := by
    simp only [Rep]
    exact ⟨p, vs, rfl, .inl ⟨.inr rfl, .inl upd_same⟩, r.mono (ex.keep dm)⟩
  cases m with
  | val => exact rp
  | bor => exact absurd rfl hm
  | fre => exact rp
/-- a new list -/
theorem Post.lst {K : Frag} {F : Addr → Prop} {H : Hp} {Q : VK} {ds : List D} {vs : List V} (h : Post .fre K F H Q (.lst ds)) (dm : Dom F H) (r : Reps K F H ds vs) : ∀ p, H p = none → Q (.ref p) (upd H p (.lst vs)) := fun p hp => by
  have ex := Ext.newO (o := .lst vs) dm hp
  refine h _ _ _ ex ⟨p, vs, rfl, fun z => ?_, hp, upd_same, r.mono (ex.keep dm)⟩
  obtain ⟨o, e⟩ := dm p z
  rw [hp] at e
  cases e
/-- a value without a heap -/
theorem Post.sc {m : Md} {K : Frag} {F : Addr → Prop} {H : Hp} {Q : VK} {d : D} {v : V} (h : Post m K F H Q d) (dm : Dom F H) (hd : ∀ ds, d ≠ .lst ds) (r : Rep K F H d v) : Q v H := by
  refine h v F H (Ext.refl dm) ?_
  cases m with
  | val => exact r
  | bor => exact .inl r
  | fre =>
    cases d with
    | lst ds => exact absurd rfl (hd ds)
    | _ => exact r
theorem Post.int {m : Md} {K : Frag} {F : Addr → Prop} {H : Hp} {Q : VK} {i : Int} (h : Post m K F H Q (.int i)) (dm : Dom F H) : Q (.int i) H := h.sc dm (fun _ z => by cases z) (by simp only [Rep])
theorem Post.bl {m : Md} {K : Frag} {F : Addr → Prop} {H : Hp} {Q : VK} {i : Bool} (h : Post m K F H Q (.bl i)) (dm : Dom F H) : Q (.bl i) H := h.sc dm (fun _ z => by cases z) (by simp only [Rep])
/-- a tuple that stood already -/
theorem Post.tupOld {m : Md} {K : Frag} {F : Addr → Prop} {H : Hp} {Q : VK} {ds : List D} {a : Addr} {vs : List V} (h : Post m K F H Q (.tup ds)) (dm : Dom F H) (f : FT K F H a vs) (r : Reps K F H ds vs) : Q (.ref a) H :=
  h.sc dm (fun _ z => by cases z) (by simp only [Rep]; exact ⟨a, vs, rfl, f, r⟩)

/-! ### the operations -/
theorem fits_le {n : Nat} (h : fits n = true) : n ≤ sizeLine := by
  unfold fits at h
  rw [sizeLine_eq]
  simpa using h
def Op.py : Op → Operator
  | .add => .Add | .sub => .Sub | .mul => .Mult | .fdiv => .FloorDiv | .mod => .Mod | .pow => .Pow
def Op.md : Op → Md
  | .add => .fre | .mul => .fre | _ => .val
theorem op_ok {X : Cx} (o : Op) : OpR X (binaryOp o.py) (rD2 X o.md (opD o)) := by
  intro pins s σ H x y v u Q I rx ry h
  obtain ⟨F, dx, dy, dm, bx, by_, h⟩ := h
  cases o with
  | add =>
    cases dx with
    | int i =>
      cases dy with
      | int j =>
        cases bx.int; cases by_.int
        exact op_add pins s σ H _ _ v u Q I rx ry ⟨i, j, rfl, rfl, Post.int h dm⟩
      | _ => exact False.elim h
    | tup as =>
      cases dy with
      | tup bs =>
        simp only [opD] at h
        split at h
        · rename_i hf
          obtain ⟨a, vs, rfl, ft, ra⟩ := bx.tup
          obtain ⟨b, us, rfl, fu, rb⟩ := by_.tup
          have hl : vs.length + us.length ≤ sizeLine := by rw [← ra.length, ← rb.length]; exact fits_le hf
          by_cases hv : vs = []
          · subst hv
            have ea : as = [] := List.eq_nil_of_length_eq_zero (by rw [ra.length]; rfl)
            subst ea
            exact op_catT0 pins s σ H _ _ v u Q I rx ry ⟨a, b, us, rfl, rfl, ft.sq, fu.sq, Post.tupOld h dm fu rb⟩
          · refine op_catT pins s σ H _ _ v u Q I rx ry ⟨a, b, vs, us, rfl, rfl, ft.sq, fu.sq, hv, hl, fun e => ?_, fun _ => Post.tup (by intro z; cases z) h dm (ra.append rb)⟩
            subst e
            have eb : bs = [] := List.eq_nil_of_length_eq_zero (by rw [rb.length]; rfl)
            subst eb
            rw [List.append_nil] at h
            exact Post.tupOld h dm ft ra
        · exact False.elim h
      | _ => exact False.elim h
    | lst as =>
      cases dy with
      | lst bs =>
        simp only [opD] at h
        split at h
        · rename_i hf
          obtain ⟨a, vs, rfl, ft, ra⟩ := bx.lst
          obtain ⟨b, us, rfl, fu, rb⟩ := by_.lst
          have hl : vs.length + us.length ≤ sizeLine := by rw [← ra.length, ← rb.length]; exact fits_le hf
          exact op_catL pins s σ H _ _ v u Q I rx ry ⟨a, b, vs, us, rfl, rfl, ft, fu, hl, Post.lst h dm (ra.append rb)⟩
        · exact False.elim h
      | _ => exact False.elim h
    | _ => exact False.elim h
  | sub =>
    cases dx with
    | int i =>
      cases dy with
      | int j =>
        cases bx.int; cases by_.int
        exact op_sub pins s σ H _ _ v u Q I rx ry ⟨i, j, rfl, rfl, Post.int h dm⟩
      | _ => exact False.elim h
    | _ => exact False.elim h
  | mul =>
    cases dx with
    | int i =>
      cases dy with
      | int j =>
        simp only [opD] at h
        split at h
        · rename_i hf
          cases bx.int; cases by_.int
          exact op_mul pins s σ H _ _ v u Q I rx ry ⟨i, j, rfl, rfl, hf, Post.int h dm⟩
        · exact False.elim h
      | _ => exact False.elim h
    | tup as =>
      cases dy with
      | int k =>
        simp only [opD] at h
        split at h
        · rename_i hf
          obtain ⟨h0, h1, h2⟩ := hf
          obtain ⟨a, vs, rfl, ft, ra⟩ := bx.tup
          cases by_.int
          have hem : vs.isEmpty = as.isEmpty := by
            have := ra.length
            cases vs <;> cases as <;> simp_all
          refine op_mulT pins s σ H _ _ v u Q I rx ry ⟨a, k, vs, rfl, rfl, ft.sq, h0, h1, by rw [← ra.length]; exact fits_le h2, fun e => ?_, fun e => Post.tup (by intro z; cases z) h dm (ra.rep k.toNat)⟩
          rw [hem] at e
          have hsame : (List.replicate k.toNat as).flatten = as := by
            rcases Bool.or_eq_true_iff.mp e with e | e
            · have : as = [] := by simpa using e
              subst this
              simp
            · have : k = 1 := by simpa using e
              subst this
              simp
          rw [hsame] at h
          exact Post.tupOld h dm ft ra
        · exact False.elim h
      | _ => exact False.elim h
    | _ => exact False.elim h
  | fdiv =>
    cases dx with
    | int i =>
      cases dy with
      | int j =>
        simp only [opD] at h
        split at h
        · rename_i hf
          cases bx.int; cases by_.int
          exact op_fdiv pins s σ H _ _ v u Q I rx ry ⟨i, j, rfl, rfl, hf, Post.int h dm⟩
        · exact False.elim h
      | _ => exact False.elim h
    | _ => exact False.elim h
  | mod =>
    cases dx with
    | int i =>
      cases dy with
      | int j =>
        simp only [opD] at h
        split at h
        · rename_i hf
          cases bx.int; cases by_.int
          exact op_mod pins s σ H _ _ v u Q I rx ry ⟨i, j, rfl, rfl, hf, Post.int h dm⟩
        · exact False.elim h
      | _ => exact False.elim h
    | _ => exact False.elim h
  | pow =>
    cases dx with
    | int i =>
      cases dy with
      | int j =>
        simp only [opD] at h
        split at h
        · rename_i hf
          cases bx.int; cases by_.int
          exact op_pow pins s σ H _ _ v u Q I rx ry ⟨i, j, rfl, rfl, hf, Post.int h dm⟩
        · exact False.elim h
      | _ => exact False.elim h
    | _ => exact False.elim h
def bD (g : D → D → R Bool) : D → D → R D := fun x y => (g x y).bind fun c => .ok (.bl c)
def Cm.py : Cm → CmpOp
  | .eq => .Eq | .ne => .NotEq | .lt => .Lt | .le => .LtE | .gt => .Gt | .ge => .GtE | .isn => .Is | .notn => .IsNot | .isin => .In | .notin => .NotIn
theorem lexLt_eq : ∀ x y : List Int, lexLt x y = HT.lexLt x y
  | [], [] => rfl
  | [], _ :: _ => rfl
  | _ :: _, [] => rfl
  | x :: xs, y :: ys => by
    rw [HT.lexLt_cons]
    simp only [lexLt]
    rw [lexLt_eq xs ys]
theorem ints_rep {K : Frag} {F : Addr → Prop} {H : Hp} : ∀ {ds : List D} {ns : List Int} {vs : List V}, intsOf ds = some ns → Reps K F H ds vs → vs = ns.map V.int
  | [], ns, vs, h, r => by simp only [Reps] at r; cases h; exact r
  | d :: ds, ns, vs, h, r => by
    simp only [Reps] at r
    obtain ⟨v, us, rfl, r1, r2⟩ := r
    cases d with
    | int i =>
      simp only [intsOf] at h
      cases q : intsOf ds with
      | none => rw [q] at h; cases h
      | some ms =>
        rw [q] at h
        cases h
        simp only [Rep] at r1
        rw [r1, ints_rep q r2]
        rfl
    | _ => cases h
theorem cm_ok {X : Cx} (hu : X.A.units < cLine) (o : Cm) (ho : o = .eq ∨ o = .ne ∨ o = .lt ∨ o = .le ∨ o = .gt ∨ o = .ge) : OpR X (compareOp o.py) (rD2 X .val (bD (cmD o))) := by
  intro pins s σ H x y v u Q I rx ry h
  obtain ⟨F, dx, dy, dm, bx, by_, h⟩ := h
  unfold bD at h
  rcases ho with rfl | rfl | rfl | rfl | rfl | rfl
  · simp only [cmD] at h
    cases dx <;> cases dy <;> first
      | exact False.elim h
      | (cases bx.int; cases by_.int
         refine op_eq pins s σ H _ _ v u Q I rx ry ⟨rfl, ?_⟩
         rw [dec_int]; exact Post.bl h dm)
      | (cases bx.bl; cases by_.bl
         refine op_eq pins s σ H _ _ v u Q I rx ry ⟨rfl, ?_⟩
         rw [dec_bl]; exact Post.bl h dm)
      | (cases bx.str; cases by_.str
         refine op_eq pins s σ H _ _ v u Q I rx ry ⟨rfl, ?_⟩
         rw [dec_str]; exact Post.bl h dm)
  · simp only [cmD] at h
    cases dx <;> cases dy <;> first
      | exact False.elim h
      | (cases bx.int; cases by_.int
         refine op_ne pins s σ H _ _ v u Q I rx ry ⟨rfl, ?_⟩
         rw [dec_int]; exact Post.bl h dm)
      | (cases bx.bl; cases by_.bl
         refine op_ne pins s σ H _ _ v u Q I rx ry ⟨rfl, ?_⟩
         rw [dec_bl]; exact Post.bl h dm)
      | (cases bx.str; cases by_.str
         refine op_ne pins s σ H _ _ v u Q I rx ry ⟨rfl, ?_⟩
         rw [dec_str]; exact Post.bl h dm)
  · simp only [cmD] at h
    cases dx with
    | int i =>
      cases dy with
      | int j =>
        cases bx.int; cases by_.int
        exact op_lt pins s σ H _ _ v u Q I rx ry ⟨i, j, rfl, rfl, Post.bl h dm⟩
      | _ => exact False.elim h
    | tup as =>
      cases dy with
      | tup bs =>
        simp only [ltD] at h
        cases e1 : intsOf as with
        | none => rw [e1] at h; exact False.elim h
        | some ns =>
          cases e2 : intsOf bs with
          | none => rw [e1, e2] at h; exact False.elim h
          | some ms =>
            rw [e1, e2] at h
            obtain ⟨a, vs, rfl, ft, ra⟩ := bx.tup
            obtain ⟨b, us, rfl, fu, rb⟩ := by_.tup
            cases ints_rep e1 ra
            cases ints_rep e2 rb
            refine op_ltT hu pins s σ H _ _ v u Q I rx ry ⟨a, b, ns, ms, rfl, rfl, ft.sq, fu.sq, ?_⟩
            rw [← lexLt_eq]
            exact Post.bl h dm
      | _ => exact False.elim h
    | _ => exact False.elim h
  · cases dx with
    | int i =>
      cases dy with
      | int j =>
        cases bx.int; cases by_.int
        exact op_le pins s σ H _ _ v u Q I rx ry ⟨i, j, rfl, rfl, Post.bl h dm⟩
      | _ => exact False.elim h
    | _ => exact False.elim h
  · cases dx with
    | int i =>
      cases dy with
      | int j =>
        cases bx.int; cases by_.int
        exact op_gt pins s σ H _ _ v u Q I rx ry ⟨i, j, rfl, rfl, Post.bl h dm⟩
      | _ => exact False.elim h
    | _ => exact False.elim h
  · cases dx with
    | int i =>
      cases dy with
      | int j =>
        cases bx.int; cases by_.int
        exact op_ge pins s σ H _ _ v u Q I rx ry ⟨i, j, rfl, rfl, Post.bl h dm⟩
      | _ => exact False.elim h
    | _ => exact False.elim h
end DI

namespace DI
open PySem PySem.Spec PyProof.Rows L2

theorem R.bind_assoc {α β γ : Type} (r : R α) (f : α → R β) (g : β → R γ) : (r.bind f).bind g = r.bind fun a => (f a).bind g := by cases r <;> rfl
theorem R.bind_ok' {α β : Type} (a : α) (f : α → R β) : (R.ok a).bind f = f a := rfl

/-! ### what a body may lean on -/
def CXD (P : Program) (w : World) : CXT := fun outer H s E e s' => ∃ H', s'.os = s.os ∧ AllBare s'.gens ∧ Un (frs outer) [] H H' s.heap s'.heap ∧ HOk P w H' s'.heap ∧ E e none H'
def spD (K : Frag) (G : Calls) (i : Nat) : Sp := fun vs H Q E => ∃ F ds, Dom F H ∧ Reps K F H ds vs ∧
  Ok (fun c => ∀ e H', Same H H' → ExcV K H' e c → E e none H') (G i ds) fun d => ∀ v F' H', Ext F H F' H' → Rep K F' H' d v → Q v H'
def bltNames : List Str := ["isinstance", "len", "tuple", "list", "all", "any", "range", "int", "bool", "str", "dict"]
structure XD (T : Tab) (G : Calls) (n : Nat) (X : Cx) (sc : List (Str × NameKind)) : Prop where
  calm : X.calm = true
  nd : X.N.Nodup
  room : Room n X.A
  sc : ∀ x, X.env.scope.names.lookup x = sc.lookup x ∨ (sc.lookup x = some .free ∧ X.env.scope.names.lookup x = some .cell)
  blt : ∀ x ∈ bltNames, X.mg x = none
  defs : ∀ (i : Nat) (nm : Str), T.defs[i]? = some nm → ∃ f fd ps, X.mg nm = some (.ref f) ∧ PySem.W.keepIn X.K (.ref f) = true ∧ Binds X.K fd ps [] ∧ FnOk X.prog X.w X.K X.mg X.base (CXD X.prog X.w) n f fd ps (spD X.K G i)
  cons : ∀ x d, T.cons.lookup x = some d → (∀ ds, d ≠ .lst ds) ∧ ∃ u v, X.mg x = some u ∧ RelV v u ∧ ∀ F H, Rep X.K F H d v
section
variable {T : Tab} {G : Calls} {n : Nat} {X : Cx} {sc : List (Str × NameKind)}
theorem XD.vis (D : XD T G n X sc) {x : Str} (h : knd sc x = 1) : Vis X.env.scope x := by
  have h' : sc.lookup x = some .local ∨ sc.lookup x = some .cell ∨ sc.lookup x = some .free := by
    unfold knd at h
    split at h <;> simp_all
  unfold Vis
  rcases D.sc x with e | ⟨_, e⟩
  · rw [e]; exact h'
  · exact .inr (.inl e)
theorem XD.gl (D : XD T G n X sc) {x : Str} (h : knd sc x = 2) : Gl X x := by
  have h' : sc.lookup x = some .globalImplicit := by
    unfold knd at h
    split at h <;> simp_all
  show X.env.scope.names.lookup x = some .globalImplicit
  rcases D.sc x with e | ⟨e, _⟩
  · rw [e]; exact h'
  · rw [h'] at e; cases e
theorem passD {X : Cx} : Passes (CXD X.prog X.w) X (fun e _ H' => ∀ pins σ s', Inv X pins σ H' s' → X.xe e s') := by
  intro pins σ H s e s' I h
  obtain ⟨H', os, bare, un, hok, q⟩ := h
  exact q pins σ s' (I.call' os un hok bare fun b z => absurd z (by simp))
end
theorem ixOf_get {N : List Str} {x : Str} {i : Nat} (h : ixOf N x = some i) : N[i]? = some x := by
  unfold ixOf at h
  obtain ⟨hi, h1, _⟩ := List.findIdx?_eq_some_iff_getElem.mp h
  rw [List.getElem?_eq_getElem hi]
  simpa using h1
theorem mapO_cons {α β : Type} {f : α → Option β} {a : α} {as : List α} {bs : List β} (h : mapO f (a :: as) = some bs) : ∃ b bs', f a = some b ∧ mapO f as = some bs' ∧ bs = b :: bs' := by
  simp only [mapO] at h
  split at h
  · rename_i b bs' h1 h2
    cases h
    exact ⟨b, bs', h1, h2, rfl⟩
  · cases h
def E.md : E → Md
  | .bor _ => .bor
  | .lst _ => .fre
  | .comp .. => .fre
  | .blt .list _ => .fre
  | .blt .sorted _ => .fre
  | .bin o _ _ => o.md
  | .slc .. => .fre
  | _ => .val

/-! ### argument lists -/
def tL (X : Cx) (B : Bs) (f : Rho → R (List D)) : TA := fun σ H Q => ∃ F ρ, SR X.K B F H σ ρ ∧ Ok (XW X H) (f ρ) fun ds => ∀ vs F' H', Ext F H F' H' → Reps X.K F' H' ds vs → Q vs H'
theorem star_cons {e : Expr} {es : List Expr} {env : Env} (h : ∀ a p, e ≠ .Starred a p) : starEach (e :: es) env = (false, eval e env) :: starEach es env := by
  cases e <;> first | rfl | exact absurd rfl (h _ _)
theorem back_any {pos : Pos} : ∀ {l : List (Bool × Sem Value)}, l.any (·.1) = false → (backTo pos l).any (·.1) = false := by
  intro l h
  unfold backTo
  rw [List.any_map]
  exact h
theorem star_any {env : Env} : ∀ {es : List Expr}, (∀ e ∈ es, ∀ a p, e ≠ .Starred a p) → (starEach es env).any (·.1) = false
  | [], _ => rfl
  | e :: es, h => by
    rw [star_cons (h e List.mem_cons_self), List.any_cons]
    exact star_any fun x hx => h x (List.mem_cons_of_mem _ hx)
section
variable {X : Cx} {B : Bs}
theorem pa_data {G : Calls} {n : Nat} {T : Tab} {sc : List (Str × NameKind)} {N : List Str} (ih : ∀ e E', trE T n sc N false e = some E' → PE X e (tE X B .val (evE G E')) ∧ ∀ a p, e ≠ .Starred a p) :
    ∀ {es : List Expr} {Es' : List E}, mapO (trE T n sc N false) es = some Es' → PA X es (tL X B (evEs G (toEs Es'))) ∧ ∀ e ∈ es, ∀ a p, e ≠ .Starred a p
  | [], Es', h => by
    cases h
    refine ⟨fun pos pins s σ H Q I h => pa_nil pos pins s σ H Q I ?_, fun e he => by simp at he⟩
    obtain ⟨F, ρ, r, h⟩ := h
    exact h [] F H (Ext.refl r.dom) .nil
  | e :: es, Es', h => by
    obtain ⟨E1, Er, h1, h2, rfl⟩ := mapO_cons h
    obtain ⟨pe, ne⟩ := ih e E1 h1
    obtain ⟨pr, nr⟩ := pa_data ih h2
    refine ⟨fun pos pins s σ H Q I h => pa_cons pe pr (star_cons ne) pos pins s σ H Q I ?_, fun x hx => ?_⟩
    · obtain ⟨F, ρ, r, h⟩ := h
      simp only [toEs, evEs] at h
      refine ⟨F, ρ, r, h.bind.imp (fun _ w => w) fun d h1 v F1 H1 e1 q1 => ⟨F1, ρ, r.ext e1, h1.bind.imp (fun c w => XW.mono w e1.same) fun ds h2 vs F2 H2 e2 q2 => ?_⟩⟩
      exact h2 (v :: vs) F2 H2 (e1.trans e2) (.cons (Rep.mono (e2.keep e1.dom) q1) q2)
    · rcases List.mem_cons.mp hx with rfl | hx
      · exact ne
      · exact nr x hx
end
/-! ### truth -/
theorem tT.toE {X : Cx} {B : Bs} {σ : L2.St} {H : Hp} {m : Md} {f : Rho → R Bool} {Q : Bool → Hp → Prop} (h : tT X B f σ H Q) : tE X B m (fun ρ => (f ρ).bind fun b => .ok (.bl b)) σ H (fun x H' => ∃ k, x = .bl k ∧ Q k H') := by
  obtain ⟨F, ρ, r, h⟩ := h
  refine ⟨F, ρ, r, ?_⟩
  show Ok _ ((f ρ).bind _) _
  cases e : f ρ with
  | ok b =>
    rw [e] at h
    intro v F' H' ex q
    exact ⟨b, q.bor.bl, h F' H' ex⟩
  | err c => rw [e] at h; exact h
  | stk => rw [e] at h; exact h
theorem tru_of {K : Frag} {F : Addr → Prop} {H : Hp} {d : D} {v : V} {b : Bool} (h : RepB K F H d v) (ht : truth d = .ok b) : TruV K v H b := by
  cases d with
  | non => cases h.non; cases ht; rfl
  | bl c => cases h.bl; cases ht; rfl
  | int i => cases h.int; cases ht; rfl
  | str s => cases ht
  | tup ds =>
    obtain ⟨a, vs, rfl, ft, r⟩ := h.tup
    cases ht
    refine .inr (.inl ⟨vs, ft.sq, ?_⟩)
    have := r.length
    cases vs <;> cases ds <;> simp_all
  | lst ds =>
    obtain ⟨a, vs, rfl, ft, r⟩ := h.lst
    cases ht
    refine .inl ⟨vs, ft, ?_⟩
    have := r.length
    cases vs <;> cases ds <;> simp_all
  | emp => cases ht
  | exc c => cases ht
theorem pt_of {X : Cx} {B : Bs} {e : Expr} {m : Md} {f : Rho → R D} (h : PE X e (tE X B m f)) (he : ∀ whole, isTrue e X.env whole = (do let v ← whole; standAt e.pos; holding [v] (truthy v))) : PT X e (tT X B fun ρ => (f ρ).bind truth) := by
  refine PT.imp (pt_truth (PE.bor h) he) fun σ H Q q => ?_
  obtain ⟨F, ρ, r, q⟩ := q
  refine ⟨F, ρ, r, q.bind.imp (fun _ w => w) fun d h1 v F' H' ex rp => ?_⟩
  cases ht : truth d with
  | ok b => rw [ht] at h1; exact ⟨b, tru_of rp ht, h1 F' H' ex⟩
  | err c => cases d <;> cases ht
  | stk => rw [ht] at h1; exact False.elim h1
theorem pt_stk {X : Cx} {B : Bs} {e : Expr} : PT X e (tT X B fun _ => .stk) := fun _ _ _ _ _ _ h => by
  obtain ⟨_, _, _, h⟩ := h
  exact False.elim h

/-! ### built-in calls -/
section
variable {X : Cx} {B : Bs} {σ : L2.St} {H : Hp}
/-- one borrowed argument -/
theorem tE.arg {m : Md} {fa : Rho → R D} {g : D → R D} {Q : VK} {r : List V → Hp → VK → Prop} (hr : ∀ x H Q, rD1 X m g x H Q → r [x] H Q) (h : tE X B m (fun ρ => (fa ρ).bind g) σ H Q) : tCB r (tCons (tE X B .bor fa) tNil) σ H Q := by
  have h2 := tE.one h
  obtain ⟨F, ρ, r', h3⟩ := h2
  exact ⟨F, ρ, r', h3.imp (fun _ w => w) fun d p v F' H' e q => hr _ _ _ (p v F' H' e q)⟩
end
theorem seq_rep {K : Frag} {F : Addr → Prop} {H : Hp} {d : D} {xs : List D} {x : V} (h : RepB K F H d x) (hs : seqOf d = .ok xs) : ∃ p vs, x = .ref p ∧ (SqL K H p vs ∨ SqT K H p vs) ∧ Reps K F H xs vs := by
  cases d with
  | tup ds => cases hs; obtain ⟨a, vs, e, ft, r⟩ := h.tup; exact ⟨a, vs, e, .inr ft.sq, r⟩
  | lst ds => cases hs; obtain ⟨a, vs, e, ft, r⟩ := h.lst; exact ⟨a, vs, e, .inl ft, r⟩
  | _ => cases hs
theorem bools_rep {K : Frag} {F : Addr → Prop} {H : Hp} : ∀ {ds : List D} {bs : List Bool} {vs : List V}, boolsOf ds = some bs → Reps K F H ds vs → vs.map trV = bs.map some
  | [], ns, vs, h, r => by simp only [Reps] at r; subst r; cases h; rfl
  | d :: ds, ns, vs, h, r => by
    simp only [Reps] at r
    obtain ⟨v, us, rfl, r1, r2⟩ := r
    cases d with
    | int i =>
      simp only [boolsOf] at h
      cases q : boolsOf ds with
      | none => rw [q] at h; cases h
      | some ms =>
        rw [q] at h; cases h
        simp only [Rep] at r1
        subst r1
        rw [List.map_cons, List.map_cons, bools_rep q r2]
        rfl
    | bl i =>
      simp only [boolsOf] at h
      cases q : boolsOf ds with
      | none => rw [q] at h; cases h
      | some ms =>
        rw [q] at h; cases h
        simp only [Rep] at r1
        subst r1
        rw [List.map_cons, List.map_cons, bools_rep q r2]
        rfl
    | _ => cases h
def sqD (g : List D → R D) : D → R D := fun d => (seqOf d).bind g
theorem Ok.seq {X : Cx} {H : Hp} {g : List D → R D} {d : D} {Q : D → Prop} (h : Ok (XW X H) (sqD g d) Q) : ∃ xs, seqOf d = .ok xs ∧ Ok (XW X H) (g xs) Q := by
  unfold sqD at h
  cases e : seqOf d with
  | ok xs => rw [e] at h; exact ⟨xs, rfl, h⟩
  | err c => cases d <;> cases e
  | stk => rw [e] at h; exact False.elim h
def bfMd : Bf → Md
  | .list => .fre
  | .sorted => .fre
  | _ => .val
theorem bf_len {X : Cx} : ∀ x H Q, rD1 X .val (sqD (bfD .len)) x H Q → (fun xs H Q => ∃ p ys, xs = [.ref p] ∧ (SqL X.K H p ys ∨ SqT X.K H p ys) ∧ Q (.int ys.length) H : List V → Hp → VK → Prop) [x] H Q := by
  intro x H Q ⟨F, d, dm, rp, h⟩
  obtain ⟨xs, hs, h⟩ := h.seq
  obtain ⟨p, vs, rfl, q, r⟩ := seq_rep rp hs
  refine ⟨p, vs, rfl, q, ?_⟩
  rw [← r.length]
  exact Post.int h dm
theorem bf_tuple {X : Cx} : ∀ x H Q, rD1 X .val (sqD (bfD .tuple)) x H Q → (fun xs H Q => ∃ p ys, xs = [.ref p] ∧ ((SqL X.K H p ys ∧ ∀ l, H l = none → Q (.ref l) (upd H l (.tup ys))) ∨ (SqT X.K H p ys ∧ Q (.ref p) H)) : List V → Hp → VK → Prop) [x] H Q := by
  intro x H Q ⟨F, d, dm, rp, h⟩
  obtain ⟨xs, hs, h⟩ := h.seq
  cases d with
  | tup ds =>
    cases hs
    obtain ⟨a, vs, rfl, ft, r⟩ := rp.tup
    exact ⟨a, vs, rfl, .inr ⟨ft.sq, Post.tupOld h dm ft r⟩⟩
  | lst ds =>
    cases hs
    obtain ⟨a, vs, rfl, ft, r⟩ := rp.lst
    exact ⟨a, vs, rfl, .inl ⟨ft, Post.tup (by intro z; cases z) h dm r⟩⟩
  | _ => cases hs
theorem bf_list {X : Cx} : ∀ x H Q, rD1 X .fre (sqD (bfD .list)) x H Q → (fun xs H Q => ∃ p ys, xs = [.ref p] ∧ (SqL X.K H p ys ∨ SqT X.K H p ys) ∧ ∀ l, H l = none → Q (.ref l) (upd H l (.lst ys)) : List V → Hp → VK → Prop) [x] H Q := by
  intro x H Q ⟨F, d, dm, rp, h⟩
  obtain ⟨xs, hs, h⟩ := h.seq
  obtain ⟨p, vs, rfl, q, r⟩ := seq_rep rp hs
  exact ⟨p, vs, rfl, q, Post.lst h dm r⟩
theorem bf_all {X : Cx} (all : Bool) : ∀ x H Q, rD1 X .val (sqD (bfD (if all then .all else .any))) x H Q → (fun xs H Q => ∃ (p : Addr) (ys : List V) (bs : List Bool), xs = [.ref p] ∧ (SqL X.K H p ys ∨ SqT X.K H p ys) ∧ ys.map trV = bs.map some ∧ Q (.bl (if all then bs.all id else bs.any id)) H : List V → Hp → VK → Prop) [x] H Q := by
  intro x H Q ⟨F, d, dm, rp, h⟩
  obtain ⟨xs, hs, h⟩ := h.seq
  obtain ⟨p, vs, rfl, q, r⟩ := seq_rep rp hs
  cases all with
  | true =>
    simp only [if_true, bfD, allD] at h
    cases e : boolsOf xs with
    | none => rw [e] at h; exact False.elim h
    | some bs => rw [e] at h; exact ⟨p, vs, bs, rfl, q, bools_rep e r, Post.bl h dm⟩
  | false =>
    simp only [Bool.false_eq_true, if_false, bfD, anyD] at h
    cases e : boolsOf xs with
    | none => rw [e] at h; exact False.elim h
    | some bs => rw [e] at h; exact ⟨p, vs, bs, rfl, q, bools_rep e r, Post.bl h dm⟩
/-! ### isinstance -/
def Ty.py : Ty → String
  | .int => "int" | .bool => "bool" | .str => "str" | .tuple => "tuple" | .list => "list" | .dict => "dict" | .exc _ => "?" | .verr => "?"
def Ty.flat : Ty → Bool
  | .exc _ => false | .verr => false | _ => true
theorem isi_ok {X : Cx} {t : Ty} (ht : t.flat = true) {pins : List (Addr × Obj)} {s : Shared} {σ : L2.St} {F : Addr → Prop} {H : Hp} {d : D} {x : V} {u : Value} {b : Bool} {Q : Value → Shared → Prop} {E : Value → Shared → Prop} (I : Inv X pins σ H s) (rp : RepB X.K F H d x) (rx : RelV x u) (hb : tyIs d t = .ok b)
    (q : ∀ tk, Q (.bool b) { s with toks := tk }) : wpAny (model X.prog X.w) X.A (call (.builtin "isinstance") [u, .type t.py]) Q E s := by
  cases d with
  | non =>
    cases rp.non
    cases (show u = Value.none from rx)
    cases hb
    exact PySem.W.kia_one PySem.W.kitx_none I.kIn True.intro (by cases t <;> first | rfl | cases ht) (fun z => nomatch z) q
  | bl c =>
    cases rp.bl
    cases (show u = Value.bool c from rx)
    cases hb
    exact PySem.W.kia_one PySem.W.kitx_bool I.kIn True.intro (by cases t <;> first | rfl | cases ht) (fun z => nomatch z) q
  | int i =>
    cases rp.int
    obtain ⟨t', rfl⟩ := (show ∃ t, u = Value.int i t from rx)
    cases hb
    exact PySem.W.kia_one PySem.W.kitx_int I.kIn True.intro (by cases t <;> first | rfl | cases ht) (fun z => nomatch z) q
  | str y =>
    cases rp.str
    obtain ⟨t', rfl⟩ := (show ∃ t, u = Value.str y t from rx)
    cases hb
    exact PySem.W.kia_one PySem.W.kitx_str I.kIn True.intro (by cases t <;> first | rfl | cases ht) (fun z => nomatch z) q
  | tup ds =>
    obtain ⟨a, vs, rfl, ft, r⟩ := rp.tup
    cases (show u = Value.ref a from rx)
    obtain ⟨its, _, p, _⟩ := I.tuple ft.sq
    obtain ⟨o, h1, h2, _⟩ := p
    cases hb
    exact PySem.W.kia_one PySem.W.kitx_tuple I.kIn ⟨o, h1, h2⟩ (by cases t <;> first | rfl | cases ht) (fun z => nomatch z) q
  | lst ds =>
    obtain ⟨a, vs, rfl, ft, r⟩ := rp.lst
    cases (show u = Value.ref a from rx)
    obtain ⟨its, _, ⟨o, n, h1, h2, _⟩, _⟩ := I.list ft
    cases hb
    exact PySem.W.kia_one PySem.W.kitx_list I.kIn ⟨o, h1, h2⟩ (by cases t <;> first | rfl | cases ht) (fun z => nomatch z) q
  | emp =>
    obtain ⟨a, rfl, _, e⟩ := rp.emp
    cases (show u = Value.ref a from rx)
    obtain ⟨_, _, vs, _, p⟩ := (show ObjOk X.prog X.w H s.heap a (.dK []) from I.hok a _ e)
    obtain ⟨o, es, ep, h1, h2, _⟩ := p
    cases hb
    exact PySem.W.kia_one PySem.W.kitx_dict I.kIn ⟨o, h1, h2.1⟩ (by cases t <;> first | rfl | cases ht) (fun z => nomatch z) q
  | exc c => cases hb
theorem call_isi {X : Cx} {t : Ty} (ht : t.flat = true) : CallR X (.builtin "isinstance") (fun xs H Q => ∃ x, xs = [x, .ty t.py] ∧ rD1 X .val (fun d => (tyAny d [t]).bind fun b => .ok (.bl b)) x H Q) := by
  intro pins s σ H xs us Q I r h
  obtain ⟨x, rfl, F, d, dm, rp, h⟩ := h
  obtain ⟨u, w', rfl, rx, ry⟩ := vals2 r
  cases (show w' = Value.type t.py from ry)
  cases hb : tyIs d t with
  | ok b =>
    refine isi_ok ht I rp rx hb fun tk => ?_
    simp only [tyAny, hb, R.bind_ok'] at h
    refine ⟨.bl b, H, I.tok tk, rfl, ?_⟩
    cases b <;> exact Post.bl h dm
  | err c => cases d <;> cases hb
  | stk => simp only [tyAny, hb] at h; exact False.elim h
end DI

namespace DI
open PySem PySem.Spec PyProof.Rows L2

theorem opOf_py {op : Operator} {o : Op} (h : opOf op = some o) : op = o.py := by cases op <;> cases h <;> rfl
theorem cmOf_py {op : CmpOp} {o : Cm} (h : cmOf op = some o) : op = o.py ∧ (o = .eq ∨ o = .ne ∨ o = .lt ∨ o = .le ∨ o = .gt ∨ o = .ge) ∧ op ≠ .In ∧ op ≠ .NotIn := by
  cases op <;> cases h <;> refine ⟨rfl, ?_, by decide, by decide⟩ <;> simp
theorem units_of {n : Nat} {A : Around} (r : Room n A) : A.units < cLine := r.units0

/-- one element of the claim -/
structure Snd (T : Tab) (G : Calls) (n : Nat) (X : Cx) (B : Bs) (e : Expr) (E' : E) : Prop where
  pe : PE X e (tE X B E'.md (evE G E'))
  pt : PT X e (tT X B (evT G E'))
  ns : ∀ a p, e ≠ .Starred a p
section
variable {T : Tab} {G : Calls} {n : Nat} {X : Cx} {sc : List (Str × NameKind)} {B : Bs} {σ : L2.St} {H : Hp}
/-- a literal -/
theorem snd_lit {e : Expr} {d : D} {v : V} (h : PE X e (tC v)) (hd : ∀ ds, d ≠ .lst ds) (hr : ∀ F H, Rep X.K F H d v) : PE X e (tE X B .val (evE G (.lit d))) := by
  refine PE.imp h fun σ H Q q => ?_
  obtain ⟨F, ρ, r, q⟩ := q
  simp only [evE] at q
  exact Post.sc q r.dom hd (hr F H)
theorem evT_lit {d : D} : (fun ρ => evT G (.lit d) ρ) = fun ρ => (evE G (.lit d) ρ).bind truth := by funext ρ; simp only [evT, evE, R.bind_ok']
theorem snd_name (D : XD T G n X sc) {x : Str} {pos : Pos} {i : Nat} (hk : knd sc x = 1) (hi : X.N[i]? = some x) (hb : badN x = false) : PE X (.Name x pos) (tE X B .val (evE G (.var i))) ∧ PE X (.Name x pos) (tE X B .bor (evE G (.bor i))) := by
  have b1 : (x == ("__debug__" : Str)) = false := by unfold badN at hb; simp only [Bool.or_eq_false_iff] at hb; exact hb.1.1
  have b2 : (x == ("__classdict__" : Str)) = false := by unfold badN at hb; simp only [Bool.or_eq_false_iff] at hb; exact hb.1.2
  have h := pe_var (X := X) (pos := pos) hi (D.vis hk) b1 b2
  constructor
  · refine PE.imp h fun σ H Q q => ?_
    obtain ⟨F, ρ, r, q⟩ := q
    simp only [evE] at q
    split at q
    · rename_i d e
      obtain ⟨v, e1, e2⟩ := r.dat i d e
      exact ⟨v, e1, q v F H (Ext.refl r.dom) e2⟩
    · exact False.elim q
  · refine PE.imp h fun σ H Q q => ?_
    obtain ⟨F, ρ, r, q⟩ := q
    simp only [evE] at q
    split at q
    · rename_i d e
      obtain ⟨v, e1, e2⟩ := r.dat i d e
      exact ⟨v, e1, q v F H (Ext.refl r.dom) (.inl e2)⟩
    · rename_i xs e
      obtain ⟨l, vs, e1, e2, e3, e4, e5⟩ := r.own i xs e
      exact ⟨_, e1, q _ F H (Ext.refl r.dom) (.inr ⟨l, vs, xs, rfl, rfl, e4, e5⟩)⟩
    · exact False.elim q
theorem tE.congr {m : Md} {f g : Rho → R D} (h : ∀ ρ, f ρ = g ρ) : tE X B m f = tE X B m g := by rw [show f = g from funext h]
theorem tT.congr {f g : Rho → R Bool} (h : ∀ ρ, f ρ = g ρ) : tT X B f = tT X B g := by rw [show f = g from funext h]
/-- and, or as values -/
theorem tAnd_of {fa fb : Rho → R D} {Q : VK} (h : tE X B .val (fun ρ => (fa ρ).bind fun x => (boolR x).bind fun t => if t then (fb ρ).bind fun y => (boolR y).bind fun u => .ok (.bl u) else .ok (.bl false)) σ H Q) : tAndV (tE X B .bor fa) (tE X B .bor fb) σ H Q := by
  obtain ⟨F, ρ, r, h⟩ := h
  refine ⟨F, ρ, r, h.bind.imp (fun _ w => w) fun d h1 v F1 H1 e1 q1 => ?_⟩
  cases d with
  | bl b =>
    cases q1.bl
    refine ⟨b, rfl, ?_⟩
    cases b with
    | true =>
      rw [if_pos rfl]
      refine ⟨F1, ρ, r.ext e1, (show Ok (XW X H) ((fb ρ).bind _) _ from h1).bind.imp (fun c w => XW.mono w e1.same) fun y h2 u F2 H2 e2 q2 => ?_⟩
      cases y with
      | bl c => cases q2.bl; exact (Post.ext h2 (e1.trans e2)).bl e2.dom
      | _ => exact False.elim h2
    | false =>
      rw [if_neg (by decide)]
      exact (Post.ext h1 e1).bl e1.dom
  | _ => exact False.elim h1
theorem tOr_of {fa fb : Rho → R D} {Q : VK} (h : tE X B .val (fun ρ => (fa ρ).bind fun x => (boolR x).bind fun t => if t then .ok (.bl true) else (fb ρ).bind fun y => (boolR y).bind fun u => .ok (.bl u)) σ H Q) : tOrV (tE X B .bor fa) (tE X B .bor fb) σ H Q := by
  obtain ⟨F, ρ, r, h⟩ := h
  refine ⟨F, ρ, r, h.bind.imp (fun _ w => w) fun d h1 v F1 H1 e1 q1 => ?_⟩
  cases d with
  | bl b =>
    cases q1.bl
    refine ⟨b, rfl, ?_⟩
    cases b with
    | false =>
      rw [if_neg (by decide)]
      refine ⟨F1, ρ, r.ext e1, (show Ok (XW X H) ((fb ρ).bind _) _ from h1).bind.imp (fun c w => XW.mono w e1.same) fun y h2 u F2 H2 e2 q2 => ?_⟩
      cases y with
      | bl c => cases q2.bl; exact (Post.ext h2 (e1.trans e2)).bl e2.dom
      | _ => exact False.elim h2
    | true =>
      rw [if_pos rfl]
      exact (Post.ext h1 e1).bl e1.dom
  | _ => exact False.elim h1
theorem tNot_of {fa : Rho → R D} {Q : VK} (h : tE X B .val (fun ρ => (fa ρ).bind fun x => (boolR x).bind fun t => .ok (.bl (!t))) σ H Q) : tNotV (tE X B .bor fa) σ H Q := by
  obtain ⟨F, ρ, r, h⟩ := h
  refine ⟨F, ρ, r, h.bind.imp (fun _ w => w) fun d h1 v F1 H1 e1 q1 => ?_⟩
  cases d with
  | bl b => cases q1.bl; exact ⟨b, rfl, (Post.ext h1 e1).bl e1.dom⟩
  | _ => exact False.elim h1
theorem tTAnd_of {fa fb : Rho → R Bool} {Q : Bool → Hp → Prop} (h : tT X B (fun ρ => (fa ρ).bind fun x => if x then fb ρ else .ok false) σ H Q) : tAnd (tT X B fa) (tT X B fb) σ H Q := by
  obtain ⟨F, ρ, r, h⟩ := h
  refine ⟨F, ρ, r, h.bind.imp (fun _ w => w) fun b h1 F1 H1 e1 => ?_⟩
  cases b with
  | true => rw [if_pos rfl] at h1 ⊢; exact ⟨F1, ρ, r.ext e1, h1.imp (fun c w => XW.mono w e1.same) fun y h2 F2 H2 e2 => h2 F2 H2 (e1.trans e2)⟩
  | false => rw [if_neg (by decide)] at h1 ⊢; exact h1 F1 H1 e1
theorem tTOr_of {fa fb : Rho → R Bool} {Q : Bool → Hp → Prop} (h : tT X B (fun ρ => (fa ρ).bind fun x => if x then .ok true else fb ρ) σ H Q) : tOr (tT X B fa) (tT X B fb) σ H Q := by
  obtain ⟨F, ρ, r, h⟩ := h
  refine ⟨F, ρ, r, h.bind.imp (fun _ w => w) fun b h1 F1 H1 e1 => ?_⟩
  cases b with
  | false => rw [if_neg (by decide)] at h1 ⊢; exact ⟨F1, ρ, r.ext e1, h1.imp (fun c w => XW.mono w e1.same) fun y h2 F2 H2 e2 => h2 F2 H2 (e1.trans e2)⟩
  | true => rw [if_pos rfl] at h1 ⊢; exact h1 F1 H1 e1
theorem tTNot_of {fa : Rho → R Bool} {Q : Bool → Hp → Prop} (h : tT X B (fun ρ => (fa ρ).bind fun x => .ok (!x)) σ H Q) : tNot (tT X B fa) σ H Q := by
  obtain ⟨F, ρ, r, h⟩ := h
  exact ⟨F, ρ, r, h.bind.imp (fun _ w => w) fun b h1 F1 H1 e1 => h1 F1 H1 e1⟩
/-- all of a row -/
theorem snd_and {vs : List Expr} {es : List E} {E' : E} {pos : Pos} (h : Paired (fun e E' => PE X e (tE X B (E.md E') (evE G E')) ∧ PT X e (tT X B (evT G E'))) vs es) (hf : foldB .and es = some E') :
    PE X (.BoolOp .And vs pos) (tE X B E'.md (evE G E')) ∧ PW X (.BoolOp .And vs pos) (tT X B (evT G E')) := by
  induction h generalizing E' with
  | nil => cases hf
  | @cons e E1 vs es h1 hr ih =>
    cases hr with
    | nil => cases hf; exact ⟨pe_one h1.1, pw_and1 h1.2⟩
    | @cons e2 E2 vs es h2 hr =>
      simp only [foldB] at hf
      cases q : foldB .and (E2 :: es) with
      | none => rw [q] at hf; cases hf
      | some E3 =>
        have hf' : E' = .and E1 E3 := by
          rw [q] at hf
          exact (Option.some.inj hf).symm
        subst hf'
        obtain ⟨i1, i2⟩ := ih q
        refine ⟨PE.imp (pe_and (PE.bor h1.1) (PE.bor i1)) fun σ H Q z => tAnd_of (by simpa only [evE, E.md] using z), fun whole pins s σ H Q I z => pw_and h1.2 i2 whole pins s σ H Q I (tTAnd_of (by simpa only [evT] using z))⟩
theorem snd_or {vs : List Expr} {es : List E} {E' : E} {pos : Pos} (h : Paired (fun e E' => PE X e (tE X B (E.md E') (evE G E')) ∧ PT X e (tT X B (evT G E'))) vs es) (hf : foldB .or es = some E') :
    PE X (.BoolOp .Or vs pos) (tE X B E'.md (evE G E')) ∧ PW X (.BoolOp .Or vs pos) (tT X B (evT G E')) := by
  induction h generalizing E' with
  | nil => cases hf
  | @cons e E1 vs es h1 hr ih =>
    cases hr with
    | nil => cases hf; exact ⟨pe_one h1.1, pw_or1 h1.2⟩
    | @cons e2 E2 vs es h2 hr =>
      simp only [foldB] at hf
      cases q : foldB .or (E2 :: es) with
      | none => rw [q] at hf; cases hf
      | some E3 =>
        have hf' : E' = .or E1 E3 := by
          rw [q] at hf
          exact (Option.some.inj hf).symm
        subst hf'
        obtain ⟨i1, i2⟩ := ih q
        refine ⟨PE.imp (pe_or (PE.bor h1.1) (PE.bor i1)) fun σ H Q z => tOr_of (by simpa only [evE, E.md] using z), fun whole pins s σ H Q I z => pw_or h1.2 i2 whole pins s σ H Q I (tTOr_of (by simpa only [evT] using z))⟩
end
end DI

namespace DI
open PySem PySem.Spec PyProof.Rows L2

/-! ### what is walked, as a reading -/
def ItmG (K : Frag) (G : (Addr → Prop) → Hp → Prop) (J : L2.It) (xs : List D) : Prop := xs.length ≤ sizeLine ∧ ∀ F H, G F H → Dom F H →
  (∀ (i : Nat) (x : D), xs[i]? = some x → J.go i H ∧ ∀ v H2, J.yld i H v H2 → ∃ F2, Ext F H F2 H2 ∧ Rep K F2 H2 x v) ∧ J.stop xs.length H
theorem ItmG.wk {P : Program} {w : World} {K : Frag} {tg : Expr} {G : (Addr → Prop) → Hp → Prop} {J : L2.It} {xs : List D} {fp : List Addr} {it : Addr} {tn : Nat → Heap → Prop} (h : ItmG K G J xs) (T : Turn P w K tg J fp it tn) : Wk P w K tg G xs fp it tn :=
  Wk.of_turn T (fun i x F H hx g dm => (h.2 F H g dm).1 i x hx) (fun F H g dm => (h.2 F H g dm).2) h.1
theorem itm_list {K : Frag} {G : (Addr → Prop) → Hp → Prop} {xs : List D} {vs : List V} {a : Addr} (len : xs.length ≤ sizeLine) (hG : ∀ F H, G F H → Dom F H → SqL K H a vs ∧ Reps K F H xs vs) : ItmG K G (Itl K a) xs :=
  ⟨len, fun F H g dm => by
    obtain ⟨q, r⟩ := hG F H g dm
    refine ⟨fun i x hx => ?_, ⟨vs, q, by rw [r.length]; exact Nat.le_refl _⟩⟩
    obtain ⟨v, e, rp⟩ := r.get hx
    refine ⟨⟨vs, v, q, e⟩, fun u H2 y => ?_⟩
    obtain ⟨rfl, y⟩ := y
    have := y vs q
    rw [e] at this
    cases this
    exact ⟨F, Ext.refl dm, rp⟩⟩
theorem itm_tup {K : Frag} {G : (Addr → Prop) → Hp → Prop} {xs : List D} {vs : List V} {a : Addr} (len : xs.length ≤ sizeLine) (hG : ∀ F H, G F H → Dom F H → SqT K H a vs ∧ Reps K F H xs vs) : ItmG K G (Itt K a) xs :=
  ⟨len, fun F H g dm => by
    obtain ⟨q, r⟩ := hG F H g dm
    refine ⟨fun i x hx => ?_, ⟨vs, q, by rw [r.length]; exact Nat.le_refl _⟩⟩
    obtain ⟨v, e, rp⟩ := r.get hx
    refine ⟨⟨vs, v, q, e⟩, fun u H2 y => ?_⟩
    obtain ⟨rfl, y⟩ := y
    have := y vs q
    rw [e] at this
    cases this
    exact ⟨F, Ext.refl dm, rp⟩⟩
theorem itm_rng {K : Frag} {G : (Addr → Prop) → Hp → Prop} {lo : Int} {n : Nat} (hn : n ≤ sizeLine) : ItmG K G (Itr lo n) (rngD lo n) := by
  have hl : (rngD lo n).length = n := by unfold rngD; rw [List.length_map, List.length_range]
  refine ⟨by rw [hl]; exact hn, fun F H g dm => ⟨fun i x hx => ?_, by rw [hl]; exact Nat.le_refl n⟩⟩
  unfold rngD at hx
  rw [List.getElem?_map] at hx
  cases e : (List.range n)[i]? with
  | none => rw [e] at hx; cases hx
  | some k =>
    rw [e] at hx
    obtain ⟨h1, h2⟩ := List.getElem?_eq_some_iff.mp e
    rw [List.length_range] at h1
    rw [List.getElem_range] at h2
    subst h2
    cases hx
    refine ⟨h1, fun u H2 y => ?_⟩
    obtain ⟨rfl, rfl⟩ := y
    exact ⟨F, Ext.refl dm, by simp only [Rep]⟩
/-- over a list or a tuple -/
def iSeq (K : Frag) (tl : TE) : TI := fun σ H R => tl σ H fun x H1 => ∃ a, x = .ref a ∧ ((∃ xs, SqL K H1 a xs ∧ (xs.length ≤ sizeLine → R (Itl K a) H1)) ∨ (∃ xs, SqT K H1 a xs ∧ (xs.length ≤ sizeLine → R (Itt K a) H1)))
theorem pi_seq {X : Cx} {tg l : Expr} {tl : TE} (hl : PE X l tl) : PI X tg l (iSeq X.K tl) := by
  intro pins s σ H R I h
  refine thn (hl pins s σ H _ I h) fun v s1 ⟨x, H1, I1, r1, q1⟩ => ?_
  obtain ⟨a, e, q1⟩ := q1
  subst e
  cases r1
  rcases q1 with ⟨xs, hq, q⟩ | ⟨xs, hq, q⟩
  · obtain ⟨its, rv, p, hz⟩ := I1.list hq
    refine wpAny_pyIter_list p.isList ?_
    refine ⟨s1.heap.objs.size, [s1.heap.objs.size], _, _, H1, rfl, I1.kept (t' := s1.toks) fun b o e => Heap.get?_push_of_some _ e, turn_list a _, ⟨_, Heap.get?_push_size _ rfl, rfl, rfl⟩, fun b hb => ?_, q hz⟩
    have e : b = s1.heap.objs.size := by simpa using hb
    subst e
    exact I1.fpOk (Nat.le_refl _) (I1.hok.fresh (Nat.le_refl _))
  · obtain ⟨its, rv, p, hz⟩ := I1.tuple hq
    refine wpAny_pyIter_tuple (show s1.heap.IsTuple a its.toArray from p) ?_
    refine ⟨s1.heap.objs.size, [s1.heap.objs.size], _, _, H1, rfl, I1.kept (t' := s1.toks) fun b o e => Heap.get?_push_of_some _ e, turn_tuple a _, ⟨_, Heap.get?_push_size _ rfl, rfl, rfl⟩, fun b hb => ?_, q hz⟩
    have e : b = s1.heap.objs.size := by simpa using hb
    subst e
    exact I1.fpOk (Nat.le_refl _) (I1.hok.fresh (Nat.le_refl _))
theorem PI.imp {X : Cx} {tg e : Expr} {t t' : TI} (h : PI X tg e t) (k : ∀ σ H R, t' σ H R → t σ H R) : PI X tg e t' := fun pins s σ H R I q => h pins s σ H R I (k σ H R q)
/-- borrowed: the heap only grows -/
def tI (X : Cx) (B : Bs) (f : Rho → R (List D)) : TI := fun σ H R => ∃ F ρ, SR X.K B F H σ ρ ∧ Ok (XW X H) (f ρ) fun xs => ∀ F' H' J, Ext F H F' H' → ItmG X.K (fun F2 H2 => Ext F' H' F2 H2) J xs → R J H'
theorem pi_dat {X : Cx} {B : Bs} {tg l : Expr} {m : Md} {f : Rho → R D} (hl : PE X l (tE X B m f)) : PI X tg l (tI X B fun ρ => (f ρ).bind seqOf) := by
  refine PI.imp (pi_seq (PE.bor hl)) fun σ H R q => ?_
  obtain ⟨F, ρ, r, q⟩ := q
  refine ⟨F, ρ, r, q.bind.imp (fun _ w => w) fun d h1 v F' H' ex rp => ?_⟩
  cases d with
  | tup ds =>
    obtain ⟨a, vs, rfl, ft, rr⟩ := rp.tup
    refine ⟨a, rfl, .inr ⟨vs, ft.sq, fun hz => h1 F' H' _ ex (itm_tup (vs := vs) (by rw [rr.length]; exact hz) fun F2 H2 g _ => ⟨SqT.same g.same ft.sq, rr.mono (g.keep ex.dom)⟩)⟩⟩
  | lst ds =>
    obtain ⟨a, vs, rfl, ft, rr⟩ := rp.lst
    refine ⟨a, rfl, .inl ⟨vs, ft, fun hz => h1 F' H' _ ex (itm_list (vs := vs) (by rw [rr.length]; exact hz) fun F2 H2 g _ => ⟨SqL.same g.same ft, rr.mono (g.keep ex.dom)⟩)⟩⟩
  | _ => exact False.elim h1

theorem pi_rng1 {X : Cx} {B : Bs} {tg a : Expr} {p pos : Pos} {f : Rho → R D} {m : Md} (hg : Gl X "range") (hm : X.mg "range" = none) (h : PE X a (tE X B m f)) (ns : ∀ e q, a ≠ .Starred e q) :
    PI X tg (.Call (.Name "range" p) [a] [] pos) (tI X B fun ρ => (f ρ).bind rng1D) := by
  refine PI.imp (pi_range1 hg hm (pa_cons (PE.bor h) pa_nil (star_cons ns)) (star_cons ns)) fun σ H R q => ?_
  obtain ⟨F, ρ, r, q⟩ := q
  refine ⟨F, ρ, r, q.bind.imp (fun _ w => w) fun d h1 v F' H' ex rp => ?_⟩
  cases d with
  | int n =>
    simp only [rng1D] at h1
    split at h1
    · rename_i hn
      cases rp.int
      exact ⟨n, rfl, by omega, by omega, h1 F' H' _ ex (itm_rng (by rw [sizeLine_eq]; omega))⟩
    · exact False.elim h1
  | _ => exact False.elim h1
theorem pi_rng2 {X : Cx} {B : Bs} {tg a b : Expr} {p pos : Pos} {f g : Rho → R D} {m m' : Md} (hg : Gl X "range") (hm : X.mg "range" = none) (h : PE X a (tE X B m f)) (ns : ∀ e q, a ≠ .Starred e q) (h' : PE X b (tE X B m' g)) (ns' : ∀ e q, b ≠ .Starred e q) :
    PI X tg (.Call (.Name "range" p) [a, b] [] pos) (tI X B fun ρ => (f ρ).bind fun x => (g ρ).bind fun y => rng2D x y) := by
  refine PI.imp (pi_range2 hg hm (pa_cons (PE.bor h) (pa_cons (PE.bor h') pa_nil (star_cons ns')) (star_cons ns)) (by rw [star_cons ns, star_cons ns']; rfl) (star_cons ns')) fun σ H R q => ?_
  obtain ⟨F, ρ, r, q⟩ := q
  refine ⟨F, ρ, r, q.bind.imp (fun _ w => w) fun d h1 v F1 H1 e1 rp => ⟨F1, ρ, r.ext e1, h1.bind.imp (fun c w => XW.mono w e1.same) fun d2 h2 u F2 H2 e2 rp2 => ?_⟩⟩
  cases d with
  | int i =>
    cases d2 with
    | int j =>
      simp only [rng2D] at h2
      split at h2
      · rename_i hn
        cases rp.int
        cases rp2.int
        exact ⟨i, j, rfl, ⟨by omega, by omega, by omega, by omega⟩, h2 F2 H2 _ (e1.trans e2) (itm_rng (by rw [sizeLine_eq]; omega))⟩
      · exact False.elim h2
    | _ => exact False.elim h2
  | _ => cases d2 <;> exact False.elim h2
/-! ### the comprehension -/
theorem Un.sameBut {fs ex : List Addr} {H H' : Hp} {h h1 h2 : Heap} {C : Addr} (u : Un fs ex H H' h h1) (hC : h.objs.size ≤ C) (s : Heap.SameBut C h1 h2) : Un fs ex H H' h h2 := by
  have ne : ∀ b o, h.get? b = some o → b ≠ C := fun b o e => Nat.ne_of_lt (Nat.lt_of_lt_of_le (Heap.lt_size e) hC)
  refine ⟨fun b o e n hb hx => (s.2 b (ne b o e)).trans (u.keep b o e n hb hx), fun b o e n hb hx => ?_, u.free, fun b o e hx => ?_, u.tups, u.frzs, u.tbls⟩
  · obtain ⟨sl, q⟩ := u.slot b o e n hb hx
    exact ⟨sl, (s.2 b (ne b o e)).trans q⟩
  · obtain ⟨o', q⟩ := u.there b o e hx
    exact ⟨o', (s.2 b (ne b o e)).trans q⟩
theorem HOk.sameBut {P : Program} {w : World} {H : Hp} {h1 h2 : Heap} {C : Addr} (k : HOk P w H h1) (n : H C = none) (s : Heap.SameBut C h1 h2) : HOk P w H h2 := fun b ob e => by
  refine (k b ob e).stay (fun c w' hc q => (s.2 c ?_).trans q) (fun _ q => q) fun _ _ q => q
  rintro rfl
  rcases hc with rfl | hc
  · rw [n] at e; cases e
  · rw [n] at hc; cases hc
section
variable {X : Cx} {scope : Scope} {N cn : List Str} {nt : Nat} {caps : List Nat} {B : Bs} {elt tg iter : Expr} {ks : List Expr} {pos : Pos} {tgs : List Nat} {one : Bool} {fi : Rho → R (List D)} {fc : Option (Rho → R Bool)} {fe : Rho → R D} {me : Md}
/-- behind the block, around it -/
theorem comp_out {pins : List (Addr × Obj)} {σ : L2.St} {H1 : Hp} {s3 : Shared} {fp : List Addr} (I3 : Inv X pins σ H1 s3) (fo : ∀ b ∈ fp, (b ∈ X.ex ∨ X.s₀.heap.objs.size ≤ b) ∧ b ≠ X.env.locals ∧ (∀ x c, X.env.cells.lookup x = some c → c ≠ b) ∧ ∀ p ∈ X.pn ++ pins, p.1 ≠ b)
    {σ' : L2.St} {H' : Hp} {s' : Shared} (IY : Inv (cxComp X N scope s3 H1 fp) [] σ' H' s') {h' : Heap} (sb : Heap.SameBut s3.heap.objs.size s'.heap h') : Inv X pins σ H' { s' with heap := h' } :=
  I3.call' IY.os (Un.sameBut IY.base (Nat.le_refl _) sb) (HOk.sameBut IY.hok IY.free sb) IY.bare fo
theorem pe_comp (hc : X.calm = true) (C : CompOk X scope N cn nt caps) (hi : PI X tg iter (tI X B fi))
    (hT : ∀ s' H' fp, TgOk (cxComp X N scope s' H' fp) tg tgs one) (hlow : ∀ i ∈ tgs, i < nt)
    (hE : ∀ s' H' fp B', PE (cxComp X N scope s' H' fp) elt (tE (cxComp X N scope s' H' fp) B' me fe)) (hm : me ≠ .bor)
    (hK : (ks = [] ∧ fc = none) ∨ ∃ k g, ks = [k] ∧ fc = some g ∧ ∀ s' H' fp B', PT (cxComp X N scope s' H' fp) k (tT (cxComp X N scope s' H' fp) B' g)) (hs : ∀ x, foldedSetIterable iter X.env x = pure x) :
    PE X (.ListComp elt [⟨tg, iter, ks, 0⟩] scope pos) (tE X B .fre fun ρ => (fi ρ).bind fun xs => (compGo (itemF tgs one (rho0 nt caps ρ) fc fe) xs).noErr.bind fun ys => .ok (.lst ys)) := by
  intro pins s σ H Q I ⟨F, ρ, r, h⟩
  rw [eval_ListComp]
  refine wpAny_comprehension_free (use := none) rfl hs (clos_of (C.cells I)) C.kind C.names ?_
  refine thn (hi pins s σ H (fun J H' => ∃ F' xs, Ext F H F' H' ∧ ItmG X.K (fun F2 H2 => Ext F' H' F2 H2) J xs ∧ Ok (XW X H) ((compGo (itemF tgs one (rho0 nt caps ρ) fc fe) xs).noErr.bind fun ys => .ok (.lst ys)) (Post .fre X.K F H Q)) I ⟨F, ρ, r, h.bind.imp (fun _ w => w) fun xs h1 F' H' J ex im => ⟨F', xs, ex, im, h1⟩⟩)
    fun v s1 h1 => thn h1 fun itv s2 ⟨it, fp, tn, J, H2, e, I2, T, st2, f2, F2, xs, ex2, im, q2⟩ => ?_
  subst e
  cases hY : compGo (itemF tgs one (rho0 nt caps ρ) fc fe) xs with
  | err c => rw [hY] at q2; exact False.elim q2
  | stk => rw [hY] at q2; exact False.elim q2
  | ok ys =>
    rw [hY] at q2
    have q2 : Post .fre X.K F H Q (.lst ys) := q2
    refine comp_run (RR := fun acc C' => compPost (model X.prog X.w) X.A X.xe none (EP X pins σ Q) acc C') hc C I2 (r.ext ex2) (im.wk T) st2 f2 (fun s' H' => hT s' H' fp) hlow (fun s' H' B' => hE s' H' fp B') hm ?_ hY ?_
    · rcases hK with z | ⟨k, g, e1, e2, hk⟩
      · exact .inl z
      · exact .inr ⟨k, g, e1, e2, fun s' H' B' => hk s' H' fp B'⟩
    · intro s3 l σ' F' H' s' vs hl I3 IY ex' nF hl' rp
      obtain ⟨m, hn, _⟩ := IY.loc
      refine ⟨m, hn, fun h' sb => ?_⟩
      refine ⟨.ref l, H', comp_out I3 (fun b hb => ?_) IY sb, rfl, q2 _ F' H' (ex2.trans ex') ⟨l, vs, rfl, nF, ex2.same.free hl, hl', rp⟩⟩
      obtain ⟨f0, f1, f3, f4, f5, f6⟩ := f2 b hb
      exact ⟨f4, f1, f5, f6⟩
end
/-- the block leans on the same -/
theorem XD.comp {T : Tab} {G : Calls} {n : Nat} {X : Cx} {sc : List (Str × NameKind)} (D : XD T G n X sc) {scope : Scope} {N : List Str} {s : Shared} {H : Hp} {fp : List Addr} (nd : N.Nodup) : XD T G n (cxComp X N scope s H fp) scope.names where
  calm := D.calm
  nd := nd
  room := D.room
  sc := fun x => by
    show (relabel scope X.env).names.lookup x = _ ∨ _ ∧ (relabel scope X.env).names.lookup x = _
    unfold relabel
    simp only
    rw [lookup_rel (c := fun n k => k == .free && X.env.scope.kind == .function && X.env.kindOf n == some .cell)]
    cases e : scope.names.lookup x with
    | none => exact .inl rfl
    | some k =>
      simp only [Option.map_some]
      split
      · rename_i h
        simp only [Bool.and_eq_true, beq_iff_eq] at h
        exact .inr ⟨by rw [h.1.1], rfl⟩
      · exact .inl rfl
  blt := D.blt
  defs := D.defs
  cons := D.cons
end DI

namespace DI
open PySem PySem.Spec PyProof.Rows L2

theorem ndp_nodup : ∀ {xs : List Str}, ndp xs = true → xs.Nodup
  | [], _ => List.nodup_nil
  | x :: r, h => by
    simp only [ndp, Bool.and_eq_true, Bool.not_eq_true'] at h
    refine List.nodup_cons.mpr ⟨fun z => ?_, ndp_nodup h.2⟩
    rw [List.contains_iff_mem.mpr z] at h
    exact absurd h.1 (by decide)
theorem nms_of {es : List Expr} {xs : List Str} (h : mapO nmOf es = some xs) : ∃ ps : List Pos, es.length = xs.length ∧ ps.length = xs.length ∧ es = (xs.zip ps).map fun p => Expr.Name p.1 p.2 := by
  induction es generalizing xs with
  | nil => cases h; exact ⟨[], rfl, rfl, rfl⟩
  | cons e es ih =>
    obtain ⟨x, xs', h1, h2, rfl⟩ := mapO_cons h
    obtain ⟨ps, l1, l2, e2⟩ := ih h2
    cases e <;> cases h1
    rename_i pos
    exact ⟨pos :: ps, by simp [l1], by simp [l2], by simp [e2]⟩
/-- names in the first slots -/
theorem tgs_of {X : Cx} : ∀ (xs : List Str) (ps : List Pos) (k : Nat), ps.length = xs.length → (∀ (i : Nat) x, xs[i]? = some x → X.N[k + i]? = some x ∧ X.env.scope.names.lookup x = some .local) →
    TgsOk X ((xs.zip ps).map fun p => Expr.Name p.1 p.2) ((List.range xs.length).map (k + ·))
  | [], _, _, _, _ => .nil
  | x :: xs, [], _, h, _ => by simp at h
  | x :: xs, p :: ps, k, h, hN => by
    obtain ⟨a, b⟩ := hN 0 x rfl
    have ih := tgs_of (X := X) xs ps (k + 1) (by simpa using h) fun i y hy => by
      have := hN (i + 1) y (by simpa using hy)
      rwa [show k + (i + 1) = k + 1 + i by omega] at this
    rw [List.length_cons, List.range_succ_eq_map, List.map_cons, List.map_map]
    have e : (List.range xs.length).map ((k + ·) ∘ Nat.succ) = (List.range xs.length).map (k + 1 + ·) := by
      apply List.map_congr_left
      intro i _
      show k + (i + 1) = k + 1 + i
      omega
    rw [e]
    exact .cons a (.inl b) (.inr b) ih
theorem folded_ok {e : Expr} {env : Env} (h : ∀ a b c, e ≠ .Set a b c) : ∀ x, foldedSetIterable e env x = pure x := fun x => by
  unfold foldedSetIterable
  cases e <;> first | rfl | exact absurd rfl (h _ _ _)
theorem atI_eq {K : Frag} {F : Addr → Prop} {H : Hp} {ds : List D} {vs : List V} {i : Int} {d : D} (r : Reps K F H ds vs) (h : atI ds i = .ok d) : ∃ v, L2.atI vs i = some v ∧ Rep K F H d v := by
  have hl := r.length
  unfold atI at h
  unfold L2.atI ixN
  split at h
  · rename_i h0
    split at h
    · rename_i d' e
      cases h
      obtain ⟨v, e1, e2⟩ := r.get e
      have hlt := (List.getElem?_eq_some_iff.mp e1).1
      refine ⟨v, ?_, e2⟩
      rw [if_pos h0, if_pos (by omega)]
      exact e1
    · cases h
  · rename_i h0
    split at h
    · rename_i h1
      split at h
      · rename_i d' e
        cases h
        obtain ⟨v, e1, e2⟩ := r.get e
        refine ⟨v, ?_, e2⟩
        rw [if_neg h0, if_pos (by omega)]
        rw [hl] at e1
        exact e1
      · cases h
    · cases h
theorem ix_ok {X : Cx} : IxR X (rD2 X .val idxD) := by
  intro value slice pins s σ H x y v u Q I rx ry h hs
  obtain ⟨F, dx, dy, dm, bx, by_, h⟩ := h
  refine ix_seq value slice pins s σ H x y v u Q I rx ry ?_ hs
  cases dx with
  | tup ds =>
    cases dy with
    | int i =>
      obtain ⟨a, vs, rfl, ft, r⟩ := bx.tup
      cases by_.int
      cases e : atI ds i with
      | ok d =>
        simp only [idxD] at h
        rw [e] at h
        obtain ⟨w, e1, rp⟩ := atI_eq r e
        exact .inr (.inl ⟨a, vs, i, w, rfl, rfl, ft.sq, e1, h w F H (Ext.refl dm) rp⟩)
      | err c => simp only [idxD] at h; rw [e] at h; unfold atI at e; split at e <;> (try split at e) <;> (try split at e) <;> cases e
      | stk => simp only [idxD] at h; rw [e] at h; exact False.elim h
    | _ => exact False.elim h
  | lst ds =>
    cases dy with
    | int i =>
      obtain ⟨a, vs, rfl, ft, r⟩ := bx.lst
      cases by_.int
      cases e : atI ds i with
      | ok d =>
        simp only [idxD] at h
        rw [e] at h
        obtain ⟨w, e1, rp⟩ := atI_eq r e
        exact .inl ⟨a, vs, i, w, rfl, rfl, ft, e1, h w F H (Ext.refl dm) rp⟩
      | err c => simp only [idxD] at h; rw [e] at h; unfold atI at e; split at e <;> (try split at e) <;> (try split at e) <;> cases e
      | stk => simp only [idxD] at h; rw [e] at h; exact False.elim h
    | _ => exact False.elim h
  | _ => cases dy <;> exact False.elim h
/-! ### slices -/
theorem sIx_eq (n d : Nat) (o : Option Int) : sIx n d o = HT.sIx n d o := by cases o <;> rfl
theorem cut_rep {K : Frag} {F : Addr → Prop} {H : Hp} {ds : List D} {vs : List V} (r : Reps K F H ds vs) (lo hi : Option Int) : Reps K F H (cut ds lo hi) (cutV vs lo hi) := by
  unfold cut cutV
  rw [sIx_eq, sIx_eq, r.length]
  exact (r.drop _).take _
def rD3 (X : Cx) (m : Md) (g : D → Option Int → Option Int → R D) : V → Option Int → Option Int → Hp → VK → Prop := fun x lo hi H Q => ∃ F dx, Dom F H ∧ RepB X.K F H dx x ∧ Ok (XW X H) (g dx lo hi) (Post m X.K F H Q)
theorem sl_ok {X : Cx} : SlR X (rD3 X .fre slcD) := by
  intro pins s σ H x v vl vu lo hi sl Q I rx hs pl pu h
  obtain ⟨F, dx, dm, bx, h⟩ := h
  refine (sl_tup.or (sl_tupW.or sl_list)) pins s σ H x v vl vu lo hi sl Q I rx hs pl pu ?_
  cases dx with
  | tup ds =>
    obtain ⟨a, vs, rfl, ft, r⟩ := bx.tup
    by_cases hw : HT.sIx vs.length 0 lo = 0 ∧ HT.sIx vs.length vs.length hi = vs.length
    · refine .inr (.inl ⟨a, vs, rfl, ft.sq, hw, ?_⟩)
      have e : cut ds lo hi = ds := by
        unfold cut
        rw [sIx_eq, sIx_eq, r.length, hw.1, hw.2, ← r.length]
        simp
      simp only [slcD] at h
      rw [e] at h
      exact Post.tupOld h dm ft r
    · exact .inl ⟨a, vs, rfl, ft.sq, hw, Post.tup (by intro z; cases z) h dm (cut_rep r lo hi)⟩
  | lst ds =>
    obtain ⟨a, vs, rfl, ft, r⟩ := bx.lst
    exact .inr (.inr ⟨a, vs, rfl, ft, Post.lst h dm (cut_rep r lo hi)⟩)
  | _ => exact False.elim h
def tO (X : Cx) (B : Bs) (f : Rho → R (Option Int)) : TO := fun σ H Q => ∃ F ρ, SR X.K B F H σ ρ ∧ Ok (XW X H) (f ρ) fun o => ∀ F' H', Ext F H F' H' → Q o H'
theorem PO.imp {X : Cx} {e : Option Expr} {t t' : TO} (h : PO X e t) (k : ∀ σ H Q, t' σ H Q → t σ H Q) : PO X e t' := fun pins s σ H Q I q => h pins s σ H Q I (k σ H Q q)
theorem po_nil {X : Cx} {B : Bs} {G : Calls} : PO X none (tO X B (evO G .none)) := PO.imp po_none fun σ H Q q => by
  obtain ⟨F, ρ, r, q⟩ := q
  simp only [evO] at q
  exact q F H (Ext.refl r.dom)
theorem po_val {X : Cx} {B : Bs} {G : Calls} {e : Expr} {m : Md} {E' : E} (h : PE X e (tE X B m (evE G E'))) : PO X (some e) (tO X B (evO G (.some E'))) := PO.imp (po_some (PE.bor h)) fun σ H Q q => by
  obtain ⟨F, ρ, r, q⟩ := q
  simp only [evO] at q
  refine ⟨F, ρ, r, q.bind.imp (fun _ w => w) fun d h1 v F' H' ex rp => ?_⟩
  cases d with
  | int i => cases rp.int; exact ⟨i, rfl, h1 F' H' ex⟩
  | _ => exact False.elim h1
theorem tE.slice {X : Cx} {B : Bs} {σ : L2.St} {H : Hp} {Q : VK} {fa : Rho → R D} {fl fh : Rho → R (Option Int)} (h : tE X B .fre (fun ρ => (fa ρ).bind fun x => (fl ρ).bind fun l => (fh ρ).bind fun u => slcD x l u) σ H Q) : tSl (rD3 X .fre slcD) (tE X B .bor fa) (tO X B fl) (tO X B fh) σ H Q := by
  obtain ⟨F, ρ, r, h⟩ := h
  refine ⟨F, ρ, r, h.bind.imp (fun _ w => w) fun d h1 v F1 H1 e1 rp => ⟨F1, ρ, r.ext e1, h1.bind.imp (fun c w => XW.mono w e1.same) fun l h2 F2 H2 e2 => ⟨F2, ρ, (r.ext e1).ext e2, h2.bind.imp (fun c w => XW.mono w (e1.trans e2).same) fun u h3 F3 H3 e3 => ?_⟩⟩⟩
  have e12 := e1.trans e2
  exact ⟨F3, d, e3.dom, (rp.ext e2 e1.dom).ext e3 e2.dom, h3.imp (fun c w => XW.mono w (e12.trans e3).same) fun d' p => Post.ext p (e12.trans e3)⟩
theorem plain_ix {i : Expr} (h : ∀ a b c d, i ≠ .Slice a b c d) : PlainIx i := fun o v => by
  cases i <;> first | rfl | exact absurd rfl (h _ _ _ _)
end DI

namespace DI
open PySem PySem.Spec PyProof.Rows L2

theorem str_eq {x y : Str} (h : (x == y) = true) : x = y := by simpa using h
theorem bad3 {x : Str} (h : badN x = false) : (x == ("__debug__" : Str)) = false ∧ x ≠ "__name__" := by
  unfold badN at h
  simp only [Bool.or_eq_false_iff] at h
  refine ⟨h.1.1, fun z => ?_⟩
  subst z
  exact absurd h.2 (by decide)
theorem tyOf_py {x : Str} {t : Ty} (h : tyOf x = some t) : t.flat = true ∧ x = Str.ofString t.py ∧ x ∈ bltNames ∧ bootBuiltins x = some (.type t.py) := by
  unfold tyOf at h
  split at h
  · rename_i e; cases h; subst e; exact ⟨rfl, rfl, by decide +kernel, by decide +kernel⟩
  · split at h
    · rename_i e; cases h; subst e; exact ⟨rfl, rfl, by decide +kernel, by decide +kernel⟩
    · split at h
      · rename_i e; cases h; subst e; exact ⟨rfl, rfl, by decide +kernel, by decide +kernel⟩
      · split at h
        · rename_i e; cases h; subst e; exact ⟨rfl, rfl, by decide +kernel, by decide +kernel⟩
        · split at h
          · rename_i e; cases h; subst e; exact ⟨rfl, rfl, by decide +kernel, by decide +kernel⟩
          · split at h
            · rename_i e; cases h; subst e; exact ⟨rfl, rfl, by decide +kernel, by decide +kernel⟩
            · cases h
section
variable {T : Tab} {G : Calls} {m : Nat} {X : Cx} {sc : List (Str × NameKind)} {B : Bs}
/-- a call of a def -/
theorem snd_call (D : XD T G m X sc) {f : Str} {k : Nat} {p pos : Pos} {args : List Expr} {es : List E} (hf : knd sc f = 2) (hb : badN f = false) (hk : ixOf T.defs f = some k) (hl : args.length = es.length)
    (h : PA X args (tL X B (evEs G (toEs es))) ∧ ∀ e ∈ args, ∀ a p, e ≠ .Starred a p) : PE X (.Call (.Name f p) args [] pos) (tE X B .val (evE G (.call k (toEs es)))) := by
  obtain ⟨fa, fd, ps, hm, hkp, hbd, hF⟩ := D.defs k f (ixOf_get hk)
  have key : ∀ σ H Q, tE X B .val (evE G (.call k (toEs es))) σ H Q → tCall (spD X.K G k) [] (fun e _ H' => ∀ pins σ s', Inv X pins σ H' s' → X.xe e s') (tL X B (evEs G (toEs es))) σ H Q := by
    intro σ H Q ⟨F, ρ, r, q⟩
    simp only [evE] at q
    refine ⟨F, ρ, r, q.bind.imp (fun _ w => w) fun ds h1 vs F1 H1 e1 rs => ?_⟩
    show spD X.K G k (vs ++ []) H1 Q _
    rw [List.append_nil]
    refine ⟨F1, ds, e1.dom, rs, h1.imp (fun c w e H' sm ev pins σ s' I => w pins σ H' s' e I (e1.same.trans sm) ev) fun d p v F2 H2 e2 rp => p v F2 H2 (e1.trans e2) rp⟩
  cases args with
  | nil =>
    refine PE.imp (pe_call0 (dvs := []) (ds := []) hF D.room (D.gl hf) hm hkp hbd .nil passD (bad3 hb).1) fun σ H Q q => ?_
    obtain ⟨F, ρ, r, z⟩ := key σ H Q q
    obtain ⟨pa, _⟩ := h
    cases es with
    | nil =>
      simp only [toEs, evEs] at z
      exact z [] F H (Ext.refl r.dom) .nil
    | cons E1 es' => simp at hl
  | cons e es' =>
    refine PE.imp (pe_call (dvs := []) (ds := []) hF D.room (D.gl hf) hm hkp hbd .nil passD h.1 (bad3 hb).1 (star_cons (h.2 e List.mem_cons_self)) (back_any (star_any fun x hx => h.2 x (List.mem_cons_of_mem _ hx)))) key

theorem mapO_len {α β : Type} {f : α → Option β} : ∀ {as : List α} {bs : List β}, mapO f as = some bs → as.length = bs.length
  | [], bs, h => by cases h; rfl
  | a :: as, bs, h => by
    obtain ⟨b, bs', _, h2, rfl⟩ := mapO_cons h
    rw [List.length_cons, List.length_cons, mapO_len h2]
theorem mapO_paired {α β : Type} {f : α → Option β} {P : α → β → Prop} (k : ∀ a b, f a = some b → P a b) : ∀ {as : List α} {bs : List β}, mapO f as = some bs → Paired P as bs
  | [], bs, h => by cases h; exact .nil
  | a :: as, bs, h => by
    obtain ⟨b, bs', h1, h2, rfl⟩ := mapO_cons h
    exact .cons (k a b h1) (mapO_paired k h2)
/-- what is said of an expression -/
structure Says (T : Tab) (G : Calls) (X : Cx) (b : Bool) (e : Expr) (E' : E) : Prop where
  pe : ∀ B, PE X e (tE X B E'.md (evE G E'))
  pt : ∀ B, PT X e (tT X B (evT G E'))
  ns : ∀ a p, e ≠ .Starred a p
  nb : b = false → E'.md ≠ .bor
theorem evT_tr {E' : E} (h : ∀ ρ, evT G E' ρ = (evE G E' ρ).bind truth) {e : Expr} (pe : PE X e (tE X B E'.md (evE G E'))) (he : ∀ whole, isTrue e X.env whole = (do let v ← whole; standAt e.pos; holding [v] (truthy v))) : PT X e (tT X B (evT G E')) := by
  rw [tT.congr h]
  exact pt_of pe he
theorem evT_no {E' : E} (h : ∀ ρ, evT G E' ρ = .stk) {e : Expr} : PT X e (tT X B (evT G E')) := by
  rw [tT.congr h]
  exact pt_stk
theorem snd_blt (D : XD T G m X sc) {f : Str} {g : Bf} {a : Expr} {E1 : E} {p pos : Pos} (hf : knd sc f = 2) (hb : badN f = false) (S : Says T G X true a E1)
    (hg : (if f = "len" then some Bf.len else if f = "tuple" then some .tuple else if f = "list" then some .list else if f = "all" then some .all else if f = "any" then some .any else none) = some g) :
    PE X (.Call (.Name f p) [a] [] pos) (tE X B (E.blt g (.seq E1)).md (evE G (.blt g (.seq E1)))) := by
  have ev : ∀ ρ, evE G (.blt g (.seq E1)) ρ = (evE G E1 ρ).bind (sqD (bfD g)) := fun ρ => by simp only [evE, evI, R.bind_assoc]; rfl
  have hpa : PA X [a] (tCons (tE X B .bor (evE G E1)) tNil) := pa_cons (PE.bor (S.pe B)) pa_nil (star_cons S.ns)
  have he : starEach [a] X.env = (false, eval a X.env) :: starEach [] X.env := star_cons S.ns
  have hd := (bad3 hb).1
  have hn := (bad3 hb).2
  rw [tE.congr ev]
  split at hg
  · rename_i e; cases hg; subst e
    exact PE.imp (pe_callB call_len_seq (D.gl hf) (D.blt _ (by decide +kernel)) PySem.boot_len hpa hn hd he rfl) fun σ H Q q => tE.arg bf_len q
  · split at hg
    · rename_i e; cases hg; subst e
      exact PE.imp (pe_callTy call_tuple_of (D.gl hf) (D.blt _ (by decide +kernel)) (by decide +kernel) hpa hn hd he rfl) fun σ H Q q => tE.arg bf_tuple q
    · split at hg
      · rename_i e; cases hg; subst e
        exact PE.imp (pe_callTy call_list_of (D.gl hf) (D.blt _ (by decide +kernel)) (by decide +kernel) hpa hn hd he rfl) fun σ H Q q => tE.arg bf_list q
      · split at hg
        · rename_i e; cases hg; subst e
          exact PE.imp (pe_callB (call_allB D.calm true) (D.gl hf) (D.blt _ (by decide +kernel)) (by decide +kernel) hpa hn hd he rfl) fun σ H Q q => tE.arg (bf_all true) q
        · split at hg
          · rename_i e; cases hg; subst e
            exact PE.imp (pe_callB (call_allB D.calm false) (D.gl hf) (D.blt _ (by decide +kernel)) (by decide +kernel) hpa hn hd he rfl) fun σ H Q q => tE.arg (bf_all false) q
          · cases hg
theorem snd_isi (D : XD T G m X sc) {a : Expr} {E1 : E} {t : Str} {ty : Ty} {p pt pos : Pos} (hf : knd sc "isinstance" = 2) (ht : knd sc t = 2) (hbt : badN t = false) (S : Says T G X true a E1) (hty : tyOf t = some ty) :
    PE X (.Call (.Name "isinstance" p) [a, .Name t pt] [] pos) (tE X B .val (evE G (.isi E1 [ty]))) := by
  obtain ⟨h1, h2, h3, h4⟩ := tyOf_py hty
  have hpt : PE X (.Name t pt) (tC (.ty ty.py)) := pe_bltn (D.gl ht) (D.blt _ h3) h4 rfl (bad3 hbt).2 (bad3 hbt).1
  have ns : ∀ a p, Expr.Name t pt ≠ .Starred a p := fun _ _ z => by cases z
  have hpa : PA X [a, .Name t pt] (tCons (tE X B .bor (evE G E1)) (tCons (tC (.ty ty.py)) tNil)) := pa_cons (PE.bor (S.pe B)) (pa_cons hpt pa_nil (star_cons ns)) (star_cons S.ns)
  refine PE.imp (pe_callB (call_isi h1) (D.gl hf) (D.blt _ (by decide +kernel)) (by decide +kernel) hpa (by decide) (by decide) (star_cons S.ns) (back_any (star_any fun x hx => by
    have : x = .Name t pt := by simpa using hx
    subst this
    exact ns))) fun σ H Q q => ?_
  have q2 : tE X B .val (fun ρ => (evE G E1 ρ).bind fun x => (tyAny x [ty]).bind fun b => .ok (.bl b)) σ H Q := by simpa only [evE] using q
  obtain ⟨F, ρ, r', h3⟩ := tE.one q2
  exact ⟨F, ρ, r', h3.imp (fun _ w => w) fun d p v F' H' e q => ⟨v, rfl, p v F' H' e q⟩⟩
end
end DI

namespace DI
open PySem PySem.Spec PyProof.Rows L2
variable {T : Tab} {G : Calls} {m : Nat}

/-- what is walked in a comprehension -/
theorem snd_iter {n : Nat} {X : Cx} {sc : List (Str × NameKind)} (D : XD T G m X sc) (ih : ∀ e E', trE T n sc X.N true e = some E' → Says T G X true e E') {iter tg : Expr} {it : It} (h : trIo T sc (trE T n sc X.N true) iter = some it) (B : Bs) :
    PI X tg iter (tI X B (evI G it)) := by
  have gen : ∀ {e : Expr} {it : It}, (trE T n sc X.N true e).map It.seq = some it → PI X tg e (tI X B (evI G it)) := fun {e it} h => by
    cases q : trE T n sc X.N true e with
    | none => rw [q] at h; cases h
    | some E' =>
      rw [q] at h
      cases h
      have := pi_dat (tg := tg) ((ih e E' q).pe B)
      have ev : (fun ρ => (evE G E' ρ).bind seqOf) = evI G (.seq E') := by funext ρ; simp only [evI]
      rwa [ev] at this
  unfold trIo at h
  split at h
  · split at h
    · rename_i f p a pos hc
      simp only [Bool.and_eq_true, decide_eq_true_eq, beq_iff_eq] at hc
      obtain ⟨⟨hf, hk⟩, hd⟩ := hc
      subst hf
      cases q : trE T n sc X.N true a with
      | none => rw [q] at h; cases h
      | some E' =>
        rw [q] at h
        cases h
        have S := ih a E' q
        have := pi_rng1 (tg := tg) (p := p) (pos := pos) (D.gl hk) (D.blt _ (by decide +kernel)) (S.pe B) S.ns
        have ev : (fun ρ => (evE G E' ρ).bind rng1D) = evI G (.rng1 E') := by funext ρ; simp only [evI]
        rwa [ev] at this
    · exact gen h
  · split at h
    · rename_i f p a b pos hc
      simp only [Bool.and_eq_true, decide_eq_true_eq, beq_iff_eq] at hc
      obtain ⟨⟨hf, hk⟩, hd⟩ := hc
      subst hf
      split at h
      · rename_i Ea Eb qa qb
        cases h
        have Sa := ih a Ea qa
        have Sb := ih b Eb qb
        have := pi_rng2 (tg := tg) (p := p) (pos := pos) (D.gl hk) (D.blt _ (by decide +kernel)) (Sa.pe B) Sa.ns (Sb.pe B) Sb.ns
        have ev : (fun ρ => (evE G Ea ρ).bind fun x => (evE G Eb ρ).bind fun y => rng2D x y) = evI G (.rng2 Ea Eb) := by funext ρ; simp only [evI]
        rwa [ev] at this
      · cases h
    · exact gen h
  · exact gen h
theorem trI_notSet {n : Nat} {sc : List (Str × NameKind)} {N : List Str} {iter : Expr} {it : It} (h : trIo T sc (trE T n sc N true) iter = some it) : ∀ a b c, iter ≠ .Set a b c := by
  intro a b c z
  subst z
  cases n with
  | zero => simp [trIo, trE] at h
  | succ n => simp [trIo, trE] at h

theorem foldB_two {f : E → E → E} {es : List E} {E' : E} (hl : 2 ≤ es.length) (h : foldB f es = some E') : ∃ a b, E' = f a b := by
  match es, hl, h with
  | a :: b :: r, _, h =>
    simp only [foldB] at h
    cases q : foldB f (b :: r) with
    | none => rw [q] at h; cases h
    | some c => rw [q] at h; cases h; exact ⟨a, c, rfl⟩
theorem mapO_get {α β : Type} {f : α → Option β} : ∀ {as : List α} {bs : List β} {i : Nat} {a : α} {b : β}, mapO f as = some bs → as[i]? = some a → bs[i]? = some b → f a = some b
  | [], _, _, _, _, _, e, _ => by simp at e
  | x :: as, bs, i, a, b, h, e1, e2 => by
    obtain ⟨y, bs', h1, h2, rfl⟩ := mapO_cons h
    cases i with
    | zero => simp at e1 e2; rw [← e1, ← e2]; exact h1
    | succ i => exact mapO_get h2 (by simpa using e1) (by simpa using e2)
theorem rel_local {scope : Scope} {env : Env} {x : Str} (h : scope.names.lookup x = some .local) : (relabel scope env).names.lookup x = some .local := by
  unfold relabel
  simp only
  rw [lookup_rel (c := fun n k => k == .free && env.scope.kind == .function && env.kindOf n == some .cell), h]
  rfl
/-- what a comprehension asks -/
structure CompD (X : Cx) (G : Calls) (scope : Scope) (N cn : List Str) (nt : Nat) (caps : List Nat) (elt tg iter : Expr) (ks : List Expr) (tgs : List Nat) (one : Bool) (it : It) (fc : Option (Rho → R Bool)) (Ee : E) : Prop where
  C : CompOk X scope N cn nt caps
  hT : ∀ s' H' fp, TgOk (cxComp X N scope s' H' fp) tg tgs one
  hlow : ∀ i ∈ tgs, i < nt
  hi : ∀ B, PI X tg iter (tI X B (evI G it))
  hE : ∀ s' H' fp B', PE (cxComp X N scope s' H' fp) elt (tE (cxComp X N scope s' H' fp) B' Ee.md (evE G Ee))
  hm : Ee.md ≠ .bor
  hK : (ks = [] ∧ fc = none) ∨ ∃ k g, ks = [k] ∧ fc = some g ∧ ∀ s' H' fp B', PT (cxComp X N scope s' H' fp) k (tT (cxComp X N scope s' H' fp) B' g)
  hs : ∀ x, foldedSetIterable iter X.env x = pure x
theorem snd_compD {n : Nat} {X : Cx} {sc : List (Str × NameKind)} (D : XD T G m X sc) (ih : ∀ (X : Cx) (sc : List (Str × NameKind)) (b : Bool) (e : Expr) (E' : E), XD T G m X sc → trE T n sc X.N b e = some E' → Says T G X b e E')
    {elt tg iter : Expr} {ks : List Expr} {scope : Scope} {xs : List Str} {one : Bool} {caps : List Nat} {it : It} {Ee : E} {Ec : Oe} (htg : tgNames tg = some (xs, one))
    (c1 : scope.kind = .function) (c2 : ∀ y ∈ scope.names, y.2 ≠ .cell) (c3 : ∀ y ∈ scope.names, y.2 = .local → scope.names.lookup y.1 = some .local) (c4 : (xs ++ (scope.names.filter fun p => p.2 == .free).map (·.1)).Nodup)
    (c5 : ∀ x ∈ xs, scope.names.lookup x = some .local) (c6 : ∀ x ∈ (scope.names.filter fun p => p.2 == .free).map (·.1), scope.names.lookup x = some .free ∧ (sc.lookup x = some .cell ∨ sc.lookup x = some .free))
    (hcaps : mapO (ixOf X.N) ((scope.names.filter fun p => p.2 == .free).map (·.1)) = some caps) (hit : trIo T sc (trE T n sc X.N true) iter = some it) (helt : trE T n scope.names (xs ++ (scope.names.filter fun p => p.2 == .free).map (·.1)) false elt = some Ee)
    (hks : (match ks with | [] => some Oe.none | [k] => (trE T n scope.names (xs ++ (scope.names.filter fun p => p.2 == .free).map (·.1)) true k).map Oe.some | _ => none) = some Ec) :
    ∃ N cn fc, CompD X G scope N cn xs.length caps elt tg iter ks (List.range xs.length) one it fc Ee ∧
      ∀ ρ, evE G (.comp Ee (List.range xs.length) one xs.length caps it Ec) ρ = (evI G it ρ).bind fun zs => (compGo (itemF (List.range xs.length) one (rho0 xs.length caps ρ) fc (evE G Ee)) zs).noErr.bind fun ys => .ok (.lst ys) := by
  generalize hcn : (scope.names.filter fun p => p.2 == .free).map (·.1) = cn at *
  have C : CompOk X scope (xs ++ cn) cn xs.length caps := by
    refine ⟨c1, c2, c3, fun y hy e => ?_, c4, ⟨xs, rfl, rfl⟩, mapO_len hcaps, fun k j x h1 h2 => ⟨ixOf_get (mapO_get hcaps h1 h2), (c6 x (List.mem_of_getElem? h1)).1⟩⟩
    have hm : y.1 ∈ cn := by
      rw [← hcn]
      exact List.mem_map.mpr ⟨y, List.mem_filter.mpr ⟨hy, by simp [e]⟩, rfl⟩
    have := (c6 y.1 hm).2
    rcases D.sc y.1 with z | ⟨_, z⟩
    · rw [z]; exact this
    · exact .inl z
  have hT : ∀ s' H' fp, TgOk (cxComp X (xs ++ cn) scope s' H' fp) tg (List.range xs.length) one := fun s' H' fp => by
    have hN : ∀ (i : Nat) x, xs[i]? = some x → (xs ++ cn)[i]? = some x ∧ (relabel scope X.env).names.lookup x = some .local := fun i x e => ⟨by rw [List.getElem?_append_left (List.getElem?_eq_some_iff.mp e).1]; exact e, rel_local (c5 x (List.mem_of_getElem? e))⟩
    cases tg <;> try (simp only [tgNames] at htg; cases htg)
    · rename_i x pos
      obtain ⟨a, b⟩ := hN 0 x rfl
      exact .one a (.inl b) (.inr b)
    · rename_i es k pos
      simp only [tgNames] at htg
      cases q : mapO nmOf es with
      | none => rw [q] at htg; cases htg
      | some ys =>
        rw [q] at htg
        cases htg
        obtain ⟨ps, l1, l2, e⟩ := nms_of q
        rw [e]
        have := tgs_of (X := cxComp X (xs ++ cn) scope s' H' fp) xs ps 0 l2 fun i x hx => by
          rw [Nat.zero_add]
          exact hN i x hx
        simp only [Nat.zero_add, List.map_id'] at this
        exact .many this
  have hlow : ∀ i ∈ List.range xs.length, i < xs.length := fun i h => List.mem_range.mp h
  have hi : ∀ B, PI X tg iter (tI X B (evI G it)) := fun B => snd_iter (tg := tg) D (fun e E' h => ih X sc true e E' D h) hit B
  have hE : ∀ s' H' fp B', PE (cxComp X (xs ++ cn) scope s' H' fp) elt (tE (cxComp X (xs ++ cn) scope s' H' fp) B' Ee.md (evE G Ee)) := fun s' H' fp B' => (ih (cxComp X (xs ++ cn) scope s' H' fp) scope.names false elt Ee (D.comp c4) helt).pe B'
  have hm : Ee.md ≠ .bor := (ih (cxComp X (xs ++ cn) scope X.s₀ X.H₀ []) scope.names false elt Ee (D.comp c4) helt).nb rfl
  have hs := folded_ok (env := X.env) (trI_notSet hit)
  cases ks with
  | nil =>
    cases hks
    exact ⟨xs ++ cn, cn, none, ⟨C, hT, hlow, hi, hE, hm, .inl ⟨rfl, rfl⟩, hs⟩, fun ρ => by simp only [evE]; rfl⟩
  | cons k r =>
    cases r with
    | nil =>
      simp only at hks
      cases q : trE T n scope.names (xs ++ cn) true k with
      | none => rw [q] at hks; cases hks
      | some Ek =>
        rw [q] at hks
        cases hks
        exact ⟨xs ++ cn, cn, some (evT G Ek), ⟨C, hT, hlow, hi, hE, hm, .inr ⟨k, evT G Ek, rfl, rfl, fun s' H' fp B' => (ih (cxComp X (xs ++ cn) scope s' H' fp) scope.names true k Ek (D.comp c4) q).pt B'⟩, hs⟩, fun ρ => by simp only [evE]; rfl⟩
    | cons k2 r2 => cases hks
/-- a comprehension that was read -/
theorem comp_inv' {n : Nat} {X : Cx} {sc : List (Str × NameKind)} (D : XD T G m X sc) (ih : ∀ (X : Cx) (sc : List (Str × NameKind)) (b : Bool) (e : Expr) (E' : E), XD T G m X sc → trE T n sc X.N b e = some E' → Says T G X b e E') {b : Bool}
    {elt : Expr} {gens : List Comprehension} {scope : Scope} {pos : Pos} {E' : E} (h : trE T (n + 1) sc X.N b (.ListComp elt gens scope pos) = some E') :
    ∃ tg iter ks N cn nt caps tgs one it fc Ee Ec, gens = [⟨tg, iter, ks, 0⟩] ∧ E' = .comp Ee tgs one nt caps it Ec ∧ CompD X G scope N cn nt caps elt tg iter ks tgs one it fc Ee ∧
      ∀ ρ, evE G E' ρ = (evI G it ρ).bind fun zs => (compGo (itemF tgs one (rho0 nt caps ρ) fc (evE G Ee)) zs).noErr.bind fun ys => .ok (.lst ys) := by
  cases gens with
  | nil => simp [trE] at h
  | cons g r =>
    cases r with
    | cons g2 r2 => obtain ⟨tg, iter, ks, a⟩ := g; simp [trE] at h
    | nil =>
      obtain ⟨tg, iter, ks, a⟩ := g
      by_cases ha : a = 0
      · subst ha
        simp only [trE] at h
        split at h
        · cases h
        · rename_i xs one htg
          split at h
          · cases h
          · rename_i hc
            simp only [Bool.or_eq_true, not_or, Bool.not_eq_true, Bool.not_eq_false', beq_iff_eq] at hc
            obtain ⟨⟨⟨⟨⟨c1, c2⟩, c3⟩, c4⟩, c5⟩, c6⟩ := hc
            split at h
            · rename_i caps it Ee Ec hcaps hit helt hks
              cases h
              obtain ⟨N, cn, fc, cd, ev⟩ := snd_compD (Ec := Ec) D ih htg c1 (fun y hy z => by
                rw [List.any_eq_false] at c2
                exact c2 y hy (by simp [z])) (fun y hy z => by
                have := List.all_eq_true.mp c3 y hy
                rw [z] at this
                simpa using this) (ndp_nodup c4) (fun x hx => by simpa using List.all_eq_true.mp c5 x hx) (fun x hx => by simpa using List.all_eq_true.mp c6 x hx) hcaps hit helt hks
              exact ⟨tg, iter, ks, N, cn, xs.length, caps, _, one, it, fc, Ee, Ec, rfl, rfl, cd, ev⟩
            · cases h
      · simp [trE, ha] at h

theorem snd_all : ∀ (n : Nat) (X : Cx) (sc : List (Str × NameKind)) (b : Bool) (e : Expr) (E' : E), XD T G m X sc → trE T n sc X.N b e = some E' → Says T G X b e E' := by
  intro n
  induction n with
  | zero => intro X sc b e E' D h; simp [trE] at h
  | succ n ih =>
    intro X sc b e E' D h
    have ih1 : ∀ b e E', trE T n sc X.N b e = some E' → Says T G X b e E' := fun b e E' h => ih X sc b e E' D h
    have h0 := h
    unfold trE at h
    split at h
    · cases h
      exact ⟨fun B => snd_lit pe_non (fun _ z => by cases z) fun _ _ => by simp only [Rep], fun B => evT_tr (fun ρ => by simp only [evT, evE, R.bind_ok']) (snd_lit pe_non (fun _ z => by cases z) fun _ _ => by simp only [Rep]) (fun _ => rfl), (fun _ _ z => by cases z), fun _ z => by cases z⟩
    · cases h
      exact ⟨fun B => snd_lit pe_bl (fun _ z => by cases z) fun _ _ => by simp only [Rep], fun B => evT_tr (fun ρ => by simp only [evT, evE, R.bind_ok']) (snd_lit pe_bl (fun _ z => by cases z) fun _ _ => by simp only [Rep]) (fun _ => rfl), (fun _ _ z => by cases z), fun _ z => by cases z⟩
    · cases h
      exact ⟨fun B => snd_lit pe_int (fun _ z => by cases z) fun _ _ => by simp only [Rep], fun B => evT_tr (fun ρ => by simp only [evT, evE, R.bind_ok']) (snd_lit pe_int (fun _ z => by cases z) fun _ _ => by simp only [Rep]) (fun _ => rfl), (fun _ _ z => by cases z), fun _ z => by cases z⟩
    · cases h
      exact ⟨fun B => snd_lit pe_str (fun _ z => by cases z) fun _ _ => by simp only [Rep], fun B => evT_tr (fun ρ => by simp only [evT, evE, R.bind_ok']) (snd_lit pe_str (fun _ z => by cases z) fun _ _ => by simp only [Rep]) (fun _ => rfl), (fun _ _ z => by cases z), fun _ z => by cases z⟩
    · -- Name
      rename_i x pos
      split at h
      · cases h
      · rename_i hb
        have hb : badN x = false := by simpa using hb
        split at h
        · rename_i hk
          cases q : ixOf X.N x with
          | none => rw [q] at h; cases h
          | some i =>
            rw [q] at h
            have hs : ∀ B, _ := fun B => snd_name (G := G) (B := B) (pos := pos) D hk (ixOf_get q) hb
            cases b with
            | true =>
              rw [Option.map_some, if_pos rfl] at h
              cases h
              refine ⟨fun B => (hs B).2, fun B => evT_tr (fun ρ => ?_) (hs B).2 (fun _ => rfl), (fun _ _ z => by cases z), fun z => by cases z⟩
              simp only [evT, evE]
              split <;> rfl
            | false =>
              rw [Option.map_some, if_neg (by decide)] at h
              cases h
              exact ⟨fun B => (hs B).1, fun B => evT_no fun ρ => by simp only [evT], (fun _ _ z => by cases z), fun _ z => by cases z⟩
        · rename_i hk
          cases q : T.cons.lookup x with
          | none => rw [q] at h; cases h
          | some d =>
            rw [q] at h
            cases h
            obtain ⟨nl, u, v, hm, rv, rp⟩ := D.cons x d q
            have hp : ∀ B, PE X (.Name x pos) (tE X B .val (evE G (.lit d))) := fun B => snd_lit (pe_glob (D.gl hk) hm rv (bad3 hb).1) nl rp
            exact ⟨hp, fun B => evT_tr (fun ρ => by simp only [evT, evE, R.bind_ok']) (hp B) (fun _ => rfl), (fun _ _ z => by cases z), fun _ z => by cases z⟩
        · cases h
    · -- BinOp
      split at h
      · rename_i l op r pos o El Er ho hl hr
        cases h
        have Sl := ih1 _ _ _ hl
        have Sr := ih1 _ _ _ hr
        cases opOf_py ho
        refine ⟨fun B => PE.imp (pe_op (op_ok o) (PE.bor (Sl.pe B)) (PE.bor (Sr.pe B))) fun σ H Q q => tE.two (by simpa only [evE, E.md] using q), fun B => evT_no fun ρ => by simp only [evT], (fun _ _ z => by cases z), fun _ z => ?_⟩
        simp only [E.md] at z
        cases o <;> cases z
      · cases h
    · -- - a
      rename_i a pos
      cases q : trE T n sc X.N true a with
      | none => rw [q] at h; cases h
      | some Ea =>
        rw [q] at h; cases h
        have S := ih1 _ _ _ q
        refine ⟨fun B => PE.imp (pe_un un_neg (PE.bor (S.pe B))) fun σ H Q z => ?_, fun B => evT_no fun ρ => by simp only [evT], (fun _ _ z => by cases z), fun _ z => by cases z⟩
        have z2 : tE X B .val (fun ρ => (evE G Ea ρ).bind negD) σ H Q := by simpa only [evE, E.md] using z
        obtain ⟨F, ρ, r', h3⟩ := tE.one z2
        refine ⟨F, ρ, r', h3.imp (fun _ w => w) fun d p v F' H' e q => ?_⟩
        obtain ⟨F3, d3, dm, rp, h4⟩ := p v F' H' e q
        cases d3 with
        | int i => cases rp.int; exact ⟨i, rfl, Post.int h4 dm⟩
        | _ => exact False.elim h4
    · -- not a
      rename_i a pos
      cases q : trE T n sc X.N true a with
      | none => rw [q] at h; cases h
      | some Ea =>
        rw [q] at h; cases h
        have S := ih1 _ _ _ q
        exact ⟨fun B => PE.imp (pe_not (PE.bor (S.pe B))) fun σ H Q z => tNot_of (by simpa only [evE, E.md] using z), fun B => PT.imp (pt_not (S.pt B)) fun σ H Q z => tTNot_of (by simpa only [evT] using z), (fun _ _ z => by cases z), fun _ z => by cases z⟩
    · -- and
      rename_i vs pos
      split at h
      · cases h
      rename_i hlen
      cases q : mapO (trE T n sc X.N true) vs with
      | none => rw [q] at h; cases h
      | some es =>
        rw [q] at h
        have hp : ∀ B, Paired (fun e E' => PE X e (tE X B (E.md E') (evE G E')) ∧ PT X e (tT X B (evT G E'))) vs es := fun B => mapO_paired (fun e E' z => ⟨(ih1 _ _ _ z).pe B, (ih1 _ _ _ z).pt B⟩) q
        refine ⟨fun B => (snd_and (hp B) h).1, fun B => (snd_and (hp B) h).2.pt, (fun _ _ z => by cases z), fun _ z => ?_⟩
        obtain ⟨a, c, rfl⟩ := foldB_two (by rw [← mapO_len q]; omega) h
        cases z
    · -- or
      rename_i vs pos
      split at h
      · cases h
      rename_i hlen
      cases q : mapO (trE T n sc X.N true) vs with
      | none => rw [q] at h; cases h
      | some es =>
        rw [q] at h
        have hp : ∀ B, Paired (fun e E' => PE X e (tE X B (E.md E') (evE G E')) ∧ PT X e (tT X B (evT G E'))) vs es := fun B => mapO_paired (fun e E' z => ⟨(ih1 _ _ _ z).pe B, (ih1 _ _ _ z).pt B⟩) q
        refine ⟨fun B => (snd_or (hp B) h).1, fun B => (snd_or (hp B) h).2.pt, (fun _ _ z => by cases z), fun _ z => ?_⟩
        obtain ⟨a, c, rfl⟩ := foldB_two (by rw [← mapO_len q]; omega) h
        cases z
    · -- compare
      split at h
      · rename_i a op c pos o Ea Ec ho ha hc
        cases h
        have Sa := ih1 _ _ _ ha
        have Sc := ih1 _ _ _ hc
        obtain ⟨e1, e2, e3, e4⟩ := cmOf_py ho
        subst e1
        have ok := cm_ok (X := X) (units_of D.room) o e2
        refine ⟨fun B => PE.imp (pe_cmpR ok (PE.bor (Sa.pe B)) (PE.bor (Sc.pe B)) (nomark _ e3 e4)) fun σ H Q q => tE.two (by simpa only [evE, E.md, bD] using q), fun B => PT.imp (pt_cmpR ok (PE.bor (Sa.pe B)) (PE.bor (Sc.pe B)) (nomark _ e3 e4)) fun σ H Q q => ?_, (fun _ _ z => by cases z), fun _ z => by cases z⟩
        have q2 := tT.toE (m := .val) (by simpa only [evT] using q)
        simp only [R.bind_assoc] at q2
        exact tE.two q2
      · cases h
    · -- tuple
      rename_i es k pos
      cases q : mapO (trE T n sc X.N false) es with
      | none => rw [q] at h; cases h
      | some Es' =>
        rw [q] at h; cases h
        have hp : ∀ B, _ := fun B => pa_data (B := B) (G := G) (fun e E' z => ⟨PE.val ((ih1 _ _ _ z).pe B) ((ih1 _ _ _ z).nb rfl), (ih1 _ _ _ z).ns⟩) q
        refine ⟨fun B => PE.imp (pe_tup (hp B).1) fun σ H Q z => ?_, fun B => evT_no fun ρ => by simp only [evT], (fun _ _ z => by cases z), fun _ z => by cases z⟩
        obtain ⟨F, ρ, r, z⟩ := z
        simp only [evE] at z
        refine ⟨F, ρ, r, z.bind.imp (fun _ w => w) fun ds h1 vs F' H' ex rs => ?_⟩
        split at h1
        · rename_i hf
          exact ⟨by rw [← rs.length]; exact fits_le hf, Post.tup (by intro z; cases z) (Post.ext h1 ex) ex.dom rs⟩
        · exact False.elim h1
    · -- list
      rename_i es pos
      cases q : mapO (trE T n sc X.N false) es with
      | none => rw [q] at h; cases h
      | some Es' =>
        rw [q] at h; cases h
        have hp : ∀ B, _ := fun B => pa_data (B := B) (G := G) (fun e E' z => ⟨PE.val ((ih1 _ _ _ z).pe B) ((ih1 _ _ _ z).nb rfl), (ih1 _ _ _ z).ns⟩) q
        refine ⟨fun B => PE.imp (pe_lst (hp B).1) fun σ H Q z => ?_, fun B => evT_no fun ρ => by simp only [evT], (fun _ _ z => by cases z), fun _ z => by cases z⟩
        obtain ⟨F, ρ, r, z⟩ := z
        simp only [evE] at z
        refine ⟨F, ρ, r, z.bind.imp (fun _ w => w) fun ds h1 vs F' H' ex rs => ?_⟩
        split at h1
        · rename_i hf
          exact ⟨by rw [← rs.length]; exact fits_le hf, Post.lst (Post.ext h1 ex) ex.dom rs⟩
        · exact False.elim h1
    · -- {}
      cases h
      refine ⟨fun B => PE.imp pe_dnewK fun σ H Q z => ?_, fun B => evT_no fun ρ => by simp only [evT], (fun _ _ z => by cases z), fun _ z => by cases z⟩
      obtain ⟨F, ρ, r, z⟩ := z
      simp only [evE] at z
      intro p hp
      refine z _ _ _ (Ext.newF r.dom hp) ?_
      show Rep _ _ _ _ _
      simp only [Rep]
      exact ⟨p, rfl, .inr rfl, upd_same⟩
    · -- a[lo:hi]
      rename_i a lo hi p2 pos
      split at h
      · rename_i Ea Elo Ehi ha hlo hhi
        cases h
        have Sa := ih1 _ _ _ ha
        have part : ∀ {o : Option Expr} {O : Oe}, (match o with | none => some Oe.none | some e => (trE T n sc X.N true e).map Oe.some) = some O → ∀ B, PO X o (tO X B (evO G O)) := fun {o O} z B => by
          cases o with
          | none => cases z; exact po_nil
          | some e =>
            simp only at z
            cases q : trE T n sc X.N true e with
            | none => rw [q] at z; cases z
            | some E' => rw [q] at z; cases z; exact po_val ((ih1 _ _ _ q).pe B)
        have hp : ∀ B, PE X (.Subscript a (.Slice lo hi none p2) pos) (tE X B .fre (evE G (.slc Ea Elo Ehi))) := fun B => PE.imp (pe_slice sl_ok (PE.bor (Sa.pe B)) (part hlo B) (part hhi B)) fun σ H Q q => tE.slice (by simpa only [evE] using q)
        exact ⟨hp, fun B => evT_tr (fun ρ => by simp only [evT, evE, R.bind_assoc]) (hp B) (fun _ => rfl), (fun _ _ z => by cases z), fun _ z => by cases z⟩
      · cases h
    · -- a[i]
      rename_i a i pos hns
      split at h
      · cases h
      · rename_i hi
        split at h
        · rename_i Ea Ei ha hi'
          cases h
          have Sa := ih1 _ _ _ ha
          have Si := ih1 _ _ _ hi'
          have hp : ∀ B, PE X (.Subscript a i pos) (tE X B .val (evE G (.idx Ea Ei))) := fun B => PE.imp (pe_ix ix_ok (PE.bor (Sa.pe B)) (PE.bor (Si.pe B)) (plain_ix fun a b c d z => hi a b c d z)) fun σ H Q q => tE.two (by simpa only [evE] using q)
          exact ⟨hp, fun B => evT_tr (fun ρ => by simp only [evT, evE, R.bind_assoc]) (hp B) (fun _ => rfl), (fun _ _ z => by cases z), fun _ z => by cases z⟩
        · cases h
    · -- f(..)
      rename_i f p args pos
      split at h
      · cases h
      · rename_i hc
        simp only [Bool.or_eq_true, not_or, Bool.not_eq_true, bne_eq_false_iff_eq] at hc
        obtain ⟨hb, hf⟩ := hc
        split at h
        · rename_i k hk
          cases q : mapO (trE T n sc X.N false) args with
          | none => rw [q] at h; cases h
          | some es =>
            rw [q] at h; cases h
            have hp : ∀ B, PE X (.Call (.Name f p) args [] pos) (tE X B .val (evE G (.call k (toEs es)))) := fun B => snd_call D hf hb hk (mapO_len q) (pa_data (B := B) (G := G) (fun e E' z => ⟨PE.val ((ih1 _ _ _ z).pe B) ((ih1 _ _ _ z).nb rfl), (ih1 _ _ _ z).ns⟩) q)
            exact ⟨hp, fun B => evT_tr (fun ρ => by simp only [evT, evE, R.bind_assoc]) (hp B) (fun _ => rfl), (fun _ _ z => by cases z), fun _ z => by cases z⟩
        · split at h
          · rename_i hfi
            subst hfi
            split at h
            · rename_i a t pt
              split at h
              · cases h
              · rename_i hc2
                simp only [Bool.or_eq_true, not_or, Bool.not_eq_true, bne_eq_false_iff_eq] at hc2
                split at h
                · rename_i Ea ty ha ht
                  cases h
                  have hp : ∀ B, _ := fun B => snd_isi (B := B) (p := p) (pt := pt) (pos := pos) D hf hc2.2 hc2.1 (ih1 _ _ _ ha) ht
                  exact ⟨hp, fun B => evT_tr (fun ρ => by simp only [evT, evE, R.bind_assoc, R.bind_ok']; congr; funext x; cases tyAny x [ty] <;> rfl) (hp B) (fun _ => rfl), (fun _ _ z => by cases z), fun _ z => by cases z⟩
                · cases h
            · cases h
          · split at h
            · rename_i a
              split at h
              · rename_i g Ea hg ha
                cases h
                have hp : ∀ B, _ := fun B => snd_blt (B := B) (p := p) (pos := pos) D hf hb (ih1 _ _ _ ha) hg
                refine ⟨hp, fun B => evT_tr (fun ρ => by simp only [evT, evE, R.bind_assoc]) (hp B) (fun _ => rfl), (fun _ _ z => by cases z), fun _ z => ?_⟩
                cases g <;> cases z
              · cases h
            · cases h
    · -- comprehension
      obtain ⟨tg, iter, ks, N, cn, nt, caps, tgs, one, it, fc, Ee, Ec, e1, rfl, cd, ev⟩ := comp_inv' D ih h0
      cases e1
      refine ⟨fun B => ?_, fun B => evT_no fun ρ => by simp only [evT], (fun _ _ z => by cases z), fun _ z => by cases z⟩
      have := pe_comp (pos := ‹Pos›) D.calm cd.C (cd.hi B) cd.hT cd.hlow cd.hE cd.hm cd.hK cd.hs
      rw [tE.congr ev]
      exact this
    · cases h
end DI

namespace DI
open PySem PySem.Spec PyProof.Rows L2

def FlP (K : Frag) (B : Bs) (F : Addr → Prop) (H : Hp) (D : Ends) : Fl → Prop
  | .nx ρ' => ∀ σ' F' H', Keep F F' H H' → SR K B F' H' σ' ρ' → D.nx σ' H'
  | .bk ρ' => ∀ σ' F' H', Keep F F' H H' → SR K B F' H' σ' ρ' → D.bk σ' H'
  | .ct ρ' => ∀ σ' F' H', Keep F F' H H' → SR K B F' H' σ' ρ' → D.ct σ' H'
  | .rt d => ∀ v F' H', Keep F F' H H' → Same B.hp H' → (∀ a, F' a → B.f a ∨ B.hp a = none) → Dom F' H' → Rep K F' H' d v → D.rt v H'
def tS (X : Cx) (B : Bs) (f : Rho → R Fl) : TS := fun D σ H => ∃ F ρ, SR X.K B F H σ ρ ∧ Ok (XW X B.hp) (f ρ) (FlP X.K B F H D)
theorem Keep.refl {F : Addr → Prop} {H : Hp} : Keep F F H H := fun _ h => ⟨h, rfl⟩
theorem Keep.trans {F F1 F2 : Addr → Prop} {H H1 H2 : Hp} (a : Keep F F1 H H1) (b : Keep F1 F2 H1 H2) : Keep F F2 H H2 := fun x h => by
  obtain ⟨f1, e1⟩ := a x h
  obtain ⟨f2, e2⟩ := b x f1
  exact ⟨f2, e2.trans e1⟩
theorem FlP.keep {K : Frag} {B : Bs} {F F1 : Addr → Prop} {H H1 : Hp} {D : Ends} {fl : Fl} (h : FlP K B F H D fl) (k : Keep F F1 H H1) : FlP K B F1 H1 D fl := by
  cases fl with
  | nx ρ => exact fun σ' F' H' k' r => h σ' F' H' (k.trans k') r
  | bk ρ => exact fun σ' F' H' k' r => h σ' F' H' (k.trans k') r
  | ct ρ => exact fun σ' F' H' k' r => h σ' F' H' (k.trans k') r
  | rt d => exact fun v F' H' k' s fn dm r => h v F' H' (k.trans k') s fn dm r
theorem PS.imp {X : Cx} {e : Stmt} {t t' : TS} (h : PS X e t) (k : ∀ D σ H, t' D σ H → t D σ H) : PS X e t' := fun pins s σ H D I q => h pins s σ H D I (k D σ H q)
theorem PSs.imp {X : Cx} {e : List Stmt} {t t' : TS} (h : PSs X e t) (k : ∀ D σ H, t' D σ H → t D σ H) : PSs X e t' := fun pins s σ H D I q => h pins s σ H D I (k D σ H q)
/-- from a statement's wish to an expression's -/
theorem tE.of_stmt {X : Cx} {B : Bs} {m : Md} {f : Rho → R D} {σ : L2.St} {H : Hp} {Q : VK} {F : Addr → Prop} {ρ : Rho} (r : SR X.K B F H σ ρ) (h : Ok (XW X B.hp) (f ρ) (Post m X.K F H Q)) : tE X B m f σ H Q := ⟨F, ρ, r, h.imp (fun c w => XW.mono w r.base) fun _ p => p⟩
theorem tT.of_stmt {X : Cx} {B : Bs} {f : Rho → R Bool} {σ : L2.St} {H : Hp} {Q : Bool → Hp → Prop} {F : Addr → Prop} {ρ : Rho} (r : SR X.K B F H σ ρ) (h : Ok (XW X B.hp) (f ρ) fun b => ∀ F' H', Ext F H F' H' → Q b H') : tT X B f σ H Q := ⟨F, ρ, r, h.imp (fun c w => XW.mono w r.base) fun _ p => p⟩
/-- everything is frozen -/
theorem SR.frzAll {K : Frag} {B : Bs} {F : Addr → Prop} {H : Hp} {σ : L2.St} {ρ : Rho} (r : SR K B F H σ ρ) : ∃ F', Keep F F' H H ∧ SR K B F' H σ (ρ.map freeze) := by
  have kp : Keep F (fun a => F a ∨ ∃ (i : Nat) (ds : List D), ρ[i]? = some (.own ds) ∧ σ[i]? = some (some (.ref a))) H H := fun a q => ⟨.inl q, rfl⟩
  refine ⟨_, kp, fun a q => ?_, r.base, (fun a q => ?_), by simp [r.len], fun i d h => ?_, fun i ds h => ?_, fun i j ds es l hij h => ?_⟩
  · rcases q with q | ⟨i, ds, e, e'⟩
    · exact r.dom a q
    · obtain ⟨l, vs, h1, _, _, h3, _⟩ := r.own i ds e
      rw [e'] at h1
      cases h1
      exact ⟨_, h3⟩
  · rcases q with q | ⟨i, ds, e, e'⟩
    · exact r.fnew a q
    · obtain ⟨l, vs, h1, _, hb, _, _⟩ := r.own i ds e
      rw [e'] at h1
      cases h1
      exact .inr hb.1
  · rw [List.getElem?_map] at h
    cases e : ρ[i]? with
    | none => rw [e] at h; cases h
    | some sl =>
      rw [e] at h
      cases sl with
      | no => cases h
      | dat d' =>
        cases h
        obtain ⟨v, e1, e2⟩ := r.dat i d e
        exact ⟨v, e1, e2.mono kp⟩
      | own ds =>
        cases h
        obtain ⟨l, vs, h1, h2, hb, h3, h4⟩ := r.own i ds e
        refine ⟨_, h1, ?_⟩
        simp only [Rep]
        exact ⟨l, vs, rfl, .inl ⟨.inr ⟨i, ds, e, h1⟩, .inl h3⟩, h4.mono kp⟩
  · rw [List.getElem?_map] at h
    cases e : ρ[i]? with
    | none => rw [e] at h; cases h
    | some sl => rw [e] at h; cases sl <;> cases h
  · rw [List.getElem?_map] at h
    cases e : ρ[i]? with
    | none => rw [e] at h; cases h
    | some sl => rw [e] at h; cases sl <;> cases h
theorem fresh_md {e : E} (h : fresh e = true) : e.md = .fre := by
  cases e with
  | blt f it => cases f <;> first | rfl | cases h
  | bin o a b => cases o <;> first | rfl | cases h
  | _ => first | rfl | cases h
theorem fresh_no {e : E} (h : fresh e = false) (hb : e.md ≠ .bor) : e.md = .val := by
  cases e with
  | blt f it => cases f <;> first | rfl | cases h
  | bin o a b => cases o <;> first | rfl | cases h
  | bor i => exact absurd rfl hb
  | _ => first | rfl | cases h
/-- a name gets what an expression told -/
theorem SR.asg {K : Frag} {B : Bs} (hB : ∀ a, B.o a) {F F1 : Addr → Prop} {H H1 : Hp} {σ : L2.St} {ρ : Rho} {i : Nat} {E' : E} {d : D} {v : V} (r : SR K B F H σ ρ) (ex : Ext F H F1 H1) (hb : E'.md ≠ .bor) (q : Rs E'.md K F1 H H1 d v) : SR K B F1 H1 (σ.set i (some v)) (ρ.set i (asgD E' d)) := by
  have r1 := r.ext ex
  cases hf : fresh E' with
  | true =>
    rw [fresh_md hf] at q
    cases d with
    | lst ds =>
      obtain ⟨l, vs, rfl, n1, n2, h3, h4⟩ := q
      simp only [asgD, hf, if_true]
      refine r1.putOwn n1 ⟨r.base.free n2, hB l⟩ h3 h4 fun j es hj h => ?_
      intro z
      obtain ⟨l', vs', e1, _, _, e3, _⟩ := r.own j es h
      rw [z] at e1
      cases e1
      rw [n2] at e3
      cases e3
    | _ => exact r1.put q
  | false =>
    rw [fresh_no hf hb] at q
    have e : asgD E' d = .dat d := by cases d <;> simp [asgD, hf]
    rw [e]
    exact r1.put q
section
variable {X : Cx} {B : Bs} {G : Calls}
theorem ds_ret {e : Expr} {E' : E} {pos : Pos} (h : PE X e (tE X B E'.md (evE G E'))) (hb : E'.md ≠ .bor) : PS X (.Return (some e) pos) (tS X B fun ρ => (evE G E' (ρ.map freeze)).bind fun d => .ok (.rt d)) := by
  refine PS.imp (ps_ret (PE.val h hb)) fun D σ H ⟨F, ρ, r, q⟩ => ?_
  obtain ⟨F1, k1, r1⟩ := r.frzAll
  exact tE.of_stmt r1 (q.bind.imp (fun _ w => w) fun d p v F' H' ex rp => p v F' H' (k1.trans (ex.keep r1.dom)) (r1.base.trans ex.same) (r1.ext ex).fnew ex.dom rp)
theorem ds_retN {pos : Pos} : PS X (.Return none pos) (tS X B fun _ => .ok (.rt .non)) := by
  refine PS.imp ps_retN fun D σ H ⟨F, ρ, r, q⟩ => ?_
  exact q .non F H Keep.refl r.base r.fnew r.dom (by simp only [Rep])
theorem ds_pass {pos : Pos} : PS X (.Pass pos) (tS X B fun ρ => .ok (.nx ρ)) := PS.imp ps_pass fun D σ H ⟨F, ρ, r, q⟩ => q σ F H Keep.refl r
theorem ds_brk {pos : Pos} : PS X (.Break pos) (tS X B fun ρ => .ok (.bk ρ)) := PS.imp ps_break fun D σ H ⟨F, ρ, r, q⟩ => q σ F H Keep.refl r
theorem ds_cnt {pos : Pos} : PS X (.Continue pos) (tS X B fun ρ => .ok (.ct ρ)) := PS.imp ps_continue fun D σ H ⟨F, ρ, r, q⟩ => q σ F H Keep.refl r
theorem ds_asg (hB : ∀ a, B.o a) {e : Expr} {E' : E} {i : Nat} {x : Str} {pos pos' : Pos} (nd : X.N.Nodup) (hi : X.N[i]? = some x) (hx : Loc X.env.scope x) (hf : X.fn x = true ∨ X.env.scope.names.lookup x = some .local) (h : PE X e (tE X B E'.md (evE G E'))) (hb : E'.md ≠ .bor)
    (hs : swapsWith e (some (.Name x pos')) pos.line X.env = pure false) : PS X (.Assign [.Name x pos'] e pos) (tS X B fun ρ => (evE G E' ρ).bind fun d => if i < ρ.length then .ok (.nx (ρ.set i (asgD E' d))) else .stk) := by
  refine PS.imp (ps_set nd hi hx h hs hf) fun D σ H ⟨F, ρ, r, q⟩ => ?_
  refine tE.of_stmt r (q.bind.imp (fun _ w => w) fun d p v F' H' ex rp => ?_)
  split at p
  · exact p _ F' H' (ex.keep r.dom) (r.asg hB ex hb rp)
  · exact False.elim p
theorem ds_if {c : Expr} {a b : List Stmt} {pos : Pos} {fc : Rho → R Bool} {fa fb : Rho → R Fl} (hc : PT X c (tT X B fc)) (ha : PSs X a (tS X B fa)) (hb : PSs X b (tS X B fb)) : PS X (.If c a b pos) (tS X B fun ρ => (fc ρ).bind fun t => if t then fa ρ else fb ρ) := by
  refine PS.imp (ps_if hc ha hb) fun D σ H ⟨F, ρ, r, q⟩ => ?_
  refine tT.of_stmt r (q.bind.imp (fun _ w => w) fun t p F' H' ex => ?_)
  cases t with
  | true => rw [if_pos rfl] at p ⊢; exact ⟨F', ρ, r.ext ex, p.imp (fun _ w => w) fun fl z => z.keep (ex.keep r.dom)⟩
  | false => rw [if_neg (by decide)] at p ⊢; exact ⟨F', ρ, r.ext ex, p.imp (fun _ w => w) fun fl z => z.keep (ex.keep r.dom)⟩
theorem ds_nil : PSs X [] (tS X B fun ρ => .ok (.nx ρ)) := PSs.imp pss_nil fun D σ H ⟨F, ρ, r, q⟩ => q σ F H Keep.refl r
theorem ds_cons {s : Stmt} {ss : List Stmt} {f g : Rho → R Fl} (h1 : PS X s (tS X B f)) (h2 : PSs X ss (tS X B g)) : PSs X (s :: ss) (tS X B fun ρ => (f ρ).bind (seqF g)) := by
  refine PSs.imp (pss_cons h1 h2) fun D σ H ⟨F, ρ, r, q⟩ => ?_
  refine ⟨F, ρ, r, q.bind.imp (fun _ w => w) fun fl p => ?_⟩
  cases fl with
  | nx ρ' => exact fun σ' F' H' k r' => ⟨F', ρ', r', p.imp (fun _ w => w) fun fl z => z.keep k⟩
  | bk ρ' => exact p
  | ct ρ' => exact p
  | rt d => exact p
end
end DI

namespace DI
open PySem PySem.Spec PyProof.Rows L2

/-! ### for -/
/-- frozen: what is walked stays whatever the body writes -/
def tIF (X : Cx) (B : Bs) (fz : Rho → Rho) (f : Rho → R (List D)) : TI := fun σ H R => ∃ F ρ, SR X.K B F H σ ρ ∧ Ok (XW X H) (f ρ) fun xs => ∀ F' H' J, Keep F F' H H' → SR X.K B F' H' σ (fz ρ) → ItmG X.K (fun F2 H2 => Keep F' F2 H' H2) J xs → R J H'
theorem putT_err {tgs : List Nat} {one : Bool} {x : D} {ρ : Rho} {c : Nat} : putT tgs one x ρ ≠ .err c := by
  intro h
  unfold putT at h
  split at h
  · cases h
  · split at h <;> cases h
  · cases h
theorem ds_for {X : Cx} {B : Bs} {tg iter : Expr} {body : List Stmt} {pos : Pos} {tgs : List Nat} {one : Bool} {fz : Rho → Rho} {fi : Rho → R (List D)} {fb : Rho → R Fl} (hp : PassesOwn (model X.prog X.w) X.A X.env X.xe) (hc : X.calm = true) (nd : X.N.Nodup)
    (hi : PI X tg iter (tIF X B fz fi)) (hT : TgOk X tg tgs one) (hb : PSs X body (tS X B fb)) (hs : ∀ x, foldedSetIterable iter X.env x = pure x) :
    PS X (.For tg iter body [] pos) (tS X B fun ρ => (fi ρ).bind fun xs => forGo (fun x r => (putT tgs one x r).bind fun r' => fb r') xs (fz ρ)) := by
  intro pins s σ H D I ⟨F, ρ, r, h⟩
  refine wpAny_For (thn (hi pins s σ H (fun J H' => ∃ F' xs, Keep F F' H H' ∧ SR X.K B F' H' σ (fz ρ) ∧ ItmG X.K (fun F2 H2 => Keep F' F2 H' H2) J xs ∧ Ok (XW X B.hp) (forGo (fun x r => (putT tgs one x r).bind fun r' => fb r') xs (fz ρ)) (FlP X.K B F H D)) I
    ⟨F, ρ, r, h.bind.imp (fun c w => XW.mono w r.base) fun xs h1 F' H' J k r' im => ⟨F', xs, k, r', im, h1⟩⟩) fun v s1 h1 => thn h1 fun itv s2 ⟨it, fp, tn, J, H2, e, I2, T, st2, f2, F2, xs, k2, r2, im, q2⟩ => ?_) hs
  subst e
  have W := im.wk T
  have stat : ∀ {H' : Hp}, (∀ b ∈ fp, H' b = none) → ∀ b ∈ fp, FpOk X pins H' b := fun hn b hb => ⟨hn b hb, (f2 b hb).2⟩
  refine codeAny_forLoop_any (fun n s' => ∃ (i : Nat) (σ' : L2.St) (F' : Addr → Prop) (H' : Hp) (ρ' : Rho), n = xs.length - i ∧ i ≤ xs.length ∧ Inv X pins σ' H' s' ∧ SR X.K B F' H' σ' ρ' ∧ Keep F2 F' H2 H' ∧ tn i s'.heap ∧ (∀ b ∈ fp, H' b = none) ∧
      Ok (XW X B.hp) (forGo (fun x r => (putT tgs one x r).bind fun r' => fb r') (xs.drop i) ρ') (FlP X.K B F H D)) ?_ xs.length ⟨0, σ, F2, H2, fz ρ, rfl, Nat.zero_le _, I2, r2, Keep.refl, st2, fun b hb => (f2 b hb).1, q2⟩
  rintro n s3 ⟨i, σ3, F3, H3, ρ3, rfl, hi3, I3, r3, k3, st3, fr3, q3⟩
  by_cases hlt : i < xs.length
  · have hx : xs[i]? = some xs[i] := List.getElem?_eq_getElem hlt
    rw [List.drop_eq_getElem_cons hlt] at q3
    simp only [forGo] at q3
    have q3 := q3.bind
    cases hp3 : putT tgs one xs[i] ρ3 with
    | err c => exact absurd hp3 putT_err
    | stk => rw [hp3] at q3; exact False.elim q3
    | ok ρ4 =>
      rw [hp3] at q3
      have q3 : Ok (XW X B.hp) (fb ρ4) _ := q3
      refine wpAny_passesOwn hp (thn (W.take X rfl rfl rfl hc nd tgs one hT i pins s3 σ3 ρ3 ρ4 B F3 H3 _ I3 r3 k3 (stat fr3) st3 hx hp3) fun o s4 ⟨u, ho, h4⟩ => ?_)
      subst ho
      refine wpAny_passesOwn hp (thn h4 fun _ s5 h5 => wpAny_passesOwn hp (thn h5 fun _ s6 ⟨σ6, F6, H6, I6, r6, ex6, st6, fr6⟩ => ?_))
      have k6 : Keep F3 F6 H3 H6 := ex6.keep r3.dom
      have I6' := I6.pinned (stat fr6) (W.obj _ _ st6)
      have kF : Keep F F6 H H6 := k2.trans (k3.trans k6)
      refine wpAny_passesOwn hp (thn (hb _ s6 σ6 H6 (Ends.mk (fun σ' H' => ∃ F' ρ', SR X.K B F' H' σ' ρ' ∧ Keep F6 F' H6 H' ∧ Ok (XW X B.hp) (forGo (fun x r => (putT tgs one x r).bind fun r' => fb r') (xs.drop (i + 1)) ρ') (FlP X.K B F H D)) D.rt D.nx
        (fun σ' H' => ∃ F' ρ', SR X.K B F' H' σ' ρ' ∧ Keep F6 F' H6 H' ∧ Ok (XW X B.hp) (forGo (fun x r => (putT tgs one x r).bind fun r' => fb r') (xs.drop (i + 1)) ρ') (FlP X.K B F H D))) I6' ⟨F6, ρ4, r6, q3.imp (fun _ w => w) fun fl z => ?_⟩) fun f s7 q7 => ?_)
      · cases fl with
        | nx ρ' => exact fun σ' F' H' k r' => ⟨F', ρ', r', k, z⟩
        | ct ρ' => exact fun σ' F' H' k r' => ⟨F', ρ', r', k, z⟩
        | bk ρ' => exact fun σ' F' H' k r' => z σ' F' H' (kF.trans k) r'
        | rt d => exact fun v F' H' k sm fn dm rp => z v F' H' (kF.trans k) sm fn dm rp
      · have again : ∀ {σ7 : L2.St} {H7 : Hp}, Inv X (pins ++ pinsAt fp s6.heap) σ7 H7 s7 → (∃ F' ρ', SR X.K B F' H7 σ7 ρ' ∧ Keep F6 F' H6 H7 ∧ Ok (XW X B.hp) (forGo (fun x r => (putT tgs one x r).bind fun r' => fb r') (xs.drop (i + 1)) ρ') (FlP X.K B F H D)) →
            ∃ m, m < xs.length - i ∧ ∃ (i : Nat) (σ' : L2.St) (F' : Addr → Prop) (H' : Hp) (ρ' : Rho), m = xs.length - i ∧ i ≤ xs.length ∧ Inv X pins σ' H' s7 ∧ SR X.K B F' H' σ' ρ' ∧ Keep F2 F' H2 H' ∧ tn i s7.heap ∧ (∀ b ∈ fp, H' b = none) ∧
              Ok (XW X B.hp) (forGo (fun x r => (putT tgs one x r).bind fun r' => fb r') (xs.drop i) ρ') (FlP X.K B F H D) := fun {σ7 H7} I7 ⟨F7, ρ7, r7, k7, q7⟩ => by
          refine ⟨xs.length - (i + 1), by omega, i + 1, σ7, F7, H7, ρ7, rfl, hlt, I7.unpinned, r7, k3.trans (k6.trans k7), W.keep _ _ _ st6 fun b hb o e => (I7.pin (b, o) (List.mem_append_right _ (List.mem_append_right _ (mem_pinsAt hb e)))).1, fun b hb => ?_, q7⟩
          obtain ⟨o, e, d⟩ := W.obj _ _ st6 b hb
          exact (I7.pin (b, o) (List.mem_append_right _ (List.mem_append_right _ (mem_pinsAt hb e)))).2.1
        cases f with
        | next => obtain ⟨σ7, H7, I7, n7⟩ := q7; exact again I7 n7
        | cont => obtain ⟨σ7, H7, I7, n7⟩ := q7; exact again I7 n7
        | brk => obtain ⟨σ7, H7, I7, q7⟩ := q7; exact ⟨σ7, H7, I7.unpinned, q7⟩
        | ret v => obtain ⟨x7, σ7, H7, I7, r7, q7⟩ := q7; exact ⟨x7, σ7, H7, I7.unpinned, r7, q7⟩
  · have hie : i = xs.length := by omega
    subst hie
    rw [List.drop_eq_nil_of_le (Nat.le_refl _)] at q3
    have q3 : FlP X.K B F H D (.nx ρ3) := q3
    refine wpAny_passesOwn hp (thn (W.done X rfl rfl rfl hc pins s3 σ3 F3 H3 I3 r3.dom k3 (stat fr3) st3) fun o s4 ⟨ho, I4⟩ => ?_)
    subst ho
    exact wpAny_execs_nil ⟨σ3, H3, I4, q3 σ3 F3 H3 (k2.trans k3) r3⟩
/-- what a for walks: data, or a list that it freezes -/
theorem pif_dat {X : Cx} {B : Bs} {tg l : Expr} {m : Md} {f : Rho → R D} (hl : PE X l (tE X B m f)) (hm : m ≠ .bor) : PI X tg l (tIF X B id fun ρ => (f ρ).bind seqOf) := by
  refine PI.imp (pi_seq (PE.val hl hm)) fun σ H R q => ?_
  obtain ⟨F, ρ, r, q⟩ := q
  refine ⟨F, ρ, r, q.bind.imp (fun _ w => w) fun d h1 v F' H' ex rp => ?_⟩
  have rp : Rep X.K F' H' d v := rp
  cases d with
  | tup ds =>
    simp only [Rep] at rp
    obtain ⟨a, vs, rfl, ft, rr⟩ := rp
    exact ⟨a, rfl, .inr ⟨vs, ft.sq, fun hz => h1 F' H' _ (ex.keep r.dom) (r.ext ex) (itm_tup (vs := vs) (by rw [rr.length]; exact hz) fun F2 H2 g _ => ⟨(ft.keep g).sq, rr.mono g⟩)⟩⟩
  | lst ds =>
    simp only [Rep] at rp
    obtain ⟨a, vs, rfl, ft, rr⟩ := rp
    exact ⟨a, rfl, .inl ⟨vs, ft.sq, fun hz => h1 F' H' _ (ex.keep r.dom) (r.ext ex) (itm_list (vs := vs) (by rw [rr.length]; exact hz) fun F2 H2 g _ => ⟨(ft.keep g).sq, rr.mono g⟩)⟩⟩
  | _ => exact False.elim h1
theorem pif_bor {X : Cx} {B : Bs} {tg : Expr} {G : Calls} {x : Str} {pos : Pos} {i : Nat} (h : PE X (.Name x pos) (tVar i)) : PI X tg (.Name x pos) (tIF X B (frzI (.seq (.bor i))) (evI G (.seq (.bor i)))) := by
  refine PI.imp (pi_seq h) fun σ H R q => ?_
  obtain ⟨F, ρ, r, q⟩ := q
  simp only [evI, evE, frzI] at q
  cases e : ρ[i]? with
  | none => rw [e] at q; exact False.elim q
  | some sl =>
    rw [e] at q
    cases sl with
    | no => exact False.elim q
    | dat d =>
      have hset : ρ.set i (freeze (.dat d)) = ρ := by
        apply List.ext_getElem?
        intro j
        rw [List.getElem?_set]
        split
        · rename_i hij
          subst hij
          split
          · rw [e]; rfl
          · rename_i hl; exact absurd (List.getElem?_eq_some_iff.mp e).1 hl
        · rfl
      simp only [hset] at q
      obtain ⟨v, e1, rp⟩ := r.dat i d e
      refine ⟨v, e1, ?_⟩
      cases d with
      | tup ds =>
        simp only [Rep] at rp
        obtain ⟨a, vs, rfl, ft, rr⟩ := rp
        exact ⟨a, rfl, .inr ⟨vs, ft.sq, fun hz => q F H _ Keep.refl r (itm_tup (vs := vs) (by rw [rr.length]; exact hz) fun F2 H2 g _ => ⟨(ft.keep g).sq, rr.mono g⟩)⟩⟩
      | lst ds =>
        simp only [Rep] at rp
        obtain ⟨a, vs, rfl, ft, rr⟩ := rp
        exact ⟨a, rfl, .inl ⟨vs, ft.sq, fun hz => q F H _ Keep.refl r (itm_list (vs := vs) (by rw [rr.length]; exact hz) fun F2 H2 g _ => ⟨(ft.keep g).sq, rr.mono g⟩)⟩⟩
      | _ => exact False.elim q
    | own ds =>
      obtain ⟨F1, k1, r1⟩ := r.frz e
      have hi : i < ρ.length := (List.getElem?_eq_some_iff.mp e).1
      obtain ⟨v, e1, rp⟩ := r1.dat i (.lst ds) (by rw [List.getElem?_set_self hi])
      refine ⟨v, e1, ?_⟩
      simp only [Rep] at rp
      obtain ⟨a, vs, rfl, ft, rr⟩ := rp
      exact ⟨a, rfl, .inl ⟨vs, ft.sq, fun hz => q F1 H _ k1 r1 (itm_list (vs := vs) (by rw [rr.length]; exact hz) fun F2 H2 g _ => ⟨(ft.keep g).sq, rr.mono g⟩)⟩⟩
/-- a range -/
theorem pif_rng1 {X : Cx} {B : Bs} {tg a : Expr} {p pos : Pos} {f : Rho → R D} {m : Md} (hg : Gl X "range") (hm : X.mg "range" = none) (h : PE X a (tE X B m f)) (ns : ∀ e q, a ≠ .Starred e q) :
    PI X tg (.Call (.Name "range" p) [a] [] pos) (tIF X B id fun ρ => (f ρ).bind rng1D) := by
  refine PI.imp (pi_range1 hg hm (pa_cons (PE.bor h) pa_nil (star_cons ns)) (star_cons ns)) fun σ H R q => ?_
  obtain ⟨F, ρ, r, q⟩ := q
  refine ⟨F, ρ, r, q.bind.imp (fun _ w => w) fun d h1 v F' H' ex rp => ?_⟩
  cases d with
  | int n =>
    simp only [rng1D] at h1
    split at h1
    · rename_i hn
      cases rp.int
      exact ⟨n, rfl, by omega, by omega, h1 F' H' _ (ex.keep r.dom) (r.ext ex) (itm_rng (by rw [sizeLine_eq]; omega))⟩
    · exact False.elim h1
  | _ => exact False.elim h1
theorem pif_rng2 {X : Cx} {B : Bs} {tg a b : Expr} {p pos : Pos} {f g : Rho → R D} {m m' : Md} (hg : Gl X "range") (hm : X.mg "range" = none) (h : PE X a (tE X B m f)) (ns : ∀ e q, a ≠ .Starred e q) (h' : PE X b (tE X B m' g)) (ns' : ∀ e q, b ≠ .Starred e q) :
    PI X tg (.Call (.Name "range" p) [a, b] [] pos) (tIF X B id fun ρ => (f ρ).bind fun x => (g ρ).bind fun y => rng2D x y) := by
  refine PI.imp (pi_range2 hg hm (pa_cons (PE.bor h) (pa_cons (PE.bor h') pa_nil (star_cons ns')) (star_cons ns)) (by rw [star_cons ns, star_cons ns']; rfl) (star_cons ns')) fun σ H R q => ?_
  obtain ⟨F, ρ, r, q⟩ := q
  refine ⟨F, ρ, r, q.bind.imp (fun _ w => w) fun d h1 v F1 H1 e1 rp => ⟨F1, ρ, r.ext e1, h1.bind.imp (fun c w => XW.mono w e1.same) fun d2 h2 u F2 H2 e2 rp2 => ?_⟩⟩
  cases d with
  | int i =>
    cases d2 with
    | int j =>
      simp only [rng2D] at h2
      split at h2
      · rename_i hn
        cases rp.int
        cases rp2.int
        exact ⟨i, j, rfl, ⟨by omega, by omega, by omega, by omega⟩, h2 F2 H2 _ ((e1.trans e2).keep r.dom) (r.ext (e1.trans e2)) (itm_rng (by rw [sizeLine_eq]; omega))⟩
      · exact False.elim h2
    | _ => exact False.elim h2
  | _ => cases d2 <;> exact False.elim h2
/-! ### x = [.. for ..] at once -/
theorem ds_compset {X : Cx} {scope : Scope} {N cn : List Str} {nt : Nat} {caps : List Nat} {B : Bs} {elt tg iter : Expr} {ks : List Expr} {pos spos py : Pos} {tgs : List Nat} {one : Bool} {fi : Rho → R (List D)} {fc : Option (Rho → R Bool)} {fe : Rho → R D} {me : Md} {y : Str} {j : Nat}
    (hB : ∀ a, B.o a) (nd : X.N.Nodup) (hj : X.N[j]? = some y) (hy : Loc X.env.scope y) (hf : X.fn y = true ∨ X.env.scope.names.lookup y = some .local) (hsw : swapsWith (.ListComp elt [⟨tg, iter, ks, 0⟩] scope pos) (some (.Name y py)) spos.line X.env = pure true)
    (hc : X.calm = true) (C : CompOk X scope N cn nt caps) (hi : PI X tg iter (tI X B fi))
    (hT : ∀ s' H' fp, TgOk (cxComp X N scope s' H' fp) tg tgs one) (hlow : ∀ i ∈ tgs, i < nt)
    (hE : ∀ s' H' fp B', PE (cxComp X N scope s' H' fp) elt (tE (cxComp X N scope s' H' fp) B' me fe)) (hm : me ≠ .bor)
    (hK : (ks = [] ∧ fc = none) ∨ ∃ k g, ks = [k] ∧ fc = some g ∧ ∀ s' H' fp B', PT (cxComp X N scope s' H' fp) k (tT (cxComp X N scope s' H' fp) B' g)) (hs : ∀ x, foldedSetIterable iter X.env x = pure x) :
    PS X (.Assign [.Name y py] (.ListComp elt [⟨tg, iter, ks, 0⟩] scope pos) spos) (tS X B fun ρ => ((fi ρ).bind fun xs => (compGo (itemF tgs one (rho0 nt caps ρ) fc fe) xs).noErr.bind fun ys => .ok ys).bind fun ys => if j < ρ.length then .ok (.nx (ρ.set j (.own ys))) else .stk) := by
  intro pins s σ H D I ⟨F, ρ, r, h⟩
  rw [exec_Assign_Name_used _ _ _ _ hsw]
  refine wpAny_bind (wpAny_standAt (wpAny_bind ?_))
  show wpAny _ X.A (do let _ ← comprehension (.ListComp elt [⟨tg, iter, ks, 0⟩] scope pos) scope X.env _ (newList []) false (eval iter X.env) (some (assign (.Name y py) X.env))) _ _ s
  refine wpAny_bind (wpAny_mono (wpAny_comprehension_free (use := some (assign (.Name y py) X.env)) (Q := fun _ s' => SP X pins D .next s') rfl hs (clos_of (C.cells I)) C.kind C.names ?_) (fun _ s' hq => wpAny_pure (wpAny_pure hq)) fun _ _ e => e)
  have h := h.bind
  refine thn (hi pins s σ H (fun J H' => ∃ F' xs, Ext F H F' H' ∧ ItmG X.K (fun F2 H2 => Ext F' H' F2 H2) J xs ∧ Ok (XW X B.hp) ((compGo (itemF tgs one (rho0 nt caps ρ) fc fe) xs).noErr.bind fun ys => .ok ys) (fun ys => Ok (XW X B.hp) (if j < ρ.length then .ok (.nx (ρ.set j (.own ys))) else .stk) (FlP X.K B F H D))) I ⟨F, ρ, r, h.bind.imp (fun c w => XW.mono w r.base) fun xs h1 F' H' J ex im => ⟨F', xs, ex, im, h1⟩⟩)
    fun v s1 h1 => thn h1 fun itv s2 ⟨it, fp, tn, J, H2, e, I2, T, st2, f2, F2, xs, ex2, im, q2⟩ => ?_
  subst e
  cases hY : compGo (itemF tgs one (rho0 nt caps ρ) fc fe) xs with
  | err c => rw [hY] at q2; exact False.elim q2
  | stk => rw [hY] at q2; exact False.elim q2
  | ok ys =>
    rw [hY] at q2
    have q2 : Ok (XW X B.hp) (if j < ρ.length then .ok (.nx (ρ.set j (.own ys))) else .stk) (FlP X.K B F H D) := q2
    split at q2
    · have q2 : FlP X.K B F H D (.nx (ρ.set j (.own ys))) := q2
      refine comp_run (RR := fun acc C' => compPost (model X.prog X.w) X.A X.xe (some (assign (.Name y py) X.env)) (fun _ s' => SP X pins D .next s') acc C') hc C I2 (r.ext ex2) (im.wk T) st2 f2 (fun s' H' => hT s' H' fp) hlow (fun s' H' B' => hE s' H' fp B') hm ?_ hY ?_
      · rcases hK with z | ⟨k, g, e1, e2, hk⟩
        · exact .inl z
        · exact .inr ⟨k, g, e1, e2, fun s' H' B' => hk s' H' fp B'⟩
      · intro s3 l σ' F' H' s' vs hl I3 IY ex' nF hl' rp
        obtain ⟨m, hn, _⟩ := IY.loc
        obtain ⟨oC, es, ep, eC, dC, rC⟩ := id hn
        have eC : s'.heap.get? s3.heap.objs.size = some oC := eC
        have IX : Inv X pins σ H' s' := comp_out I3 (fun b hb => by
          obtain ⟨f0, f1, f3, f4, f5, f6⟩ := f2 b hb
          exact ⟨f4, f1, f5, f6⟩) IY (Heap.SameBut.refl _ _)
        have hCf : H' s3.heap.objs.size = none := IY.free
        have hCL : s3.heap.objs.size ≠ X.env.locals := Nat.ne_of_gt I3.lt
        have hCs : X.s₀.heap.objs.size ≤ s3.heap.objs.size := I3.sz
        have hCx : ∀ x c, X.env.cells.lookup x = some c → c ≠ s3.heap.objs.size := fun x c e z => by
          obtain ⟨v, w⟩ := I3.cell x c e
          exact absurd w.lt (by rw [z]; exact Nat.lt_irrefl _)
        have hCp : ∀ p ∈ X.pn ++ pins, p.1 ≠ s3.heap.objs.size := fun p hp z => by
          have := Heap.lt_size (I3.pin p hp).1
          rw [z] at this
          exact absurd this (Nat.lt_irrefl _)
        have IP : Inv X (pins ++ [(s3.heap.objs.size, oC)]) σ H' s' := IX.pins_of fun p hp => (List.mem_append.mp hp).elim (fun z => IX.pin p (List.mem_append_right _ z)) fun z => by
          have e : p = (s3.heap.objs.size, oC) := by simpa using z
          subst e
          exact ⟨eC, hCf, hCL, I3.nofs (Nat.le_refl _), fun v z => by rw [dC] at z; cases z⟩
        have ex := ex2.trans ex'
        have hlH : H l = none := ex2.same.free hl
        have r' : SR X.K B F' H' (σ.set j (some (.ref l))) (ρ.set j (.own ys)) := by
          refine (r.ext ex).putOwn nF ⟨r.base.free hlH, hB l⟩ hl' rp fun k es _ hk z => ?_
          obtain ⟨l', vs', e1, _, _, e3, _⟩ := r.own k es hk
          rw [z] at e1
          cases e1
          rw [hlH] at e3
          cases e3
        show wpAny _ X.A (assign (.Name y py) X.env (.ref l)) _ _ _
        refine wpAny_assign_Name (store_ok IP nd hj hy (v := .ref l) rfl (fun s4 I4 => ?_) hf)
        have e4 : s4.heap.get? s3.heap.objs.size = some oC := (I4.pin (s3.heap.objs.size, oC) (by simp)).1
        refine ⟨m, ⟨oC, es, ep, e4, dC, rC⟩, fun h5 sb => ?_⟩
        have I5 : Inv X pins (σ.set j (some (.ref l))) H' { s4 with heap := h5 } := (I4.unpinned).turned (t' := s4.toks) (it := s3.heap.objs.size) (fun b o hb e => (sb.2 b hb).trans e) hCf hCL (.inr hCs) hCx hCp
        exact ⟨_, H', I5, q2 _ F' H' (ex.keep r.dom) r'⟩
    · exact False.elim q2
end DI

namespace DI
open PySem PySem.Spec PyProof.Rows L2

/-! ### statements from the text -/
def toSs : List S → Ss
  | [] => .nil
  | s :: ss => .cons s (toSs ss)
def locN (sc : List (Str × NameKind)) (x : Str) : Bool := sc.lookup x == some .local || sc.lookup x == some .cell
section
variable (T : Tab)
def trIF (n : Nat) (sc : List (Str × NameKind)) (N : List Str) (e : Expr) : Option It := match e with
  | .Name x _ => if badN x || knd sc x != 1 then none else (ixOf N x).map fun i => .seq (.bor i)
  | .Call (.Name f _) [a] [] _ => if f = "range" && knd sc f == 2 && (ixOf T.defs f).isNone then (trE T n sc N true a).map It.rng1 else (trE T n sc N false e).map It.seq
  | .Call (.Name f _) [a, b] [] _ => if f = "range" && knd sc f == 2 && (ixOf T.defs f).isNone then (match trE T n sc N true a, trE T n sc N true b with | some a, some b => some (.rng2 a b) | _, _ => none) else (trE T n sc N false e).map It.seq
  | .Set .. => none
  | e => (trE T n sc N false e).map It.seq
def trS : Nat → List (Str × NameKind) → List Str → Stmt → Option S
  | 0, _, _, _ => none
  | n + 1, sc, N, s => match s with
    | .Return (some e) _ => (trE T n sc N false e).map .ret
    | .Return none _ => some .retN
    | .Pass _ => some .pas
    | .Break _ => some .brk
    | .Continue _ => some .cnt
    | .Assign [.Name x _] e _ => if locN sc x then (match ixOf N x, trE T n sc N false e with
      | some i, some e => some (.asg i e)
      | _, _ => none) else none
    | .If c a b _ => match trE T n sc N true c, mapO (trS n sc N) a, mapO (trS n sc N) b with
      | some c, some a, some b => some (.ife c (toSs a) (toSs b))
      | _, _, _ => none
    | .For tg iter body [] _ => match tgNames tg with
      | none => none
      | some (xs, one) => if xs.all (locN sc) then (match mapO (ixOf N) xs, trIF T n sc N iter, mapO (trS n sc N) body with
        | some is, some it, some b => some (.loop is one it (toSs b))
        | _, _, _ => none) else none
    | _ => none
end
structure XS (T : Tab) (G : Calls) (n : Nat) (X : Cx) (sc : List (Str × NameKind)) : Prop extends XD T G n X sc where
  fn : ∀ x, X.fn x = true
  own : PassesOwn (model X.prog X.w) X.A X.env X.xe
variable {T : Tab} {G : Calls} {m W : Nat}
theorem XS.loc {X : Cx} {sc : List (Str × NameKind)} (D : XS T G m X sc) {x : Str} (h : locN sc x = true) : L2.Loc X.env.scope x := by
  unfold locN at h
  simp only [Bool.or_eq_true, beq_iff_eq] at h
  unfold L2.Loc
  rcases D.sc x with e | ⟨e, _⟩
  · rw [e]; exact h
  · rw [e] at h; rcases h with z | z <;> cases z
theorem tgs_loc {X : Cx} {sc : List (Str × NameKind)} (D : XS T G m X sc) : ∀ {xs : List Str} {ps : List Pos} {is : List Nat}, ps.length = xs.length → xs.all (locN sc) = true → mapO (ixOf X.N) xs = some is → TgsOk X ((xs.zip ps).map fun p => Expr.Name p.1 p.2) is
  | [], _, is, _, _, h => by cases h; exact .nil
  | x :: xs, [], _, h, _, _ => by simp at h
  | x :: xs, p :: ps, is, h, ha, hm => by
    obtain ⟨i, is', h1, h2, rfl⟩ := mapO_cons hm
    simp only [List.all_cons, Bool.and_eq_true] at ha
    exact .cons (ixOf_get h1) (D.loc ha.1) (.inl (D.fn x)) (tgs_loc D (by simpa using h) ha.2 h2)
theorem tg_loc {X : Cx} {sc : List (Str × NameKind)} (D : XS T G m X sc) {tg : Expr} {xs : List Str} {one : Bool} {is : List Nat} (ht : tgNames tg = some (xs, one)) (ha : xs.all (locN sc) = true) (hm : mapO (ixOf X.N) xs = some is) : TgOk X tg is one := by
  cases tg <;> try (simp only [tgNames] at ht; cases ht)
  · rename_i x pos
    obtain ⟨i, is', h1, h2, rfl⟩ := mapO_cons hm
    cases h2
    simp only [List.all_cons, List.all_nil, Bool.and_true] at ha
    exact .one (ixOf_get h1) (D.loc ha) (.inl (D.fn x))
  · rename_i es k pos
    simp only [tgNames] at ht
    cases q : mapO nmOf es with
    | none => rw [q] at ht; cases ht
    | some ys =>
      rw [q] at ht
      cases ht
      obtain ⟨ps, l1, l2, e⟩ := nms_of q
      rw [e]
      exact .many (tgs_loc D l2 ha hm)
theorem snd_iterF {n : Nat} {X : Cx} {sc : List (Str × NameKind)} (D : XD T G m X sc) {iter tg : Expr} {it : It} (h : trIF T n sc X.N iter = some it) (B : Bs) :
    PI X tg iter (tIF X B (frzI it) (evI G it)) ∧ ∀ a b c, iter ≠ .Set a b c := by
  have gen : ∀ {e : Expr} {it : It}, (trE T n sc X.N false e).map It.seq = some it → PI X tg e (tIF X B (frzI it) (evI G it)) := fun {e it} h => by
    cases q : trE T n sc X.N false e with
    | none => rw [q] at h; cases h
    | some E' =>
      rw [q] at h
      cases h
      have S := snd_all n X sc false e E' D q
      have := pif_dat (tg := tg) (S.pe B) (S.nb rfl)
      have ev : (fun ρ => (evE G E' ρ).bind seqOf) = evI G (.seq E') := by funext ρ; simp only [evI]
      have ef : frzI (.seq E') = id := by
        funext ρ
        cases E' <;> first | rfl | exact absurd rfl (S.nb rfl)
      rw [ev] at this
      rw [ef]
      exact this
  unfold trIF at h
  split at h
  · rename_i x pos
    split at h
    · cases h
    · rename_i hc
      simp only [Bool.or_eq_true, not_or, Bool.not_eq_true, bne_eq_false_iff_eq] at hc
      cases q : ixOf X.N x with
      | none => rw [q] at h; cases h
      | some i =>
        rw [q] at h
        cases h
        have hb := hc.1
        have b1 : (x == ("__debug__" : Str)) = false := by unfold badN at hb; simp only [Bool.or_eq_false_iff] at hb; exact hb.1.1
        have b2 : (x == ("__classdict__" : Str)) = false := by unfold badN at hb; simp only [Bool.or_eq_false_iff] at hb; exact hb.1.2
        exact ⟨pif_bor (pe_var (ixOf_get q) (D.vis hc.2) b1 b2), fun _ _ _ z => by cases z⟩
  · refine ⟨?_, fun _ _ _ z => by cases z⟩
    split at h
    · rename_i f p a pos hc
      simp only [Bool.and_eq_true, decide_eq_true_eq, beq_iff_eq] at hc
      obtain ⟨⟨hf, hk⟩, hd⟩ := hc
      subst hf
      cases q : trE T n sc X.N true a with
      | none => rw [q] at h; cases h
      | some E' =>
        rw [q] at h
        cases h
        have S := snd_all n X sc true a E' D q
        have := pif_rng1 (tg := tg) (p := p) (pos := pos) (D.gl hk) (D.blt _ (by decide +kernel)) (S.pe B) S.ns
        have ev : (fun ρ => (evE G E' ρ).bind rng1D) = evI G (.rng1 E') := by funext ρ; simp only [evI]
        rwa [ev] at this
    · exact gen h
  · refine ⟨?_, fun _ _ _ z => by cases z⟩
    split at h
    · rename_i f p a b pos hc
      simp only [Bool.and_eq_true, decide_eq_true_eq, beq_iff_eq] at hc
      obtain ⟨⟨hf, hk⟩, hd⟩ := hc
      subst hf
      split at h
      · rename_i Ea Eb qa qb
        cases h
        have Sa := snd_all n X sc true a Ea D qa
        have Sb := snd_all n X sc true b Eb D qb
        have := pif_rng2 (tg := tg) (p := p) (pos := pos) (D.gl hk) (D.blt _ (by decide +kernel)) (Sa.pe B) Sa.ns (Sb.pe B) Sb.ns
        have ev : (fun ρ => (evE G Ea ρ).bind fun x => (evE G Eb ρ).bind fun y => rng2D x y) = evI G (.rng2 Ea Eb) := by funext ρ; simp only [evI]
        rwa [ev] at this
      · cases h
    · exact gen h
  · cases h
  · rename_i hset
    exact ⟨gen h, fun a b c z => hset a b c z⟩
theorem swaps_no {e : Expr} (h : ∀ a b c d, e ≠ .ListComp a b c d) (h2 : ∀ a b c d, e ≠ .SetComp a b c d) (h3 : ∀ a b c d f, e ≠ .DictComp a b c d f) {t : Option Expr} {l : Nat} {env : Env} : swapsWith e t l env = pure false := by
  unfold swapsWith
  cases e <;> first | rfl | exact absurd rfl (h _ _ _ _) | exact absurd rfl (h2 _ _ _ _) | exact absurd rfl (h3 _ _ _ _ _)
theorem tS.congr {X : Cx} {B : Bs} {f g : Rho → R Fl} (h : ∀ ρ, f ρ = g ρ) : tS X B f = tS X B g := by rw [show f = g from funext h]
theorem ss_all {X : Cx} {B : Bs} {n : Nat} {sc : List (Str × NameKind)} (ih : ∀ s S', trS T n sc X.N s = some S' → PS X s (tS X B (evS G W S'))) : ∀ {ss : List Stmt} {Ss' : List S}, mapO (trS T n sc X.N) ss = some Ss' → PSs X ss (tS X B (evSs G W (toSs Ss')))
  | [], Ss', h => by
    cases h
    rw [tS.congr (g := fun ρ => .ok (.nx ρ)) fun ρ => by simp only [toSs, evSs]]
    exact ds_nil
  | s :: ss, Ss', h => by
    obtain ⟨S1, Sr, h1, h2, rfl⟩ := mapO_cons h
    have := ds_cons (ih s S1 h1) (ss_all ih h2)
    rw [tS.congr (g := fun ρ => (evS G W S1 ρ).bind (seqF (evSs G W (toSs Sr)))) fun ρ => by simp only [toSs, evSs]]
    exact this
theorem stm_all {X : Cx} {sc : List (Str × NameKind)} {B : Bs} (hB : ∀ a, B.o a) (D : XS T G m X sc) : ∀ (n : Nat) (s : Stmt) (S' : S), trS T n sc X.N s = some S' → PS X s (tS X B (evS G W S')) := by
  intro n
  induction n with
  | zero => intro s S' h; simp [trS] at h
  | succ n ih =>
    intro s S' h
    unfold trS at h
    split at h
    · rename_i e pos
      cases q : trE T n sc X.N false e with
      | none => rw [q] at h; cases h
      | some E' =>
        rw [q] at h; cases h
        have S := snd_all n X sc false e E' D.toXD q
        rw [tS.congr (g := fun ρ => (evE G E' (ρ.map freeze)).bind fun d => .ok (.rt d)) fun ρ => by simp only [evS]]
        exact ds_ret (S.pe B) (S.nb rfl)
    · cases h
      rw [tS.congr (g := fun ρ => .ok (.rt .non)) fun ρ => by simp only [evS]]
      exact ds_retN
    · cases h
      rw [tS.congr (g := fun ρ => .ok (.nx ρ)) fun ρ => by simp only [evS]]
      exact ds_pass
    · cases h
      rw [tS.congr (g := fun ρ => .ok (.bk ρ)) fun ρ => by simp only [evS]]
      exact ds_brk
    · cases h
      rw [tS.congr (g := fun ρ => .ok (.ct ρ)) fun ρ => by simp only [evS]]
      exact ds_cnt
    · -- x = e
      rename_i x px e pos
      split at h
      · rename_i hl
        split at h
        · rename_i i E' hi he
          cases h
          have S := snd_all n X sc false e E' D.toXD he
          have hN := ixOf_get hi
          have hx := D.loc hl
          rw [tS.congr (g := fun ρ => (evE G E' ρ).bind fun d => if i < ρ.length then .ok (.nx (ρ.set i (asgD E' d))) else .stk) fun ρ => by simp only [evS]]
          have plain : swapsWith e (some (.Name x px)) pos.line X.env = pure false → PS X (.Assign [.Name x px] e pos) (tS X B fun ρ => (evE G E' ρ).bind fun d => if i < ρ.length then .ok (.nx (ρ.set i (asgD E' d))) else .stk) := fun hs => ds_asg hB D.nd hN hx (.inl (D.fn x)) (S.pe B) (S.nb rfl) hs
          cases e with
          | ListComp elt gens scope cpos =>
            cases n with
            | zero => simp [trE] at he
            | succ n =>
              obtain ⟨tg, iter, ks, N, cn, nt, caps, tgs, one, it, fc, Ee, Ec, rfl, rfl, cd, ev⟩ := comp_inv' D.toXD (snd_all n) he
              cases hsw : (X.env.blockKind == .function && X.env.kindOf x == some .local && px.line == (Expr.ListComp elt [⟨tg, iter, ks, 0⟩] scope cpos).pos.line && !(scope.names.any fun p => p.1 == x && (p.2 == .local || p.2 == .cell))) with
              | false =>
                refine plain ?_
                show (pure (X.env.blockKind == .function && X.env.kindOf x == some .local && px.line == (Expr.ListComp elt [⟨tg, iter, ks, 0⟩] scope cpos).pos.line && !(scope.names.any fun p => p.1 == x && (p.2 == .local || p.2 == .cell))) : Sem Bool) = pure false
                rw [hsw]
              | true =>
                have hs : swapsWith (.ListComp elt [⟨tg, iter, ks, 0⟩] scope cpos) (some (.Name x px)) pos.line X.env = pure true := by
                  show (pure (X.env.blockKind == .function && X.env.kindOf x == some .local && px.line == (Expr.ListComp elt [⟨tg, iter, ks, 0⟩] scope cpos).pos.line && !(scope.names.any fun p => p.1 == x && (p.2 == .local || p.2 == .cell))) : Sem Bool) = pure true
                  rw [hsw]
                have := ds_compset (pos := cpos) (spos := pos) (py := px) hB D.nd hN hx (.inl (D.fn x)) hs D.calm cd.C (cd.hi B) cd.hT cd.hlow cd.hE cd.hm cd.hK cd.hs
                rw [tS.congr (f := fun ρ => (evE G (E.comp Ee tgs one nt caps it Ec) ρ).bind _) (g := _) fun ρ => ?_]
                · exact this
                · rw [ev ρ]
                  simp only [R.bind_assoc, R.bind_ok']
                  rfl
          | SetComp a b c d => cases n <;> simp [trE] at he
          | DictComp a b c d f => cases n <;> simp [trE] at he
          | _ => exact plain (swaps_no (fun _ _ _ _ z => by cases z) (fun _ _ _ _ z => by cases z) (fun _ _ _ _ _ z => by cases z))
        · cases h
      · cases h
    · -- if
      rename_i c a b pos
      split at h
      · rename_i Ec Sa Sb hc ha hb
        cases h
        have S := snd_all n X sc true c Ec D.toXD hc
        rw [tS.congr (g := fun ρ => (evT G Ec ρ).bind fun t => if t then evSs G W (toSs Sa) ρ else evSs G W (toSs Sb) ρ) fun ρ => by simp only [evS]]
        exact ds_if (S.pt B) (ss_all ih ha) (ss_all ih hb)
      · cases h
    · -- for
      rename_i tg iter body pos
      split at h
      · cases h
      · rename_i xs one ht
        split at h
        · rename_i hl
          split at h
          · rename_i is it Sb h1 h2 h3
            cases h
            obtain ⟨hi, hset⟩ := snd_iterF (tg := tg) D.toXD h2 B
            rw [tS.congr (g := fun ρ => (evI G it ρ).bind fun zs => forGo (fun x r => (putT is one x r).bind fun r' => evSs G W (toSs Sb) r') zs (frzI it ρ)) fun ρ => by simp only [evS]]
            exact ds_for D.own D.calm D.nd hi (tg_loc D ht hl h1) (ss_all ih h3) (folded_ok hset)
          · cases h
        · cases h
    · cases h
end DI

namespace DI
open PySem PySem.Spec PyProof.Rows L2

structure DefS where
  name : Str
  N : List Str
  ps : List Str
  st : Stmt
/-- how its arguments bind -/
def BindP (d : DefS) : Prop := ∀ (kV doc pm : Value) (an : Option Addr) (cdv ct : Value) (us : List Value), us.length = d.ps.length → bindArgs (PySem.W.fnOf d.name d.name (defArgs d.st) (defBody d.st) (defScope d.st) .none kV doc pm an cdv ct) ⟨us, []⟩ = pure (d.ps.zip us)
theorem Fun.uniq {K : Frag} {x q : Str} {st : Stmt} {f : Addr} {fd fd' : FuncData} (a : Fun K x q st f fd) (b : Fun K x q st f fd') : fd = fd' := by
  obtain ⟨oc, od, kV, doc, pm, an, cdv, ct, osl, _, lk, _⟩ := a.ex
  obtain ⟨oc', od', kV', doc', pm', an', cdv', ct', osl', _, lk', _⟩ := b.ex
  rw [lk] at lk'
  cases lk'
  rfl
/-- the text as it stands behind the top -/
structure Prog (K : Frag) (mg : Str → Option Value) (T : Tab) (DS : List DefS) (P : List Def) (fuel : Nat) : Prop where
  tab : T.defs = DS.map (·.name)
  blt : ∀ x ∈ bltNames, mg x = none
  cons : ∀ x d, T.cons.lookup x = some d → (∀ ds, d ≠ .lst ds) ∧ ∃ u v, mg x = some u ∧ RelV v u ∧ ∀ F H, Rep K F H d v
  fns : ∀ (i : Nat) (d : DefS), DS[i]? = some d → ∃ f fd, mg d.name = some (.ref f) ∧ Fun K d.name d.name d.st f fd ∧ BindP d ∧ FnScope d.N d.ps (defScope d.st) ∧
    ∃ ss, mapO (trS T fuel (defScope d.st).names d.N) (defBody d.st) = some ss ∧ P[i]? = some ⟨d.ps.length, d.N.length, toSs ss⟩
theorem start_sr {K : Frag} {F : Addr → Prop} {H : Hp} {N : List Str} {ds : List D} {vs : List V} (dm : Dom F H) (r : Reps K F H ds vs) : SR K ⟨H, fun _ => True, F⟩ F H (start N vs) (ds.map Sl.dat ++ List.replicate (N.length - ds.length) .no) := by
  have hl := r.length
  refine ⟨dm, Same.refl H, fun a h => .inl h, ?_, fun i d h => ?_, fun i xs h => ?_, fun i j xs ys l _ h => ?_⟩
  · unfold L2.start
    simp [hl]
  · have hi : i < ds.length := by
      refine Nat.lt_of_not_le fun hle => ?_
      rw [List.getElem?_append_right (by simpa using hle), List.getElem?_replicate] at h
      split at h <;> cases h
    rw [List.getElem?_append_left (by simpa using hi), List.getElem?_map, List.getElem?_eq_getElem hi] at h
    cases h
    obtain ⟨v, e, rp⟩ := r.get (List.getElem?_eq_getElem hi)
    refine ⟨v, ?_, rp⟩
    unfold L2.start
    rw [List.getElem?_append_left (by rw [List.length_map]; omega), List.getElem?_map, e]
    rfl
  · by_cases hi : i < ds.length
    · rw [List.getElem?_append_left (by simpa using hi), List.getElem?_map, List.getElem?_eq_getElem hi] at h
      cases h
    · rw [List.getElem?_append_right (by simpa using hi), List.getElem?_replicate] at h
      split at h <;> cases h
  · by_cases hi : i < ds.length
    · rw [List.getElem?_append_left (by simpa using hi), List.getElem?_map, List.getElem?_eq_getElem hi] at h
      cases h
    · rw [List.getElem?_append_right (by simpa using hi), List.getElem?_replicate] at h
      split at h <;> cases h
theorem prog_ok {Pr : Program} {w : World} {K : Frag} {mg : Str → Option Value} {base : Heap} {T : Tab} {DS : List DefS} {P : List Def} {fuel W : Nat} (R : Prog K mg T DS P fuel) :
    ∀ (n i : Nat) (d : DefS) (f : Addr) (fd : FuncData), DS[i]? = some d → mg d.name = some (.ref f) → Fun K d.name d.name d.st f fd → FnOk Pr w K mg base (CXD Pr w) n f fd d.ps (spD K (callD W P n) i) := by
  intro n
  induction n with
  | zero =>
    intro i d f fd hd hm h2
    refine ⟨fun vs H Q E h => ?_, fun A outer s H args us vs Q E hr e0 hb hv h => ?_⟩
    · obtain ⟨F, ds, _, _, h⟩ := h
      exact False.elim h
    · obtain ⟨F, ds, _, _, h⟩ := h
      exact False.elim h
  | succ n ih =>
    intro i d f fd hd hm h2
    obtain ⟨f0, fd0, g1, g2, h3, h4, ss, h5, h6⟩ := R.fns i d hd
    have hlen : ∀ vs H Q E, spD K (callD W P (n + 1)) i vs H Q E → vs.length = d.ps.length := fun vs H Q E ⟨F, ds, _, r, h⟩ => by
      simp only [callD, h6] at h
      split at h
      · rename_i hl
        rw [← r.length]; exact hl
      · exact False.elim h
    obtain ⟨oc, od, kV, doc, pm, an, cdv, ct, osl, rfl, lk, hcd⟩ := h2.ex
    refine fn_of lk hcd h4 hlen fun A outer s H vs Q E hr hsp => ?_
    obtain ⟨F, ds, dm, r, h⟩ := hsp
    simp only [callD, h6] at h
    split at h
    · rename_i hl
      have D : XS T (callD W P n) n (cxOf (CXD Pr w) Pr w K mg base d.N d.name (defScope d.st) f cdv A outer s H E) (defScope d.st).names := by
        refine { calm := rfl, nd := h4.nd, room := hr, sc := fun x => .inl rfl, blt := R.blt, defs := fun j nm hj => ?_, cons := R.cons, fn := fun _ => rfl, own := PassesOwn.leaving }
        rw [R.tab, List.getElem?_map] at hj
        cases q : DS[j]? with
        | none => rw [q] at hj; cases hj
        | some d' =>
          rw [q] at hj
          cases hj
          obtain ⟨f', fd', a1, a2, a3, _⟩ := R.fns j d' q
          exact ⟨f', fd', d'.ps, a1, a2.kp, a2.binds a3, ih j d' f' fd' q a1 a2⟩
      refine ⟨_, ss_all (B := ⟨H, fun _ => True, F⟩) (W := W) (fun s' S' hs => stm_all (fun _ => trivial) D fuel s' S' hs) h5, ?_⟩
      have hN : d.N.length - ds.length = d.N.length - d.ps.length := by rw [hl]
      have sr := start_sr (N := d.N) dm r
      rw [hN] at sr
      refine ⟨F, _, sr, h.bind.imp (fun c wc => ?_) fun fl z => ?_⟩
      · intro pins σ' H' s' e I sm ev
        exact False.elim ev
      · cases fl with
        | nx ρ' => exact fun σ' F' H' k r' => z .non F' H' ⟨fun a q => (k a q).1, r'.base, r'.fnew, r'.dom⟩ (by simp only [Rep])
        | rt v => exact fun u F' H' k sm fn dm' rp => z u F' H' ⟨fun a q => (k a q).1, sm, fn, dm'⟩ rp
        | bk ρ' => exact False.elim z
        | ct ρ' => exact False.elim z
    · exact False.elim h
/-- the law's promise at the head -/
theorem law_sp {K : Frag} {H : Hp} {a : Addr} {ns : List Int} {G : Calls} {i : Nat} (h : G i [.lst (ns.map .int)] = .ok (.bl true)) (hS : SqL K H a (ns.map V.int)) :
    spD K G i [.ref a] H (fun v _ => v = .bl true) fun _ _ _ => False := by
  have rs : ∀ (F : Addr → Prop) (ms : List Int), Reps K F H (ms.map D.int) (ms.map V.int) := fun F ms => by
    induction ms with
    | nil => exact .nil
    | cons m ms ih => exact .cons (by simp only [Rep]) ih
  have rl : ∃ F : Addr → Prop, Dom F H ∧ FL K F H a (ns.map V.int) := by
    rcases hS with h | h
    · refine ⟨fun b => b = a, fun b e => ?_, .inl ⟨rfl, h⟩⟩
      have e : b = a := e
      subst e
      rcases h with h | ⟨o, h⟩
      · exact ⟨_, h⟩
      · exact ⟨_, h⟩
    · exact ⟨fun _ => False, fun b e => e.elim, .inr h⟩
  obtain ⟨F, dm, fl⟩ := rl
  refine ⟨F, [.lst (ns.map .int)], dm, .one (by simp only [Rep]; exact ⟨a, _, rfl, fl, rs F ns⟩), ?_⟩
  rw [h]
  intro v F' H' ex rp
  simpa only [Rep] using rp
/-- from what the top has written to the law -/
theorem walk_data {l : PySem.W.OpenLaw} {q : Program} {loose : List Str} {XP : (Str → Option Value) → Heap → Prop} {YP : World → Heap → Prop} {d : DefRec} {K : Params → Frag} {T : Tab} {DS : List DefS} {P : List Def} {fuel W n i : Nat} {x : Str} {dl : DefS}
    (hn : l.most = some 63) (hdf : d.params.defaults = []) (hr : Room n callerA) (hY : ∀ (w : World) (h : Heap), YP w h → (K w.params).In h) (hi : DS[i]? = some dl) (hnm : dl.name = d.name) (hps : dl.ps = [x])
    (hP : ∀ (w : World) (mg : Str → Option Value) (h : Heap), (K w.params).In h → h.Ns mainGlobals mg → Prog (K w.params) mg T DS P fuel)
    (hlaw : ∀ ns : List Int, ns.length ≤ 63 → callD W P n i [.lst (ns.map .int)] = .ok (.bl true)) :
    PySem.W.WalkO q loose XP YP l.row.toRowW d [] (fun f vs => PySem.call f vs) := by
  refine L2.walk_of (n := 63) (k := n) (x := x) (CX := fun w => CXD l.prog w) (sp := fun w => spD (K w.params) (callD W P n) i) hn (by decide) hdf hr hY (fun w mg fa h KX G hmg => ?_) (fun w H a ns hl _ hS => law_sp (hlaw ns hl) hS) fun w H s e s' ⟨_, _, _, _, _, z⟩ => z
  have R := hP w mg h KX G
  obtain ⟨f, fd, h1, h2, h3, h4, _⟩ := R.fns i dl hi
  have h1' := h1
  rw [hnm, hmg] at h1
  cases h1
  refine ⟨fd, fun s u => ?_, fun base kb nb => ?_⟩
  · obtain ⟨oc, od, kV, doc, pm, an, cdv, ct, osl, rfl, lk, hcd⟩ := h2.ex
    refine .of_eq ?_
    have := h3 kV doc pm an cdv ct [u] (by rw [hps]; rfl)
    rw [hps] at this
    exact this
  · have R' := hP w mg base kb nb
    have := prog_ok (Pr := l.prog) (w := w) (base := base) (W := W) R' n i dl fa fd hi h1' h2
    rw [hps] at this
    exact this
end DI

set_option Elab.async false
set_option maxRecDepth 100000
set_option maxHeartbeats 4000000
namespace Law
open PySem L2 DI
def top (i : Nat) : Stmt := PySem.Challenge.pw_tallysets_k02_is_tally.main.body.getD i (.Pass ⟨0, 0, 0, 0⟩)
def d_is_number : DefS := ⟨"is_number", ["thing"], ["thing"], top 2⟩
def b_is_number : Ss :=
  .cons (.ret (.and (.isi (.bor 0) [.int]) (.not (.isi (.bor 0) [.bool])))) (
  .nil)
def d_is_tally : DefS := ⟨"is_tally", ["thing"], ["thing"], top 3⟩
def e_is_tally_1 : E := .comp (.and (.call 0 (.cons (.var 0) .nil)) (.cmp .ge (.bor 0) (.lit (.int 0)))) [0] true 1 [] (.seq (.bor 0)) .none
def b_is_tally : Ss :=
  .cons (.ife (.not (.isi (.bor 0) [.tuple])) (.cons (.ret (.lit (.bl false))) (
    .nil)) (.nil)) (
  .cons (.ife (.or (.cmp .lt (.blt .len (.seq (.bor 0))) (.lit (.int 1))) (.cmp .gt (.blt .len (.seq (.bor 0))) (.lit (.int 4)))) (.cons (.ret (.lit (.bl false))) (
    .nil)) (.nil)) (
  .cons (.ret (.blt .all (.seq (e_is_tally_1)))) (
  .nil)))
def d__law_number : DefS := ⟨"_law_number", ["_law_cell", "_law_k", "_law_number_here"], ["_law_cell", "_law_k"], top 5⟩
def b__law_number : Ss :=
  .cons (.asg 2 (.bin .mod (.bin .mul (.bin .add (.bor 0) (.lit (.int 3))) (.idx (.lst (.cons (.lit (.int 48271)) (.cons (.lit (.int 69621)) (.cons (.lit (.int 39373)) (.cons (.lit (.int 16807)) .nil))))) (.bor 1))) (.lit (.int 999999999989)))) (
  .cons (.ret (.idx (.lst (.cons (.bin .mod (.bin .mul (.bor 2) (.lit (.int 1001))) (.bin .add (.bin .pow (.lit (.int 10)) (.lit (.int 15))) (.lit (.int 1)))) (.cons (.bin .mod (.bin .fdiv (.bor 2) (.lit (.int 3))) (.lit (.int 10))) (.cons (.lit (.int 0)) (.cons (.bin .pow (.lit (.int 10)) (.lit (.int 15))) .nil))))) (.idx (.lst (.cons (.lit (.int 0)) (.cons (.lit (.int 0)) (.cons (.lit (.int 1)) (.cons (.lit (.int 1)) (.cons (.lit (.int 2)) (.cons (.lit (.int 3)) .nil))))))) (.bin .mod (.bor 2) (.lit (.int 6)))))) (
  .nil))
def d__law_tally : DefS := ⟨"_law_tally", ["_law_cell", "_law_long"], ["_law_cell", "_law_long"], top 6⟩
def e__law_tally_1 : E := .comp (.call 2 (.cons (.var 1) (.cons (.var 0) .nil))) [0] true 1 [0] (.rng1 (.bor 1)) .none
def b__law_tally : Ss :=
  .cons (.ret (.blt .tuple (.seq (e__law_tally_1)))) (
  .nil)
def d__law_told : DefS := ⟨"_law_told", ["_law_thing", "_law_due", "_law_found"], ["_law_thing", "_law_due"], top 7⟩
def b__law_told : Ss :=
  .cons (.asg 2 (.call 1 (.cons (.var 0) .nil))) (
  .cons (.ret (.and (.isi (.bor 2) [.bool]) (.cmp .eq (.bor 2) (.bor 1)))) (
  .nil))
def d__law_odd : DefS := ⟨"_law_odd", ["_law_cell"], ["_law_cell"], top 8⟩
def b__law_odd : Ss :=
  .cons (.ret (.idx (.lst (.cons (.neg (.lit (.int 1))) (.cons (.bin .sub (.neg (.lit (.int 1))) (.bin .mod (.bor 0) (.bin .pow (.lit (.int 10)) (.lit (.int 15))))) (.cons (.lit (.bl true)) (.cons (.lit (.bl false)) (.cons (.lit .non) (.cons (.lit (.str "1")) (.cons (.lst (.cons (.lit (.int 1)) .nil)) (.cons (.tup (.cons (.lit (.int 1)) .nil)) (.cons (.emp) .nil)))))))))) (.bin .mod (.bor 0) (.lit (.int 9))))) (
  .nil)
def d_law : DefS := ⟨"law", ["_law_script", "_law_thing", "_law_cell", "_law_long", "_law_good", "_law_at", "_law_grown", "_law_spoilt"], ["_law_script"], top 9⟩
def l_law_1 : Ss :=
  .cons (.ife (.not (.call 4 (.cons (.var 1) (.cons (.lit (.bl false)) .nil)))) (.cons (.ret (.lit (.bl false))) (
    .nil)) (.nil)) (
  .nil)
def l_law_2 : Ss :=
  .cons (.asg 3 (.bin .add (.lit (.int 1)) (.bin .mod (.bor 2) (.lit (.int 4))))) (
  .cons (.asg 4 (.call 3 (.cons (.var 2) (.cons (.var 3) .nil)))) (
  .cons (.asg 5 (.bin .mod (.bin .fdiv (.bor 2) (.lit (.int 4))) (.bin .add (.bor 3) (.lit (.int 1))))) (
  .cons (.asg 6 (.bin .add (.bin .add (.slc (.bor 4) .none (.some (.bor 5))) (.tup (.cons (.bin .mod (.bor 2) (.bin .add (.bin .pow (.lit (.int 10)) (.lit (.int 15))) (.lit (.int 1)))) .nil))) (.slc (.bor 4) (.some (.bor 5)) .none))) (
  .cons (.asg 7 (.bin .add (.bin .add (.slc (.bor 4) .none (.some (.bor 5))) (.tup (.cons (.call 5 (.cons (.bin .fdiv (.bor 2) (.lit (.int 20))) .nil)) .nil))) (.slc (.bor 4) (.some (.bor 5)) .none))) (
  .cons (.ife (.or (.not (.call 4 (.cons (.var 4) (.cons (.lit (.bl true)) .nil)))) (.or (.not (.call 4 (.cons (.var 6) (.cons (.cmp .lt (.bor 3) (.lit (.int 4))) .nil)))) (.not (.call 4 (.cons (.blt .list (.seq (.bor 4))) (.cons (.lit (.bl false)) .nil)))))) (.cons (.ret (.lit (.bl false))) (
    .nil)) (.nil)) (
  .cons (.ife (.or (.not (.call 4 (.cons (.slc (.bor 7) .none (.some (.lit (.int 4)))) (.cons (.cmp .eq (.bor 5) (.lit (.int 4))) .nil)))) (.or (.not (.call 4 (.cons (.tup (.cons (.var 4) .nil)) (.cons (.lit (.bl false)) .nil)))) (.not (.call 4 (.cons (.slc (.bor 4) .none (.some (.lit (.int 1)))) (.cons (.lit (.bl true)) .nil)))))) (.cons (.ret (.lit (.bl false))) (
    .nil)) (.nil)) (
  .nil)))))))
def b_law : Ss :=
  .cons (.loop [1] true (.seq (.lst (.cons (.lit .non) (.cons (.lit (.bl true)) (.cons (.lit (.int 3)) (.cons (.lit (.str "1")) (.cons (.lit (.str "")) (.cons (.emp) (.cons (.tup (.nil)) (.cons (.lst (.nil)) (.cons (.bin .mul (.tup (.cons (.lit (.int 1)) .nil)) (.lit (.int 5))) (.cons (.tup (.cons (.lit (.int 0)) (.cons (.lit (.int 0)) (.cons (.lit (.int 0)) (.cons (.lit (.int 0)) (.cons (.lit (.int 0)) .nil)))))) .nil)))))))))))) l_law_1) (
  .cons (.loop [2] true (.seq (.bin .add (.lst (.cons (.lit (.int 0)) (.cons (.lit (.int 1)) (.cons (.lit (.int 2)) (.cons (.lit (.int 3)) .nil))))) (.blt .list (.seq (.bor 0))))) l_law_2) (
  .cons (.ret (.lit (.bl true))) (
  .nil)))
def T : Tab := ⟨["is_number", "is_tally", "_law_number", "_law_tally", "_law_told", "_law_odd", "law"], [("MOST_NUMBERS", (.int 4))]⟩
def DS : List DefS := [d_is_number, d_is_tally, d__law_number, d__law_tally, d__law_told, d__law_odd, d_law]
def P : List Def := [⟨1, 1, b_is_number⟩, ⟨1, 1, b_is_tally⟩, ⟨2, 3, b__law_number⟩, ⟨2, 2, b__law_tally⟩, ⟨2, 3, b__law_told⟩, ⟨1, 1, b__law_odd⟩, ⟨1, 8, b_law⟩]
theorem s_is_number : FnScope d_is_number.N d_is_number.ps (defScope d_is_number.st) := ⟨rfl, rfl, rfl, by decide +kernel, rfl, by decide +kernel, by decide +kernel⟩
theorem t_is_number : (mapO (trS T 60 (defScope d_is_number.st).names d_is_number.N) (defBody d_is_number.st)).map toSs = some b_is_number := by kernel_rfl
theorem p_is_number : BindP d_is_number := fun _ _ _ _ _ _ us hl => match us, hl with | [_], _ => rfl
theorem s_is_tally : FnScope d_is_tally.N d_is_tally.ps (defScope d_is_tally.st) := ⟨rfl, rfl, rfl, by decide +kernel, rfl, by decide +kernel, by decide +kernel⟩
theorem t_is_tally : (mapO (trS T 60 (defScope d_is_tally.st).names d_is_tally.N) (defBody d_is_tally.st)).map toSs = some b_is_tally := by kernel_rfl
theorem p_is_tally : BindP d_is_tally := fun _ _ _ _ _ _ us hl => match us, hl with | [_], _ => rfl
theorem s__law_number : FnScope d__law_number.N d__law_number.ps (defScope d__law_number.st) := ⟨rfl, rfl, rfl, by decide +kernel, rfl, by decide +kernel, by decide +kernel⟩
theorem t__law_number : (mapO (trS T 60 (defScope d__law_number.st).names d__law_number.N) (defBody d__law_number.st)).map toSs = some b__law_number := by kernel_rfl
theorem p__law_number : BindP d__law_number := fun _ _ _ _ _ _ us hl => match us, hl with | [_, _], _ => rfl
theorem s__law_tally : FnScope d__law_tally.N d__law_tally.ps (defScope d__law_tally.st) := ⟨rfl, rfl, rfl, by decide +kernel, rfl, by decide +kernel, by decide +kernel⟩
theorem t__law_tally : (mapO (trS T 60 (defScope d__law_tally.st).names d__law_tally.N) (defBody d__law_tally.st)).map toSs = some b__law_tally := by kernel_rfl
theorem p__law_tally : BindP d__law_tally := fun _ _ _ _ _ _ us hl => match us, hl with | [_, _], _ => rfl
theorem s__law_told : FnScope d__law_told.N d__law_told.ps (defScope d__law_told.st) := ⟨rfl, rfl, rfl, by decide +kernel, rfl, by decide +kernel, by decide +kernel⟩
theorem t__law_told : (mapO (trS T 60 (defScope d__law_told.st).names d__law_told.N) (defBody d__law_told.st)).map toSs = some b__law_told := by kernel_rfl
theorem p__law_told : BindP d__law_told := fun _ _ _ _ _ _ us hl => match us, hl with | [_, _], _ => rfl
theorem s__law_odd : FnScope d__law_odd.N d__law_odd.ps (defScope d__law_odd.st) := ⟨rfl, rfl, rfl, by decide +kernel, rfl, by decide +kernel, by decide +kernel⟩
theorem t__law_odd : (mapO (trS T 60 (defScope d__law_odd.st).names d__law_odd.N) (defBody d__law_odd.st)).map toSs = some b__law_odd := by kernel_rfl
theorem p__law_odd : BindP d__law_odd := fun _ _ _ _ _ _ us hl => match us, hl with | [_], _ => rfl
theorem s_law : FnScope d_law.N d_law.ps (defScope d_law.st) := ⟨rfl, rfl, rfl, by decide +kernel, rfl, by decide +kernel, by decide +kernel⟩
theorem t_law : (mapO (trS T 60 (defScope d_law.st).names d_law.N) (defBody d_law.st)).map toSs = some b_law := by kernel_rfl
theorem p_law : BindP d_law := fun _ _ _ _ _ _ us hl => match us, hl with | [_], _ => rfl
end Law

namespace DI
/-! ### reckoning with the layer's terms -/
theorem R.bind_err' {α β : Type} (c : Nat) (f : α → R β) : (R.err c).bind f = .err c := rfl
theorem R.bind_stk' {α β : Type} (f : α → R β) : (R.stk).bind f = .stk := rfl
theorem R.bind_ite {α β : Type} {c : Prop} [Decidable c] (x y : R α) (f : α → R β) : (if c then x else y).bind f = if c then x.bind f else y.bind f := by split <;> rfl
theorem R.noErr_ok {α : Type} (a : α) : (R.ok a).noErr = .ok a := rfl
theorem seqF_nx (g : Rho → R Fl) (ρ : Rho) : seqF g (.nx ρ) = g ρ := rfl
theorem seqF_rt (g : Rho → R Fl) (d : D) : seqF g (.rt d) = .ok (.rt d) := rfl
theorem seqF_bk (g : Rho → R Fl) (ρ : Rho) : seqF g (.bk ρ) = .ok (.bk ρ) := rfl
theorem seqF_ct (g : Rho → R Fl) (ρ : Rho) : seqF g (.ct ρ) = .ok (.ct ρ) := rfl
/-- what a call is -/
def fin : Fl → R D
  | .rt v => .ok v
  | .nx _ => .ok .non
  | _ => .stk
theorem callD_eq {W : Nat} {P : List Def} {n f : Nat} {xs : List D} {d : Def} (h : P[f]? = some d) (hl : xs.length = d.ps) :
    callD W P (n + 1) f xs = (evSs (callD W P n) W d.body (xs.map Sl.dat ++ List.replicate (d.n - d.ps) .no)).bind fin := by
  simp only [callD, h, if_pos hl]
  rfl
theorem fin_rt (d : D) : fin (.rt d) = .ok d := rfl
theorem fin_nx (ρ : Rho) : fin (.nx ρ) = .ok .non := rfl
/-- a comprehension over items that each tell -/
theorem compGo_map {f : D → R (Option D)} {g : D → D} : ∀ {xs : List D}, (∀ x ∈ xs, f x = .ok (some (g x))) → compGo f xs = .ok (xs.map g)
  | [], _ => rfl
  | x :: xs, h => by
    simp only [compGo, h x List.mem_cons_self, R.bind_ok', compGo_map fun y hy => h y (List.mem_cons_of_mem _ hy), List.map_cons]
theorem compGo_filter {f : D → R (Option D)} {p : D → Bool} {g : D → D} : ∀ {xs : List D}, (∀ x ∈ xs, f x = .ok (if p x then some (g x) else none)) → compGo f xs = .ok ((xs.filter p).map g)
  | [], _ => rfl
  | x :: xs, h => by
    simp only [compGo, h x List.mem_cons_self, R.bind_ok', compGo_filter fun y hy => h y (List.mem_cons_of_mem _ hy)]
    cases hp : p x <;> simp [hp]
/-- a loop whose turns all go on and leave what Inv says -/
theorem forGo_inv {f : D → Rho → R Fl} (I : Nat → Rho → Prop) : ∀ {xs : List D} {i : Nat} {ρ : Rho}, I i ρ → (∀ (j : Nat) x ρ, xs[j]? = some x → I (i + j) ρ → ∃ ρ', f x ρ = .ok (.nx ρ') ∧ I (i + j + 1) ρ') → ∃ ρ', forGo f xs ρ = .ok (.nx ρ') ∧ I (i + xs.length) ρ'
  | [], i, ρ, h, _ => ⟨ρ, rfl, by simpa using h⟩
  | x :: xs, i, ρ, h, st => by
    obtain ⟨ρ1, e1, h1⟩ := st 0 x ρ rfl h
    obtain ⟨ρ2, e2, h2⟩ := forGo_inv I (xs := xs) (i := i + 1) h1 fun j y ρ hy hI => by
      have := st (j + 1) y ρ (by simpa using hy) (by rwa [show i + (j + 1) = i + 1 + j by omega])
      rwa [show i + (j + 1) + 1 = i + 1 + j + 1 by omega] at this
    refine ⟨ρ2, ?_, by rw [List.length_cons]; rwa [show i + (xs.length + 1) = i + 1 + xs.length by omega]⟩
    simp only [forGo, e1, R.bind_ok']
    exact e2
end DI

set_option Elab.async false
set_option maxRecDepth 100000
set_option maxHeartbeats 4000000
namespace Law
open PySem L2 DI
variable {W n : Nat}
def isNum : DI.D → Bool
  | .int _ => true
  | _ => false
def isNat : DI.D → Bool
  | .int i => decide (0 ≤ i)
  | _ => false
def noX : DI.D → Bool
  | .exc _ => false
  | _ => true
def isT : DI.D → Bool
  | .tup xs => decide (1 ≤ xs.length) && decide (xs.length ≤ 4) && xs.all isNat
  | _ => false
theorem c_number {d : DI.D} (h : noX d = true) : callD W P (n + 1) 0 [d] = .ok (.bl (isNum d)) := by
  cases d <;> first | rfl | cases h
theorem bools_map {g : DI.D → Bool} : ∀ xs : List DI.D, boolsOf (xs.map fun x => .bl (g x)) = some (xs.map g)
  | [] => rfl
  | x :: xs => by simp only [List.map_cons, boolsOf, bools_map xs, Option.map_some]
theorem c_tally {d : DI.D} (h : noX d = true) (h2 : ∀ xs, d = .tup xs → ∀ x ∈ xs, noX x = true) : callD W P (n + 2) 1 [d] = .ok (.bl (isT d)) := by
  cases d with
  | tup xs =>
    have h2 := h2 xs rfl
    rw [callD_eq (d := ⟨1, 1, b_is_tally⟩) rfl rfl]
    have hc : evE (callD W P (n + 1)) e_is_tally_1 [Sl.dat (.tup xs)] = .ok (.lst (xs.map fun x => .bl (isNat x))) := by
      simp only [e_is_tally_1, evE, evI, List.getElem?_cons_zero, R.bind_ok', seqOf]
      rw [compGo_map (g := fun x => .bl (isNat x))]
      · rfl
      · intro x hx
        have hn := c_number (W := W) (n := n) (h2 x hx)
        simp only [putT, R.bind_ok', evE, evEs, capsOf, List.map_nil, List.append_nil, List.replicate, List.set_cons_zero, List.getElem?_cons_zero, hn]
        cases x <;> rfl
    simp only [b_is_tally, evSs, evS, evT, evE, evI, evEs, R.bind_ok', R.bind_ite, R.noErr_ok, tyAny, tyIs, seqOf, bfD, cmD, ltD, seqF_nx, seqF_rt, List.map_cons, List.map_nil, List.replicate, List.append_nil, List.getElem?_cons_zero, freeze, Nat.sub_self, hc, allD, bools_map, fin_rt, isT]
    by_cases h1 : xs.length < 1
    · have : ¬ 1 ≤ xs.length := by omega
      have a : (xs.length : Int) < 1 := by omega
      simp [a, this]
    · by_cases h4 : 4 < xs.length
      · have a : ¬ ((xs.length : Int) < 1) := by omega
        have b : (4 : Int) < xs.length := by omega
        have c : ¬ xs.length ≤ 4 := by omega
        simp [a, b, c]
      · have a : ¬ ((xs.length : Int) < 1) := by omega
        have b : ¬ ((4 : Int) < xs.length) := by omega
        have c : xs.length ≤ 4 := by omega
        have e : 1 ≤ xs.length := by omega
        simp [a, b, c, e, List.all_map]
  | exc c => cases h
  | _ => rfl
theorem c_told {d : DI.D} {b : Bool} (h : noX d = true) (h2 : ∀ xs, d = .tup xs → ∀ x ∈ xs, noX x = true) : callD W P (n + 3) 4 [d, .bl b] = .ok (.bl (isT d == b)) := by
  rw [callD_eq (d := ⟨2, 3, b__law_told⟩) rfl rfl]
  have := c_tally (W := W) (n := n) h h2
  simp [b__law_told, evSs, evS, evE, evEs, R.bind_ok', tyAny, tyIs, cmD, eqR, seqF_nx, seqF_rt, freeze, this, fin_rt, boolR, asgD]
theorem c_num (c : Int) {k : Int} (h0 : 0 ≤ k) (h1 : k < 4) : ∃ v : Int, callD W P (n + 1) 2 [.int c, .int k] = .ok (.int v) ∧ 0 ≤ v := by
  rw [callD_eq (d := ⟨2, 3, b__law_number⟩) rfl rfl]
  have hm : ∃ m : Int, idxD (.lst [.int 48271, .int 69621, .int 39373, .int 16807]) (.int k) = .ok (.int m) ∧ 0 ≤ m ∧ m < 2 ^ 64 := by
    have hk : k = 0 ∨ k = 1 ∨ k = 2 ∨ k = 3 := by omega
    rcases hk with rfl | rfl | rfl | rfl
    · exact ⟨48271, rfl, by decide, by decide⟩
    · exact ⟨69621, rfl, by decide, by decide⟩
    · exact ⟨39373, rfl, by decide, by decide⟩
    · exact ⟨16807, rfl, by decide, by decide⟩
  obtain ⟨m, em, m0, m1⟩ := hm
  have hmul : (-(2 ^ 64) < c + 3 ∧ c + 3 < 2 ^ 64) ∨ (-(2 ^ 64) < m ∧ m < 2 ^ 64) := .inr ⟨by omega, m1⟩
  have hq : ∀ q : Int, 0 ≤ q → ∃ v : Int, (idxD (.lst [.int (q * 1001 % (10 ^ 15 + 1)), .int (q / 3 % 10), .int 0, .int (10 ^ 15)]) (.int ([0, 0, 1, 1, 2, 3].getD (q % 6).toNat 0))) = .ok (.int v) ∧ 0 ≤ v ∧ idxD (.lst [.int 0, .int 0, .int 1, .int 1, .int 2, .int 3]) (.int (q % 6)) = .ok (.int ([0, 0, 1, 1, 2, 3].getD (q % 6).toNat 0)) := by
    intro q hq
    have hr : q % 6 = 0 ∨ q % 6 = 1 ∨ q % 6 = 2 ∨ q % 6 = 3 ∨ q % 6 = 4 ∨ q % 6 = 5 := by omega
    rcases hr with e | e | e | e | e | e <;> rw [e]
    · exact ⟨_, rfl, Int.emod_nonneg _ (by decide), rfl⟩
    · exact ⟨_, rfl, Int.emod_nonneg _ (by decide), rfl⟩
    · exact ⟨_, rfl, Int.emod_nonneg _ (by decide), rfl⟩
    · exact ⟨_, rfl, Int.emod_nonneg _ (by decide), rfl⟩
    · exact ⟨_, rfl, by decide, rfl⟩
    · exact ⟨_, rfl, by decide, rfl⟩
  obtain ⟨v, e1, e2, e3⟩ := hq ((c + 3) * m % 999999999989) (Int.emod_nonneg _ (by decide))
  refine ⟨v, ?_, e2⟩
  have hmul2 : ∀ x : Int, (-(2 ^ 64) < x ∧ x < 2 ^ 64) ∨ (-(2 ^ 64) < (1001 : Int) ∧ (1001 : Int) < 2 ^ 64) := fun x => .inr (by decide)
  have f4 : fits 4 = true := rfl
  have f6 : fits 6 = true := rfl
  have p1 : (0 : Int) < 999999999989 := by decide
  have p2 : (0 : Int) < 10 ^ 15 + 1 := by decide
  have p3 : (0 : Int) < 3 ∧ (3 : Int) < 1073741824 := by decide
  have p4 : (0 : Int) < 10 := by decide
  have p5 : (0 : Int) < 6 := by decide
  have p6 : (0 : Int) ≤ 15 ∧ (15 : Int) ≤ 1000000 ∧ (10 : Int).natAbs < 2 ^ 64 := by decide
  have p7 : (15 : Int).toNat = 15 := rfl
  simp only [b__law_number, evSs, evS, evE, evEs, R.bind_ok', seqF_nx, seqF_rt, List.map_cons, List.map_nil, List.replicate, List.cons_append, List.nil_append, List.getElem?_cons_zero, List.getElem?_cons_succ, List.length_cons, List.length_nil, Nat.reduceAdd, Nat.reduceSub, Nat.reduceLT, f4, f6, if_true, em, opD, if_pos hmul, if_pos (hmul2 _), if_pos p1, if_pos p2, if_pos p3, if_pos p4, if_pos p5, if_pos p6, p7, List.set_cons_succ, List.set_cons_zero, asgD, freeze, e3, e1, fin_rt]
theorem c_tal (c : Int) {l : Int} (h0 : 0 ≤ l) (h1 : l ≤ 4) : ∃ vs : List Int, callD W P (n + 2) 3 [.int c, .int l] = .ok (.tup (vs.map .int)) ∧ vs.length = l.toNat ∧ ∀ v ∈ vs, 0 ≤ v := by
  rw [callD_eq (d := ⟨2, 2, b__law_tally⟩) rfl rfl]
  have hx : ∀ k : Nat, ∃ v : Int, (k : Int) < 4 → callD W P (n + 1) 2 [.int c, .int k] = .ok (.int v) ∧ 0 ≤ v := fun k => by
    by_cases hk : (k : Int) < 4
    · obtain ⟨v, e1, e2⟩ := c_num (W := W) (n := n) c (Int.natCast_nonneg k) hk
      exact ⟨v, fun _ => ⟨e1, e2⟩⟩
    · exact ⟨0, fun z => absurd z hk⟩
  have hx2 : ∃ f : Nat → Int, ∀ k : Nat, (k : Int) < 4 → callD W P (n + 1) 2 [.int c, .int k] = .ok (.int (f k)) ∧ 0 ≤ f k := ⟨fun k => Classical.choose (hx k), fun k => Classical.choose_spec (hx k)⟩
  obtain ⟨f, hf⟩ := hx2
  have hc : evE (callD W P (n + 1)) e__law_tally_1 [Sl.dat (.int c), Sl.dat (.int l)] = .ok (.lst ((rngD 0 l.toNat).map fun x => match x with | .int k => .int (f k.toNat) | _ => .non)) := by
    simp only [e__law_tally_1, evE, evI, List.getElem?_cons_zero, List.getElem?_cons_succ, R.bind_ok', rng1D]
    rw [if_pos (by omega)]
    simp only [R.bind_ok']
    rw [compGo_map (g := fun x => match x with | .int k => .int (f k.toNat) | _ => .non)]
    · rfl
    · intro x hx
      unfold rngD at hx
      obtain ⟨k, hk, rfl⟩ := List.mem_map.mp hx
      rw [List.mem_range] at hk
      have := (hf k (by omega)).1
      simp only [Int.zero_add]
      simp only [putT, R.bind_ok', evE, evEs, capsOf, List.map_nil, List.map_cons, List.append_nil, List.replicate, List.set_cons_zero, List.cons_append, List.nil_append, List.getElem?_cons_zero, List.getElem?_cons_succ, this, Int.toNat_natCast]
  refine ⟨(List.range l.toNat).map f, ?_, by simp, fun v hv => ?_⟩
  · simp only [b__law_tally, evSs, evS, evE, evI, R.bind_ok', seqOf, bfD, seqF_rt, List.map_cons, List.map_nil, List.replicate, List.append_nil, freeze, hc, fin_rt, Nat.sub_self]
    simp [rngD, Function.comp_def]
  · obtain ⟨k, hk, rfl⟩ := List.mem_map.mp hv
    rw [List.mem_range] at hk
    exact (hf k (by omega)).2
theorem c_odd (c : Int) : ∃ d : DI.D, callD W P (n + 1) 5 [.int c] = .ok d ∧ noX d = true ∧ isNat d = false := by
  rw [callD_eq (d := ⟨1, 1, b__law_odd⟩) rfl rfl]
  have p1 : (0 : Int) < 10 ^ 15 := by decide
  have p4 : (0 : Int) < 9 := by decide
  have p6 : (0 : Int) ≤ 15 ∧ (15 : Int) ≤ 1000000 ∧ (10 : Int).natAbs < 2 ^ 64 := by decide
  have p7 : (15 : Int).toNat = 15 := rfl
  have f9 : fits 9 = true := rfl
  have f1 : fits 1 = true := rfl
  have hr : c % 9 = 0 ∨ c % 9 = 1 ∨ c % 9 = 2 ∨ c % 9 = 3 ∨ c % 9 = 4 ∨ c % 9 = 5 ∨ c % 9 = 6 ∨ c % 9 = 7 ∨ c % 9 = 8 := by omega
  have key : evSs (callD W P n) W b__law_odd (List.map Sl.dat [D.int c] ++ List.replicate (1 - 1) Sl.no) = (idxD (.lst [.int (-1), .int (-1 - c % 10 ^ 15), .bl true, .bl false, .non, .str "1", .lst [.int 1], .tup [.int 1], .emp]) (.int (c % 9))).bind fun d => .ok (.rt d) := by
    simp only [b__law_odd, evSs, evS, evE, evEs, negD, R.bind_ok', R.bind_assoc, seqF_rt, List.map_cons, List.map_nil, List.replicate, List.append_nil, List.getElem?_cons_zero, List.length_cons, List.length_nil, Nat.reduceAdd, f9, f1, if_true, opD, if_pos p1, if_pos p4, if_pos p6, p7, freeze, Nat.sub_self]
  rw [key]
  rcases hr with e | e | e | e | e | e | e | e | e <;> rw [e]
  · exact ⟨_, rfl, rfl, rfl⟩
  · refine ⟨_, rfl, rfl, ?_⟩
    have := Int.emod_nonneg c (b := 10 ^ 15) (by decide)
    simp only [isNat, decide_eq_false_iff_not]
    omega
  all_goals exact ⟨_, rfl, rfl, rfl⟩
end Law

set_option Elab.async false
set_option maxRecDepth 100000
set_option maxHeartbeats 4000000
namespace Law
open PySem L2 DI
variable {W n : Nat}
theorem cut_to {α : Type} (xs : List α) {a : Int} (h : 0 ≤ a) : cut xs none (some a) = xs.take a.toNat := by
  unfold cut sIx
  simp only [if_neg (show ¬ a < 0 by omega), List.drop_zero, Nat.sub_zero]
  by_cases hle : a.toNat ≤ xs.length
  · rw [Nat.min_eq_left hle]
  · rw [Nat.min_eq_right (by omega), List.take_length, List.take_of_length_le (by omega)]
theorem cut_from {α : Type} (xs : List α) {a : Int} (h : 0 ≤ a) : cut xs (some a) none = xs.drop a.toNat := by
  unfold cut sIx
  simp only [if_neg (show ¬ a < 0 by omega)]
  by_cases hle : a.toNat ≤ xs.length
  · rw [Nat.min_eq_left hle, List.take_of_length_le (by rw [List.length_drop]; omega)]
  · rw [Nat.min_eq_right (by omega), List.drop_length, List.drop_of_length_le (by omega)]; simp
theorem turn1 {x : DI.D} {s a b c d e f g : Sl} (h : noX x = true) (h2 : ∀ xs, x = .tup xs → ∀ y ∈ xs, noX y = true) (ht : isT x = false) :
    ((putT [1] true x [s, a, b, c, d, e, f, g]).bind fun r' => evSs (callD W P (n + 3)) W l_law_1 r') = .ok (.nx [s, .dat x, b, c, d, e, f, g]) := by
  have := c_told (W := W) (n := n) (b := false) h h2
  simp only [putT, R.bind_ok', List.set_cons_succ, List.set_cons_zero, l_law_1, evSs, evS, evT, evE, evEs, List.getElem?_cons_zero, List.getElem?_cons_succ, this, ht, truth]
  rfl
theorem nat_all {vs : List Int} (h : ∀ v ∈ vs, 0 ≤ v) : (vs.map DI.D.int).all isNat = true := by
  rw [List.all_eq_true]
  intro x hx
  obtain ⟨v, hv, rfl⟩ := List.mem_map.mp hx
  simpa [isNat] using h v hv
theorem turn2 {cell : Int} {s a b c d e f g : Sl} : ∃ a' b' c' d' e' f' g', ((putT [2] true (.int cell) [s, a, b, c, d, e, f, g]).bind fun r' => evSs (callD W P (n + 3)) W l_law_2 r') = .ok (.nx [s, a', b', c', d', e', f', g']) := by
  have hl0 : 1 ≤ 1 + cell % 4 := by omega
  have hl4 : 1 + cell % 4 ≤ 4 := by omega
  obtain ⟨vs, ev, hvl, hv0⟩ := c_tal (W := W) (n := n + 1) cell (l := 1 + cell % 4) (by omega) hl4
  obtain ⟨od, eo, ho, hn⟩ := c_odd (W := W) (n := n + 2) (cell / 20)
  have hat0 : 0 ≤ cell / 4 % (1 + cell % 4 + 1) := Int.emod_nonneg _ (by omega)
  have hat1 : cell / 4 % (1 + cell % 4 + 1) < 1 + cell % 4 + 1 := Int.emod_lt_of_pos _ (by omega)
  generalize hat : cell / 4 % (1 + cell % 4 + 1) = at_ at hat0 hat1
  generalize hlong : 1 + cell % 4 = long at *
  have p0 : (0 : Int) < 4 := by decide
  have p1 : (0 : Int) < 4 ∧ (4 : Int) < 1073741824 := by decide
  have p2 : 0 < long + 1 := by omega
  have p3 : (0 : Int) < 10 ^ 15 + 1 := by decide
  have p6 : (0 : Int) ≤ 15 ∧ (15 : Int) ≤ 1000000 ∧ (10 : Int).natAbs < 2 ^ 64 := by decide
  have p7 : (15 : Int).toNat = 15 := rfl
  have p8 : (0 : Int) < 20 ∧ (20 : Int) < 1073741824 := by decide
  have hml : (vs.map DI.D.int).length ≤ 4 := by rw [List.length_map, hvl]; omega
  generalize hA : (vs.map DI.D.int).take at_.toNat = A
  generalize hC : (vs.map DI.D.int).drop at_.toNat = C
  have lA : A.length ≤ 4 := by rw [← hA, List.length_take]; omega
  have lC : C.length ≤ 4 := by rw [← hC, List.length_drop]; omega
  have f1 : ∀ x : DI.D, fits (A.length + [x].length) = true := fun x => by unfold fits; simp; omega
  have f2 : ∀ x : DI.D, fits ((A ++ [x]).length + C.length) = true := fun x => by unfold fits; simp; omega
  have f1' : fits (A.length + 1) = true := by unfold fits; simp; omega
  have f3 : fits 1 = true := rfl
  have gA : ∀ x ∈ A, isNat x = true := fun x hx => List.all_eq_true.mp (nat_all hv0) x (by rw [← hA] at hx; exact List.mem_of_mem_take hx)
  have gC : ∀ x ∈ C, isNat x = true := fun x hx => List.all_eq_true.mp (nat_all hv0) x (by rw [← hC] at hx; exact List.mem_of_mem_drop hx)
  have nx_of : ∀ {x : DI.D}, isNat x = true → noX x = true := fun {x} h => by cases x <;> first | rfl | cases h
  have lAC : A.length + C.length = long.toNat := by
    have := congrArg List.length (List.take_append_drop at_.toNat (vs.map DI.D.int))
    rw [hA, hC, List.length_append, List.length_map, hvl] at this
    exact this
  -- the six questions
  have q1 : isT (.tup (vs.map .int)) = true := by
    have a1 : 1 ≤ vs.length := by omega
    have a2 : vs.length ≤ 4 := by omega
    simp only [isT, nat_all hv0, List.length_map, decide_eq_true a1, decide_eq_true a2, Bool.and_self]
  have n1 : ∀ xs, DI.D.tup (vs.map .int) = .tup xs → ∀ y ∈ xs, noX y = true := fun xs h y hy => by
    cases h
    exact nx_of (List.all_eq_true.mp (nat_all hv0) y hy)
  have q2 : isT (.tup (A ++ [.int (cell % (10 ^ 15 + 1))] ++ C)) = decide (long < 4) := by
    have hg : isNat (.int (cell % (10 ^ 15 + 1))) = true := by
      have := Int.emod_nonneg cell (b := 10 ^ 15 + 1) (by decide)
      simpa [isNat] using this
    have hall : (A ++ [DI.D.int (cell % (10 ^ 15 + 1))] ++ C).all isNat = true := by
      rw [List.all_append, List.all_append, List.all_eq_true.mpr gA, List.all_eq_true.mpr gC]
      simp only [List.all_cons, List.all_nil, hg, Bool.and_self]
    have hlen : (A ++ [DI.D.int (cell % (10 ^ 15 + 1))] ++ C).length = long.toNat + 1 := by simp; omega
    have d1 : decide (1 ≤ long.toNat + 1) = true := decide_eq_true (by omega)
    have d2 : decide (long.toNat + 1 ≤ 4) = decide (long < 4) := decide_eq_decide.mpr (by omega)
    simp only [isT, hall, hlen, d1, d2, Bool.and_true, Bool.true_and]
  have n2 : ∀ xs, DI.D.tup (A ++ [.int (cell % (10 ^ 15 + 1))] ++ C) = .tup xs → ∀ y ∈ xs, noX y = true := fun xs h y hy => by
    cases h
    rcases List.mem_append.mp hy with hy | hy
    · rcases List.mem_append.mp hy with hy | hy
      · exact nx_of (gA y hy)
      · have : y = DI.D.int (cell % (10 ^ 15 + 1)) := List.mem_singleton.mp hy
        subst this; rfl
    · exact nx_of (gC y hy)
  have q4 : isT (.tup ((A ++ [od] ++ C).take (4 : Int).toNat)) = (at_ == 4) := by
    have hAl : A.length = at_.toNat := by
      rw [← hA, List.length_take, List.length_map, hvl]; omega
    by_cases h4 : at_ = 4
    · have e : (A ++ [od] ++ C).take (4 : Int).toNat = A := by
        rw [List.append_assoc]
        have : (4 : Int).toNat = A.length := by rw [hAl, h4]
        rw [this, List.take_left']
        rfl
      have a1 : 1 ≤ A.length := by omega
      have a2 : A.length ≤ 4 := lA
      simp only [isT, e, List.all_eq_true.mpr gA, Bool.and_true]
      simp [a1, a2, h4]
    · have hm : od ∈ (A ++ [od] ++ C).take (4 : Int).toNat := by
        refine List.mem_of_getElem? (i := A.length) ?_
        rw [List.getElem?_take_of_lt (show A.length < (4 : Int).toNat by rw [hAl]; omega), List.append_assoc, List.getElem?_append_right (Nat.le_refl _), Nat.sub_self]
        rfl
      have hall : ((A ++ [od] ++ C).take (4 : Int).toNat).all isNat = false := by
        rw [List.all_eq_false]
        exact ⟨od, hm, by simp [hn]⟩
      simp only [isT, hall, Bool.and_false]
      simp [h4]
  have n4 : ∀ xs, DI.D.tup ((A ++ [od] ++ C).take (4 : Int).toNat) = .tup xs → ∀ y ∈ xs, noX y = true := fun xs h y hy => by
    cases h
    have hy := List.mem_of_mem_take hy
    rcases List.mem_append.mp hy with hy | hy
    · rcases List.mem_append.mp hy with hy | hy
      · exact nx_of (gA y hy)
      · have : y = od := List.mem_singleton.mp hy
        subst this; exact ho
    · exact nx_of (gC y hy)
  have q6 : isT (.tup ((vs.map .int).take (1 : Int).toNat)) = true := by
    have a1 : ((vs.map DI.D.int).take (1 : Int).toNat).length = 1 := by
      rw [List.length_take, List.length_map, hvl]
      have : (1 : Int).toNat = 1 := rfl
      omega
    have hall : ((vs.map DI.D.int).take (1 : Int).toNat).all isNat = true := List.all_eq_true.mpr fun x hx => List.all_eq_true.mp (nat_all hv0) x (List.mem_of_mem_take hx)
    simp only [isT, hall, a1]
    rfl
  have n6 : ∀ xs, DI.D.tup ((vs.map .int).take (1 : Int).toNat) = .tup xs → ∀ y ∈ xs, noX y = true := fun xs h y hy => by
    cases h
    exact nx_of (List.all_eq_true.mp (nat_all hv0) y (List.mem_of_mem_take hy))
  have t1 := c_told (W := W) (n := n) (b := true) rfl n1
  have t2 := c_told (W := W) (n := n) (b := decide (long < 4)) rfl n2
  have t3 := c_told (W := W) (n := n) (d := .lst (vs.map .int)) (b := false) rfl (fun _ z => by cases z)
  have t4 := c_told (W := W) (n := n) (b := at_ == 4) rfl n4
  have t5 := c_told (W := W) (n := n) (d := .tup [.tup (vs.map .int)]) (b := false) rfl (fun xs z y hy => by cases z; have : y = DI.D.tup (vs.map .int) := (by simpa using hy); subst this; rfl)
  have t6 := c_told (W := W) (n := n) (b := true) rfl n6
  rw [q1] at t1
  rw [q2] at t2
  rw [q4] at t4
  rw [q6] at t6
  have q3 : isT (.lst (vs.map .int)) = false := rfl
  have q5 : isT (.tup [.tup (vs.map .int)]) = false := rfl
  rw [q3] at t3
  rw [q5] at t5
  simp only [beq_self_eq_true] at t1 t2 t3 t4 t5 t6
  refine ⟨a, .dat (.int cell), .dat (.int long), .dat (.tup (vs.map .int)), .dat (.int at_), .dat (.tup (A ++ [.int (cell % (10 ^ 15 + 1))] ++ C)), .dat (.tup (A ++ [od] ++ C)), ?_⟩
  simp only [putT, R.bind_ok', R.bind_ite, List.set_cons_succ, List.set_cons_zero, l_law_2, evSs, evS, evT, evE, evEs, evO, evI, List.getElem?_cons_zero, List.getElem?_cons_succ, List.length_cons, List.length_nil, Nat.reduceAdd, Nat.reduceLT, if_true, opD, if_pos p0, if_pos p1, if_pos p2, if_pos p3, if_pos p6, if_pos p8, p7, hlong, hat, seqF_nx, asgD, ev, eo, slcD, cut_to _ hat0, cut_from _ hat0, cut_to _ (show (0 : Int) ≤ 4 by decide), cut_to _ (show (0 : Int) ≤ 1 by decide), hA, hC, f1, f1', f2, f3, cmD, ltD, eqR, t1, t2, t3, t4, t5, t6, truth, seqOf, bfD, Bool.not_true, Bool.false_eq_true, if_false]

theorem law_true (ns : List Int) (hl : ns.length ≤ 63) : callD W P (n + 4) 6 [.lst (ns.map .int)] = .ok (.bl true) := by
  rw [callD_eq (d := ⟨1, 8, b_law⟩) rfl rfl]
  have h1 : ∀ {s a b c d e f g : Sl}, ∃ x, forGo (fun x r => (putT [1] true x r).bind fun r' => evSs (callD W P (n + 3)) W l_law_1 r')
      [.non, .bl true, .int 3, .str "1", .str "", .emp, .tup [], .lst [], .tup (List.replicate (5 : Int).toNat [DI.D.int 1]).flatten, .tup [.int 0, .int 0, .int 0, .int 0, .int 0]] [s, a, b, c, d, e, f, g] = .ok (.nx [s, x, b, c, d, e, f, g]) := by
    intro s a b c d e f g
    have five : ∀ x : DI.D, noX x = true → ∀ xs, DI.D.tup [x, x, x, x, x] = .tup xs → ∀ y ∈ xs, noX y = true := fun x hx xs z y hy => by
      cases z
      have : y = x := by simpa using hy
      subst this
      exact hx
    refine ⟨.dat (.tup [.int 0, .int 0, .int 0, .int 0, .int 0]), ?_⟩
    simp only [forGo]
    rw [turn1 (x := .non) rfl (fun _ z => by cases z) rfl]
    simp only [R.bind_ok']
    rw [turn1 (x := .bl true) rfl (fun _ z => by cases z) rfl]
    simp only [R.bind_ok']
    rw [turn1 (x := .int 3) rfl (fun _ z => by cases z) rfl]
    simp only [R.bind_ok']
    rw [turn1 (x := .str "1") rfl (fun _ z => by cases z) rfl]
    simp only [R.bind_ok']
    rw [turn1 (x := .str "") rfl (fun _ z => by cases z) rfl]
    simp only [R.bind_ok']
    rw [turn1 (x := .emp) rfl (fun _ z => by cases z) rfl]
    simp only [R.bind_ok']
    rw [turn1 (x := .tup []) rfl (fun xs z y hy => by cases z; simp at hy) rfl]
    simp only [R.bind_ok']
    rw [turn1 (x := .lst []) rfl (fun _ z => by cases z) rfl]
    simp only [R.bind_ok']
    rw [turn1 (x := .tup (List.replicate (5 : Int).toNat [DI.D.int 1]).flatten) rfl (five (.int 1) rfl) rfl]
    simp only [R.bind_ok']
    rw [turn1 (x := .tup [.int 0, .int 0, .int 0, .int 0, .int 0]) rfl (five (.int 0) rfl) rfl]
    simp only [R.bind_ok']
  have h2 : ∀ {s a b c d e f g : Sl} (ms : List Int), ∃ a' b' c' d' e' f' g', forGo (fun x r => (putT [2] true x r).bind fun r' => evSs (callD W P (n + 3)) W l_law_2 r') (ms.map .int) [s, a, b, c, d, e, f, g] = .ok (.nx [s, a', b', c', d', e', f', g']) := by
    intro s a b c d e f g ms
    induction ms generalizing a b c d e f g with
    | nil => exact ⟨a, b, c, d, e, f, g, rfl⟩
    | cons m ms ih =>
      obtain ⟨a1, b1, c1, d1, e1, f1, g1, e⟩ := turn2 (W := W) (n := n) (cell := m) (s := s) (a := a) (b := b) (c := c) (d := d) (e := e) (f := f) (g := g)
      simp only [List.map_cons, forGo, e, R.bind_ok']
      exact ih
  have f1 : fits 1 = true := rfl
  have f4 : fits 4 = true := rfl
  have f5 : fits 5 = true := rfl
  have f0 : fits 0 = true := rfl
  have f10 : fits 10 = true := rfl
  have p5 : (0 : Int) ≤ 5 ∧ (5 : Int) ≤ 16777216 ∧ fits (1 * (5 : Int).toNat) = true := ⟨by decide, by decide, rfl⟩
  have fl : fits (4 + ns.length) = true := by unfold fits; simp; omega
  obtain ⟨x, e1⟩ := h1 (s := .dat (.lst (ns.map .int))) (a := .no) (b := .no) (c := .no) (d := .no) (e := .no) (f := .no) (g := .no)
  obtain ⟨a, b, c, d, e, f, g, e2⟩ := h2 (s := .dat (.lst (ns.map .int))) (a := x) (b := .no) (c := .no) (d := .no) (e := .no) (f := .no) (g := .no) ([0, 1, 2, 3] ++ ns)
  simp only [List.map_append, List.map_cons, List.map_nil, List.cons_append, List.nil_append] at e2
  simp only [b_law, evSs, evS, evE, evEs, evI, seqOf, bfD, frzI, List.map_cons, List.map_nil, List.replicate, Nat.reduceSub, List.cons_append, List.nil_append, List.getElem?_cons_zero, List.length_cons, List.length_nil, List.length_map, Nat.reduceAdd, f1, f4, f5, f0, f10, if_true, opD, if_pos p5, R.bind_ok', seqF_nx, seqF_rt, fin_rt]
  rw [e1]
  simp only [R.bind_ok', seqF_nx, seqF_rt, List.getElem?_cons_zero, seqOf, List.length_cons, List.length_nil, List.length_map, Nat.reduceAdd, Nat.zero_add, fl, if_true, List.cons_append, List.nil_append, e2, fin_rt]
end Law

set_option Elab.async false
set_option maxRecDepth 100000
set_option maxHeartbeats 4000000
namespace Law
open PySem L2 DI
theorem fn_mk {K : Frag} {mg : Str → Option Value} {d : DefS} {b : Ss} {i f : Nat} {oc : Value} {od an : Option Addr} {sl : Array (Option Value)} {kV doc pm cd ct : Value} (hm : mg d.name = some (.ref f)) (l : K.lookup f = some ⟨oc, od, .func (PySem.W.fnOf d.name d.name (defArgs d.st) (defBody d.st) (defScope d.st) .none kV doc pm an cd ct), sl⟩)
    (c : PySem.W.codeIn K cd d.name = true) (k : PySem.W.keepIn K (.ref f) = true) (hb : BindP d) (hs : FnScope d.N d.ps (defScope d.st)) (ht : (mapO (trS T 60 (defScope d.st).names d.N) (defBody d.st)).map toSs = some b) (hP : P[i]? = some ⟨d.ps.length, d.N.length, b⟩) :
    ∃ f fd, mg d.name = some (.ref f) ∧ Fun K d.name d.name d.st f fd ∧ BindP d ∧ FnScope d.N d.ps (defScope d.st) ∧ ∃ ss, mapO (trS T 60 (defScope d.st).names d.N) (defBody d.st) = some ss ∧ P[i]? = some ⟨d.ps.length, d.N.length, toSs ss⟩ := by
  obtain ⟨ss, e1, e2⟩ := Option.map_eq_some_iff.mp ht
  exact ⟨f, _, hm, fun_mk l c k, hb, hs, ss, e1, by rw [e2]; exact hP⟩
theorem all_mk {K : Frag} {h : Heap} {mg : Str → Option Value} {f0 f1 f2 f3 f4 f5 f6 : Addr} (X : K.In h) (G : h.Ns mainGlobals mg)
    {od0 an0 od1 an1 od2 an2 od3 an3 od4 an4 od5 an5 od6 an6 : Option Addr} {sl0 sl1 sl2 sl3 sl4 sl5 sl6 : Array (Option Value)} {oc0 kV0 dc0 pm0 cd0 ct0 oc1 kV1 dc1 pm1 cd1 ct1 oc2 kV2 dc2 pm2 cd2 ct2 oc3 kV3 dc3 pm3 cd3 ct3 oc4 kV4 dc4 pm4 cd4 ct4 oc5 kV5 dc5 pm5 cd5 ct5 oc6 kV6 dc6 pm6 cd6 ct6 : Value}
    (a0 : PySem.W.nsIn K mainGlobals "is_number" = some (some (.ref f0))) (l0 : K.lookup f0 = some ⟨oc0, od0, .func (PySem.W.fnOf "is_number" "is_number" (defArgs (top 2)) (defBody (top 2)) (defScope (top 2)) .none kV0 dc0 pm0 an0 cd0 ct0), sl0⟩) (c0 : PySem.W.codeIn K cd0 "is_number" = true) (k0 : PySem.W.keepIn K (.ref f0) = true)
    (a1 : PySem.W.nsIn K mainGlobals "is_tally" = some (some (.ref f1))) (l1 : K.lookup f1 = some ⟨oc1, od1, .func (PySem.W.fnOf "is_tally" "is_tally" (defArgs (top 3)) (defBody (top 3)) (defScope (top 3)) .none kV1 dc1 pm1 an1 cd1 ct1), sl1⟩) (c1 : PySem.W.codeIn K cd1 "is_tally" = true) (k1 : PySem.W.keepIn K (.ref f1) = true)
    (a2 : PySem.W.nsIn K mainGlobals "_law_number" = some (some (.ref f2))) (l2 : K.lookup f2 = some ⟨oc2, od2, .func (PySem.W.fnOf "_law_number" "_law_number" (defArgs (top 5)) (defBody (top 5)) (defScope (top 5)) .none kV2 dc2 pm2 an2 cd2 ct2), sl2⟩) (c2 : PySem.W.codeIn K cd2 "_law_number" = true) (k2 : PySem.W.keepIn K (.ref f2) = true)
    (a3 : PySem.W.nsIn K mainGlobals "_law_tally" = some (some (.ref f3))) (l3 : K.lookup f3 = some ⟨oc3, od3, .func (PySem.W.fnOf "_law_tally" "_law_tally" (defArgs (top 6)) (defBody (top 6)) (defScope (top 6)) .none kV3 dc3 pm3 an3 cd3 ct3), sl3⟩) (c3 : PySem.W.codeIn K cd3 "_law_tally" = true) (k3 : PySem.W.keepIn K (.ref f3) = true)
    (a4 : PySem.W.nsIn K mainGlobals "_law_told" = some (some (.ref f4))) (l4 : K.lookup f4 = some ⟨oc4, od4, .func (PySem.W.fnOf "_law_told" "_law_told" (defArgs (top 7)) (defBody (top 7)) (defScope (top 7)) .none kV4 dc4 pm4 an4 cd4 ct4), sl4⟩) (c4 : PySem.W.codeIn K cd4 "_law_told" = true) (k4 : PySem.W.keepIn K (.ref f4) = true)
    (a5 : PySem.W.nsIn K mainGlobals "_law_odd" = some (some (.ref f5))) (l5 : K.lookup f5 = some ⟨oc5, od5, .func (PySem.W.fnOf "_law_odd" "_law_odd" (defArgs (top 8)) (defBody (top 8)) (defScope (top 8)) .none kV5 dc5 pm5 an5 cd5 ct5), sl5⟩) (c5 : PySem.W.codeIn K cd5 "_law_odd" = true) (k5 : PySem.W.keepIn K (.ref f5) = true)
    (a6 : PySem.W.nsIn K mainGlobals "law" = some (some (.ref f6))) (l6 : K.lookup f6 = some ⟨oc6, od6, .func (PySem.W.fnOf "law" "law" (defArgs (top 9)) (defBody (top 9)) (defScope (top 9)) .none kV6 dc6 pm6 an6 cd6 ct6), sl6⟩) (c6 : PySem.W.codeIn K cd6 "law" = true) (k6 : PySem.W.keepIn K (.ref f6) = true)
    {tk0 : Tok} (cst0 : PySem.W.nsIn K mainGlobals "MOST_NUMBERS" = some (some (.int 4 tk0)))
    (z0 : PySem.W.nsIn K mainGlobals "isinstance" = some none)
    (z1 : PySem.W.nsIn K mainGlobals "len" = some none)
    (z2 : PySem.W.nsIn K mainGlobals "tuple" = some none)
    (z3 : PySem.W.nsIn K mainGlobals "list" = some none)
    (z4 : PySem.W.nsIn K mainGlobals "all" = some none)
    (z5 : PySem.W.nsIn K mainGlobals "any" = some none)
    (z6 : PySem.W.nsIn K mainGlobals "range" = some none)
    (z7 : PySem.W.nsIn K mainGlobals "int" = some none)
    (z8 : PySem.W.nsIn K mainGlobals "bool" = some none)
    (z9 : PySem.W.nsIn K mainGlobals "str" = some none)
    (z10 : PySem.W.nsIn K mainGlobals "dict" = some none)
    : Prog K mg T DS P 60 := by
  refine ⟨rfl, fun x hx => ?_, fun x d hx => ?_, fun i d hd => ?_⟩
  · simp only [bltNames, List.mem_cons, List.not_mem_nil, or_false] at hx
    rcases hx with rfl | rfl | rfl | rfl | rfl | rfl | rfl | rfl | rfl | rfl | rfl
    · exact PySem.W.mg_none_of X G z0
    · exact PySem.W.mg_none_of X G z1
    · exact PySem.W.mg_none_of X G z2
    · exact PySem.W.mg_none_of X G z3
    · exact PySem.W.mg_none_of X G z4
    · exact PySem.W.mg_none_of X G z5
    · exact PySem.W.mg_none_of X G z6
    · exact PySem.W.mg_none_of X G z7
    · exact PySem.W.mg_none_of X G z8
    · exact PySem.W.mg_none_of X G z9
    · exact PySem.W.mg_none_of X G z10
  · simp only [T, List.lookup_cons] at hx
    split at hx
    · rename_i e
      cases hx
      have e : x = "MOST_NUMBERS" := by simpa using e
      subst e
      exact ⟨(fun _ z => by cases z), _, .int 4, PySem.W.mg_of X G cst0, ⟨_, rfl⟩, fun _ _ => by simp only [Rep]⟩
    · cases hx
  · match i, hd with
    | 0, hd => cases hd; exact fn_mk (i := 0) (PySem.W.mg_of X G a0) l0 c0 k0 p_is_number s_is_number t_is_number rfl
    | 1, hd => cases hd; exact fn_mk (i := 1) (PySem.W.mg_of X G a1) l1 c1 k1 p_is_tally s_is_tally t_is_tally rfl
    | 2, hd => cases hd; exact fn_mk (i := 2) (PySem.W.mg_of X G a2) l2 c2 k2 p__law_number s__law_number t__law_number rfl
    | 3, hd => cases hd; exact fn_mk (i := 3) (PySem.W.mg_of X G a3) l3 c3 k3 p__law_tally s__law_tally t__law_tally rfl
    | 4, hd => cases hd; exact fn_mk (i := 4) (PySem.W.mg_of X G a4) l4 c4 k4 p__law_told s__law_told t__law_told rfl
    | 5, hd => cases hd; exact fn_mk (i := 5) (PySem.W.mg_of X G a5) l5 c5 k5 p__law_odd s__law_odd t__law_odd rfl
    | 6, hd => cases hd; exact fn_mk (i := 6) (PySem.W.mg_of X G a6) l6 c6 k6 p_law s_law t_law rfl
    | k + 7, hd => simp [DS] at hd
end Law
open PySem PySem.W PyProof.Rows
set_option maxRecDepth 100000 in
set_option maxHeartbeats 0 in
theorem PySem.Challenge.cw_tallysets_k02_is_tally_holds : PySem.Challenge.rw_tallysets_k02_is_tally.Holds := by
  w_on; o_law; k_head; (case hw => w_witness2)
  k_fill
  refine DI.walk_data (l := PySem.Challenge.rw_tallysets_k02_is_tally) (T := Law.T) (DS := Law.DS) (P := Law.P) (fuel := 60) (W := 0) (n := 10) (i := 6) (x := "_law_script") (dl := Law.d_law) rfl rfl ⟨rfl, by decide, by decide⟩ (fun w h Y => PySem.W.kIn_of Y) rfl rfl rfl ?F (fun ns hl => Law.law_true (n := 6) ns hl)
  case F =>
    intro w mg h KX G
    refine' Law.all_mk KX G ?a0 ?l0 ?c0 ?k0 ?a1 ?l1 ?c1 ?k1 ?a2 ?l2 ?c2 ?k2 ?a3 ?l3 ?c3 ?k3 ?a4 ?l4 ?c4 ?k4 ?a5 ?l5 ?c5 ?k5 ?a6 ?l6 ?c6 ?k6 ?cst0 ?z0 ?z1 ?z2 ?z3 ?z4 ?z5 ?z6 ?z7 ?z8 ?z9 ?z10
    (case a0 => k_is)
    (case l0 => k_is)
    (case c0 => k_is)
    (case k0 => k_is)
    (case a1 => k_is)
    (case l1 => k_is)
    (case c1 => k_is)
    (case k1 => k_is)
    (case a2 => k_is)
    (case l2 => k_is)
    (case c2 => k_is)
    (case k2 => k_is)
    (case a3 => k_is)
    (case l3 => k_is)
    (case c3 => k_is)
    (case k3 => k_is)
    (case a4 => k_is)
    (case l4 => k_is)
    (case c4 => k_is)
    (case k4 => k_is)
    (case a5 => k_is)
    (case l5 => k_is)
    (case c5 => k_is)
    (case k5 => k_is)
    (case a6 => k_is)
    (case l6 => k_is)
    (case c6 => k_is)
    (case k6 => k_is)
    (case cst0 => k_is)
    (case z0 => k_is)
    (case z1 => k_is)
    (case z2 => k_is)
    (case z3 => k_is)
    (case z4 => k_is)
    (case z5 => k_is)
    (case z6 => k_is)
    (case z7 => k_is)
    (case z8 => k_is)
    (case z9 => k_is)
    (case z10 => k_is)
