import PyProof.Rows.All
import Wide.All
import OpenK.AllK
import Wide.FinOn
import Lean
import PyProof.EqAt
import PyProof.EqKinds
import PyProof.TupleCall
import Open.Tops
import PySem.Challenge.RW_callorder_k03_orders_judged
set_option Elab.async false
set_option linter.all false
set_option maxRecDepth 100000
/-! THE HAND LAYER, for ints, bools, texts, own classes, LISTS and tuples (index, slices, in, append, pop ..), calls, loops. Paste it whole ahead of your own text; what your proof does not reach may be deleted. -/
namespace L2
open PySem PySem.Spec PyProof.Rows

/-- a key: an int or a str -/
abbrev Key := Sum Int Str
def keyIs : Key → Value → Bool
  | .inl k, v => Value.isInt k v
  | .inr x, v => Value.isStrOf x v
def keyH (w : World) : Key → Int
  | .inl k => hashInt k
  | .inr x => hashStr w x
theorem keyIs_shape : ∀ {k : Key} {v : Value}, keyIs k v = true → (∃ i t, k = Sum.inl i ∧ v = Value.int i t) ∨ (∃ x t, k = Sum.inr x ∧ v = Value.str x t)
  | .inl i, v, h => by
    obtain ⟨t, e⟩ := Value.isInt_shape (k := i) (v := v) h
    exact .inl ⟨i, t, rfl, e⟩
  | .inr x, v, h => by
    obtain ⟨t, e⟩ := Value.isStrOf_shape (x := x) (v := v) h
    exact .inr ⟨x, t, rfl, e⟩
theorem keyIs_int (i : Int) (t : Tok) : keyIs (.inl i) (.int i t) = true := by simp [keyIs, Value.isInt]
theorem keyIs_str (x : Str) (t : Tok) : keyIs (.inr x) (.str x t) = true := by simp [keyIs, Value.isStrOf]
theorem key_ll (a b : Int) : decide ((Sum.inl a : Key) = Sum.inl b) = (a == b) := by
  by_cases e : a = b
  · subst e; simp
  · have h : ¬ (Sum.inl a : Key) = Sum.inl b := fun q => e (Sum.inl.inj q)
    rw [decide_eq_false h]
    exact (beq_eq_false_iff_ne.mpr e).symm
theorem key_rr (a b : Str) : decide ((Sum.inr a : Key) = Sum.inr b) = decide (a = b) := by
  by_cases e : a = b
  · subst e; simp
  · have h : ¬ (Sum.inr a : Key) = Sum.inr b := fun q => e (Sum.inr.inj q)
    rw [decide_eq_false h, decide_eq_false e]
theorem key_lr (a : Int) (b : Str) : decide ((Sum.inl a : Key) = Sum.inr b) = false := decide_eq_false (fun q => nomatch q)
theorem key_rl (a : Str) (b : Int) : decide ((Sum.inr a : Key) = Sum.inl b) = false := decide_eq_false (fun q => nomatch q)

def mixKind (prog : Program) (w : World) : PySem.KeyKind prog w Key where
  is := keyIs
  hash := keyH w
  inj := fun v a b ha hb => by
    rcases keyIs_shape ha with ⟨i, t, rfl, rfl⟩ | ⟨x, t, rfl, rfl⟩
    · rcases keyIs_shape hb with ⟨j, u, rfl, e⟩ | ⟨y, u, rfl, e⟩
      · injection e with e1 _; rw [e1]
      · exact nomatch e
    · rcases keyIs_shape hb with ⟨j, u, rfl, e⟩ | ⟨y, u, rfl, e⟩
      · exact nomatch e
      · injection e with e1 _; rw [e1]
  byValue := fun k v h => by
    rcases keyIs_shape h with ⟨i, t, rfl, rfl⟩ | ⟨x, t, rfl, rfl⟩ <;> rfl
  pyHash := fun hv h => by
    rcases keyIs_shape hv with ⟨i, t, rfl, rfl⟩ | ⟨x, t, rfl, rfl⟩
    · exact wpAny_pyHash_int h
    · exact wpAny_pyHash_str h
  eqBool := fun hu hv h => by
    rcases keyIs_shape hu with ⟨i, t, rfl, rfl⟩ | ⟨x, t, rfl, rfl⟩
    · rcases keyIs_shape hv with ⟨j, u, rfl, rfl⟩ | ⟨y, u, rfl, rfl⟩
      · rw [key_ll] at h; exact wpAny_eqBool_int h
      · rw [key_lr] at h; exact SeqAt.EqAt.int_str i t y u _ _ _ _ h
    · rcases keyIs_shape hv with ⟨j, u, rfl, rfl⟩ | ⟨y, u, rfl, rfl⟩
      · rw [key_rl] at h; exact SeqAt.EqAt.str_int x t j u _ _ _ _ h
      · rw [key_rr] at h; exact wpAny_eqBool_str h
  «strs» := fun k x t v h => by
    rcases keyIs_shape h with ⟨i, u, rfl, e⟩ | ⟨y, u, rfl, e⟩
    · exact nomatch e
    · injection e with e1 _
      subst e1
      cases v <;> rfl

theorem mixKind_is (prog : Program) (w : World) (k : Key) (v : Value) : (mixKind prog w).is k v = keyIs k v := rfl
theorem mixKind_int (prog : Program) (w : World) (i : Int) (t : Tok) : (mixKind prog w).is (.inl i) (.int i t) = true := keyIs_int i t
theorem mixKind_str (prog : Program) (w : World) (x : Str) (t : Tok) : (mixKind prog w).is (.inr x) (.str x t) = true := keyIs_str x t
end L2

namespace L2
open PySem PySem.Spec PyProof.Rows

/-- a value, without the heap -/
inductive V where
  | non | bl (b : Bool) | int (i : Int) | str (x : Str) | byt (b : Array UInt8) | flt (b : UInt64) | ref (a : Addr) | ty (n : String)
  deriving DecidableEq

def RelV : V → Value → Prop
  | .non, u => u = Value.none
  | .bl b, u => u = Value.bool b
  | .int i, u => ∃ t, u = Value.int i t
  | .str x, u => ∃ t, u = Value.str x t
  | .byt b, u => ∃ t, u = Value.bytes b t
  | .flt b, u => ∃ t, u = Value.float b t
  | .ref a, u => u = Value.ref a
  | .ty n, u => u = Value.type n

abbrev Vals : List V → List Value → Prop := Paired RelV
theorem Vals.length {xs : List V} {us : List Value} (r : Vals xs us) : xs.length = us.length := Paired.length r
theorem Vals.get : ∀ {xs : List V} {us : List Value} {i : Nat} {x : V}, Vals xs us → xs[i]? = some x → ∃ u, us[i]? = some u ∧ RelV x u
  | _, _, _, _, .nil, e => by simp at e
  | _, _, 0, _, .cons r _, e => by simp at e; subst e; exact ⟨_, rfl, r⟩
  | _, _, i + 1, x, .cons _ t, e => by
    obtain ⟨u, h1, h2⟩ := Vals.get (i := i) (x := x) t (by simpa using e)
    exact ⟨u, by simpa using h1, h2⟩
theorem Vals.set {x : V} {u : Value} (r : RelV x u) : ∀ {xs : List V} {us : List Value} (i : Nat), Vals xs us → Vals (xs.set i x) (us.set i u)
  | _, _, _, .nil => .nil
  | _, _, 0, .cons _ t => .cons r t
  | _, _, i + 1, .cons q t => .cons q (Vals.set r i t)
theorem Vals.append : ∀ {xs ys : List V} {us ws : List Value}, Vals xs us → Vals ys ws → Vals (xs ++ ys) (us ++ ws)
  | _, _, _, _, .nil, s => s
  | _, _, _, _, .cons r t, s => .cons r (Vals.append t s)
theorem Vals.take : ∀ {xs : List V} {us : List Value} (n : Nat), Vals xs us → Vals (xs.take n) (us.take n)
  | _, _, 0, _ => .nil
  | _, _, _ + 1, .nil => .nil
  | _, _, n + 1, .cons r t => .cons r (Vals.take n t)
theorem Vals.drop : ∀ {xs : List V} {us : List Value} (n : Nat), Vals xs us → Vals (xs.drop n) (us.drop n)
  | _, _, 0, r => r
  | _, _, _ + 1, .nil => .nil
  | _, _, n + 1, .cons _ t => Vals.drop n t
theorem Vals.none_of : ∀ {xs : List V} {us : List Value} {i : Nat}, Vals xs us → xs[i]? = none → us[i]? = none := fun {xs us i} r e => by
  have h1 := r.length
  have h2 : xs.length ≤ i := List.getElem?_eq_none_iff.mp e
  exact List.getElem?_eq_none_iff.mpr (by omega)

def RelO : Option V → Option Value → Prop
  | some v, some u => RelV v u
  | none, none => True
  | _, _ => False
def KV {κ : Type} : List (κ × V) → List (κ × Value) → Prop := Paired fun (p : κ × V) (q : κ × Value) => p.1 = q.1 ∧ RelV p.2 q.2

/-- a key of a dict (00_mix): an int or a text -/
def kV : Key → V
  | .inl i => .int i
  | .inr x => .str x

/-- what stands at a tracked address -/
inductive HO where
  /-- a list -/
  | lst (xs : List V)
  /-- a tuple (never changes) -/
  | tup (xs : List V)
  /-- a dict whose keys are ints and texts; one whose keys are tuples of ints and texts (the empty one is both) -/
  | dK (kvs : List (Key × V)) | dT (kvs : List (List Key × V))
  /-- a set of ints: its members, its size -/
  | set (S : Int → Bool) (n : Nat)
  /-- an instance of the class at C, its dict at dx, its attributes -/
  | ins (C dx : Addr) (fs : List (Str × V))
  /-- the dict of the instance at x -/
  | own (x : Addr)
  /-- the dict of an exception -/
  | xd (fs : List (Str × V))
  /-- a bound method, f of x -/
  | met (f x : Addr)
  /-- a range object lo, lo + 1, .. below hi -/
  | rng (lo hi : Int)
  /-- a thing that is known to the object (the script; a dict while a loop walks it): read, never written while it is so -/
  | frz (o : Obj) (u : HO)
  /-- a code object's table -/
  | tbl (ps : Array Value)
  /-- any other thing, by what is true of its one object (a def of one's own: SetO a S n := HO.ext fun h => ..) -/
  | ext (φ : Heap → Prop)

abbrev Hp := Addr → Option HO
def upd (H : Hp) (a : Addr) (o : HO) : Hp := fun b => if b = a then some o else H b
theorem upd_same {H : Hp} {a : Addr} {o : HO} : upd H a o a = some o := by unfold upd; rw [if_pos rfl]
theorem upd_ne {H : Hp} {a b : Addr} {o : HO} (h : b ≠ a) : upd H a o b = H b := by unfold upd; rw [if_neg h]
theorem upd_upd {H : Hp} {a : Addr} {o u : HO} : upd (upd H a o) a u = upd H a u := by
  funext b; unfold upd; split <;> rfl
/-- two objects of different content stand apart -/
theorem ne_of {H : Hp} {a b : Addr} {o u : HO} (h : H a = some o) (h' : H b = some u) (d : o ≠ u) : a ≠ b := by
  intro e; subst e; rw [h] at h'; exact d (Option.some.inj h')
theorem ne_of_none {H : Hp} {a b : Addr} {o : HO} (h : H a = some o) (h' : H b = none) : a ≠ b := by
  intro e; subst e; rw [h] at h'; cases h'

section
variable (P : Program) (w : World)
def ObjOk (H : Hp) (h : Heap) (a : Addr) : HO → Prop
  | .lst xs => xs.length ≤ sizeLine ∧ ∃ (its : List Value) (n : Nat), Vals xs its ∧ h.get? a = some { cls := .type "list", data := .seq its.toArray n }
  | .tup xs => xs.length ≤ sizeLine ∧ ∃ its : List Value, Vals xs its ∧ IsTup h a its.toArray
  | .dK kvs => kvs.length ≤ sizeLine ∧ (a == sysModules) = false ∧ ∃ vs, KV kvs vs ∧ h.DictOf (mixKind P w) a vs
  | .dT kvs => kvs.length ≤ sizeLine ∧ (a == sysModules) = false ∧ ∃ xs : List (List Key × Addr × Value),
      Paired (fun (p : List Key × V) (q : List Key × Addr × Value) => p.1 = q.1 ∧ H q.2.1 = some (.tup (p.1.map kV)) ∧ RelV p.2 q.2.2) kvs xs ∧
      ∃ o es ep, h.get? a = some o ∧ o.ExactDict ∧ o.data = .dict es ep ∧ es.toList = xs.map (entryOfKey (tupleKind (mixKind P w))) ∧ (xs.map (·.1)).Nodup
  | .set S n => h.SetOf (intKind P w) a S n
  | .ins C dx fs => H dx = some (.own a) ∧ fs.length ≤ 1000 ∧ dx ≠ a ∧ h.get? a = some (PySem.W.instObj C dx) ∧
      ∃ mA, h.Ns1 dx mA ∧ (∀ f, RelO (fs.lookup f) (mA f)) ∧ PySem.Within mA (fs.map (·.1))
  | .own _ => ∃ o, h.get? a = some o
  | .xd fs => ∃ mA, h.Ns1 a mA ∧ ∀ f, RelO (fs.lookup f) (mA f)
  | .rng lo hi => ∃ t u v, h.get? a = some { cls := .type "range", data := .fields #[.int lo t, .int hi u, .int 1 v] }
  | .frz o u => h.get? a = some o ∧ ObjOk H h a u
  | .tbl ps => h.get? a = some { cls := .none, data := .fields ps }
  | .met f x => h.get? a = some (PySem.W.methodObj (.ref f) (.ref x))
  | .ext φ => φ h ∧ (∃ o, h.get? a = some o) ∧ ∀ h1 h2 : Heap, φ h1 → (∀ o, h1.get? a = some o → h2.get? a = some o) → φ h2
/-- the abstract heap is held -/
def HOk (H : Hp) (h : Heap) : Prop := ∀ a o, H a = some o → ObjOk P w H h a o
end

section
variable {P : Program} {w : World} {H H' : Hp} {h h' : Heap} {a : Addr} {o : HO}
theorem ObjOk.lt (x : ObjOk P w H h a o) : a < h.objs.size := by
  cases o with
  | lst xs => obtain ⟨_, _, _, _, e⟩ := x; exact Heap.lt_size e
  | tup xs => obtain ⟨_, _, _, p⟩ := x; exact p.lt
  | dK kvs => obtain ⟨_, _, _, _, o, _, _, e, _⟩ := x; exact Heap.lt_size e
  | dT kvs => obtain ⟨_, _, _, _, o, _, _, e, _⟩ := x; exact Heap.lt_size e
  | set S n => obtain ⟨o, _, _, _, e, _⟩ := x; exact Heap.lt_size e
  | ins C dx fs => obtain ⟨_, _, _, e, _⟩ := x; exact Heap.lt_size e
  | own y => obtain ⟨_, e⟩ := x; exact Heap.lt_size e
  | xd fs => obtain ⟨_, ⟨_, _, _, e, _⟩, _⟩ := x; exact Heap.lt_size e
  | rng lo hi => obtain ⟨_, _, _, e⟩ := x; exact Heap.lt_size e
  | frz ob u => obtain ⟨e, _⟩ := x; exact Heap.lt_size e
  | tbl ps => exact Heap.lt_size (show h.get? a = some _ from x)
  | met f y => exact Heap.lt_size (show h.get? a = some _ from x)
  | ext φ => obtain ⟨_, ⟨_, e⟩, _⟩ := x; exact Heap.lt_size e
theorem Paired.mapP {α β : Type} {F G : α → β → Prop} : ∀ {l₁ : List α} {l₂ : List β}, Paired F l₁ l₂ → (∀ a b, F a b → G a b) → Paired G l₁ l₂
  | _, _, .nil, _ => .nil
  | _, _, .cons r t, f => .cons (f _ _ r) (Paired.mapP t f)
theorem Paired.imp' {α β : Type} {F G : α → β → Prop} (f : ∀ a b, F a b → G a b) {l₁ : List α} {l₂ : List β} (r : Paired F l₁ l₂) : Paired G l₁ l₂ := Paired.mapP r f
/-- what an object's description leans on: its own object, its own dict, the tuples -/
theorem ObjOk.stay (x : ObjOk P w H h a o) (k : ∀ b u, (b = a ∨ H b = some (.own a)) → h.get? b = some u → h'.get? b = some u)
    (ho : ∀ b, H b = some (.own a) → H' b = some (.own a)) (ht : ∀ b xs, H b = some (.tup xs) → H' b = some (.tup xs)) : ObjOk P w H' h' a o := by
  induction o with
  | lst xs => obtain ⟨z, its, n, r, e⟩ := x; exact ⟨z, its, n, r, k _ _ (.inl rfl) e⟩
  | tup xs => obtain ⟨z, its, r, ob, e, c⟩ := x; exact ⟨z, its, r, ob, k _ _ (.inl rfl) e, c⟩
  | dK kvs => obtain ⟨z, y, vs, r, ob, es, ep, e, c⟩ := x; exact ⟨z, y, vs, r, ob, es, ep, k _ _ (.inl rfl) e, c⟩
  | dT kvs =>
    obtain ⟨z, y, xs, r, ob, es, ep, e, c⟩ := x
    exact ⟨z, y, xs, Paired.mapP r fun p q z => ⟨z.1, ht _ _ z.2.1, z.2.2⟩, ob, es, ep, k _ _ (.inl rfl) e, c⟩
  | set S n => obtain ⟨ob, es, ep, t, e, c⟩ := x; exact ⟨ob, es, ep, t, k _ _ (.inl rfl) e, c⟩
  | ins C dx fs =>
    obtain ⟨d, z, ne, e, mA, ⟨od, es, ep, e2, c⟩, r⟩ := x
    exact ⟨ho _ d, z, ne, k _ _ (.inl rfl) e, mA, ⟨od, es, ep, k _ _ (.inr d) e2, c⟩, r⟩
  | own y => obtain ⟨ob, e⟩ := x; exact ⟨ob, k _ _ (.inl rfl) e⟩
  | xd fs => obtain ⟨mA, ⟨od, es, ep, e, c⟩, r⟩ := x; exact ⟨mA, ⟨od, es, ep, k _ _ (.inl rfl) e, c⟩, r⟩
  | rng lo hi => obtain ⟨t, u, v, e⟩ := x; exact ⟨t, u, v, k _ _ (.inl rfl) e⟩
  | frz ob u ih => obtain ⟨e, q⟩ := x; exact ⟨k _ _ (.inl rfl) e, ih q⟩
  | tbl ps =>
    have e : h.get? a = some { cls := .none, data := .fields ps } := x
    show h'.get? a = some { cls := .none, data := .fields ps }
    exact k a _ (.inl rfl) e
  | met f y =>
    have e : h.get? a = some (PySem.W.methodObj (.ref f) (.ref y)) := x
    show h'.get? a = some (PySem.W.methodObj (.ref f) (.ref y))
    exact k a _ (.inl rfl) e
  | ext φ => obtain ⟨p, ⟨o, e⟩, st⟩ := x; exact ⟨st _ _ p fun o q => k _ _ (.inl rfl) q, ⟨o, k _ _ (.inl rfl) e⟩, st⟩
theorem HOk.lt (x : HOk P w H h) (e : H a = some o) : a < h.objs.size := (x a o e).lt
theorem HOk.fresh (x : HOk P w H h) (e : h.objs.size ≤ a) : H a = none := by
  cases q : H a with
  | none => rfl
  | some u => exact absurd (Nat.lt_of_lt_of_le (x.lt q) e) (Nat.lt_irrefl _)
/-- every object of the heap is kept -/
theorem HOk.kept (x : HOk P w H h) (k : ∀ b u, h.get? b = some u → h'.get? b = some u) : HOk P w H h' := fun a o e =>
  (x a o e).stay (fun b u _ q => k b u q) (fun _ q => q) fun _ _ q => q
/-- a new object is laid and tracked -/
theorem HOk.laid (x : HOk P w H h) (k : ∀ b u, h.get? b = some u → h'.get? b = some u) (hp : h.objs.size ≤ a) (new : ObjOk P w (upd H a o) h' a o) : HOk P w (upd H a o) h' := fun b u e => by
  have hn := x.fresh hp
  by_cases hb : b = a
  · subst hb; rw [upd_same] at e; cases e; exact new
  · rw [upd_ne hb] at e
    exact (x b u e).stay (fun c v _ q => k c v q) (fun c q => by rw [upd_ne (ne_of_none q hn)]; exact q) fun c xs q => by rw [upd_ne (ne_of_none q hn)]; exact q
end

/-- what may be read as u: it is u, or a known u -/
def Rd (H : Hp) (a : Addr) (u : HO) : Prop := H a = some u ∨ ∃ o, H a = some (.frz o u)
theorem Rd.of {H : Hp} {a : Addr} {u : HO} (h : H a = some u) : Rd H a u := .inl h
theorem Rd.ok {P : Program} {w : World} {H : Hp} {h : Heap} {a : Addr} {u : HO} (r : Rd H a u) (x : HOk P w H h) : ObjOk P w H h a u := by
  rcases r with r | ⟨o, r⟩
  · exact x a u r
  · obtain ⟨_, q⟩ := x a _ r
    exact q
/-- what may be written -/
def Mut : Option HO → Prop
  | some (.lst _) => True
  | some (.dK _) => True
  | some (.dT _) => True
  | some (.set _ _) => True
  | some (.ins _ _ _) => True
  | some (.ext _) => True
  | _ => False
section
variable {P : Program} {w : World} {H : Hp} {h h' : Heap} {x e : Addr} {o' : HO}
/-- the object at e is changed: x itself, or the dict of the instance x -/
theorem HOk.write (ok : HOk P w H h) (mu : Mut (H x)) (he : e = x ∨ H e = some (.own x)) (k : ∀ b u, b ≠ e → h.get? b = some u → h'.get? b = some u) (heo : ∃ u, h'.get? e = some u)
    (new : ObjOk P w (upd H x o') h' x o') : HOk P w (upd H x o') h' := fun b u q => by
  have nown : ∀ c y, H c = some (.own y) → c ≠ x := fun c y r z => by subst z; rw [r] at mu; exact mu
  have ntup : ∀ c xs, H c = some (.tup xs) → c ≠ x := fun c xs r z => by subst z; rw [r] at mu; exact mu
  by_cases hb : b = x
  · subst hb; rw [upd_same] at q; cases q; exact new
  · rw [upd_ne hb] at q
    by_cases hbe : b = e
    · have q' : H b = some (.own x) := by
        rcases he with z | z
        · exact absurd (hbe.trans z) hb
        · rw [hbe]; exact z
      rw [q] at q'; cases q'
      obtain ⟨v, hv⟩ := heo
      exact ⟨v, by rw [hbe]; exact hv⟩
    · refine (ok b u q).stay (fun c v hc r => k c v ?_ r) (fun c r => by rw [upd_ne (nown c b r)]; exact r) fun c xs r => by rw [upd_ne (ntup c xs r)]; exact r
      rcases hc with rfl | hc
      · exact hbe
      · rintro rfl
        rcases he with z | z
        · exact nown c b hc z
        · rw [hc] at z; cases z; exact hb rfl
end

/-! ### kept unless tracked; of the frames at fs (the callers') the slots may change (an exception that passes writes there); of the records at ex (iterators) nothing is said -/
structure Un (fs ex : List Addr) (H H' : Hp) (h h' : Heap) : Prop where
  keep : ∀ b o, h.get? b = some o → H b = none → b ∉ fs → b ∉ ex → h'.get? b = some o
  slot : ∀ b o, h.get? b = some o → H b = none → b ∈ fs → b ∉ ex → ∃ sl, h'.get? b = some { o with slots := sl }
  free : ∀ b o, h.get? b = some o → H b = none → b ∉ ex → H' b = none
  there : ∀ b o, h.get? b = some o → b ∉ ex → ∃ o', h'.get? b = some o'
  tups : ∀ b xs, H b = some (.tup xs) → H' b = some (.tup xs)
  frzs : ∀ b o u, H b = some (.frz o u) → H' b = some (.frz o u)
  tbls : ∀ b ps, H b = some (.tbl ps) → ∃ more, H' b = some (.tbl (ps ++ more))
section
variable {fs fs' ex ex' : List Addr} {H H1 H2 : Hp} {h h1 h2 h' : Heap} {a x e : Addr} {o : HO}
theorem Un.any (u : Un fs ex H H1 h h1) {b : Addr} {ob : Obj} (q : h.get? b = some ob) (n : H b = none) (hx : b ∉ ex) : ∃ sl, h1.get? b = some { ob with slots := sl } := by
  by_cases hb : b ∈ fs
  · exact u.slot b ob q n hb hx
  · exact ⟨ob.slots, u.keep b ob q n hb hx⟩
theorem Un.trans (a : Un fs ex H H1 h h1) (b : Un fs ex H1 H2 h1 h2) : Un fs ex H H2 h h2 where
  keep := fun c ob q n hc hx => b.keep c ob (a.keep c ob q n hc hx) (a.free c ob q n hx) hc hx
  slot := fun c ob q n hc hx => by
    obtain ⟨sl, e1⟩ := a.slot c ob q n hc hx
    obtain ⟨sl', e2⟩ := b.slot c _ e1 (a.free c ob q n hx) hc hx
    exact ⟨sl', e2⟩
  free := fun c ob q n hx => by
    obtain ⟨o', e1⟩ := a.there c ob q hx
    exact b.free c o' e1 (a.free c ob q n hx) hx
  there := fun c ob q hx => by
    obtain ⟨o', e1⟩ := a.there c ob q hx
    exact b.there c o' e1 hx
  tups := fun c xs q => b.tups c xs (a.tups c xs q)
  frzs := fun c ob xs q => b.frzs c ob xs (a.frzs c ob xs q)
  tbls := fun c ps q => by
    obtain ⟨m1, e1⟩ := a.tbls c ps q
    obtain ⟨m2, e2⟩ := b.tbls c _ e1
    exact ⟨m1 ++ m2, by rw [e2, Array.append_assoc]⟩
theorem Un.kept (k : ∀ b u, h.get? b = some u → h'.get? b = some u) : Un fs ex H H h h' :=
  ⟨fun b ob q _ _ _ => k b ob q, fun b ob q _ _ _ => ⟨ob.slots, k b ob q⟩, fun _ _ _ n _ => n, fun b ob q _ => ⟨ob, k b ob q⟩, fun _ _ q => q, fun _ _ _ q => q, fun _ ps q => ⟨#[], by rw [q]; simp⟩⟩
theorem Un.refl : Un fs ex H H h h := Un.kept fun _ _ q => q
theorem Un.laid (k : ∀ b u, h.get? b = some u → h'.get? b = some u) (hp : h.objs.size ≤ a) (hn : H a = none) : Un fs ex H (upd H a o) h h' where
  keep := fun b u q _ _ _ => k b u q
  slot := fun b u q _ _ _ => ⟨u.slots, k b u q⟩
  free := fun b u q n _ => by rw [upd_ne (Nat.ne_of_lt (Nat.lt_of_lt_of_le (Heap.lt_size q) hp))]; exact n
  there := fun b u q _ => ⟨u, k b u q⟩
  tups := fun b xs q => by rw [upd_ne (ne_of_none q hn)]; exact q
  frzs := fun b u xs q => by rw [upd_ne (ne_of_none q hn)]; exact q
  tbls := fun b ps q => ⟨#[], by rw [upd_ne (ne_of_none q hn), q]; simp⟩
theorem Un.write (mu : Mut (H x)) (he : e = x ∨ H e = some (.own x)) (k : ∀ b u, b ≠ e → h.get? b = some u → h'.get? b = some u) (heo : ∃ u, h'.get? e = some u) : Un fs ex H (upd H x o) h h' := by
  have hx : ∀ b, H b = none → b ≠ x := fun b n z => by subst z; rw [n] at mu; exact mu
  have hb : ∀ b, H b = none → b ≠ e := fun b n z => by
    subst z
    rcases he with r | r
    · exact hx b n r
    · rw [n] at r; cases r
  have hm : ∀ b u, H b = some u → ¬ Mut (some u) → b ≠ x := fun b u q nm z => by subst z; rw [q] at mu; exact nm mu
  refine ⟨fun b u q n _ _ => k b u (hb b n) q, fun b u q n _ _ => ⟨u.slots, k b u (hb b n) q⟩, fun b u q n _ => by rw [upd_ne (hx b n)]; exact n, fun b u q _ => ?_,
    fun b xs q => by rw [upd_ne (hm b _ q fun z => z)]; exact q, fun b u xs q => by rw [upd_ne (hm b _ q fun z => z)]; exact q, fun b ps q => ⟨#[], by rw [upd_ne (hm b _ q fun z => z), q]; simp⟩⟩
  by_cases hbe : b = e
  · subst hbe; exact heo
  · exact ⟨u, k b u hbe q⟩
theorem Un.mono (u : Un fs ex H H1 h h1) (hs : ∀ b ∈ fs, b ∈ fs') (hx : ∀ b ∈ ex, b ∈ ex') : Un fs' ex' H H1 h h1 :=
  ⟨fun b ob q n hb he => u.keep b ob q n (fun z => hb (hs b z)) fun z => he (hx b z), fun _ _ q n _ he => u.any q n fun z => he (hx _ z), fun b ob q n he => u.free b ob q n fun z => he (hx b z), fun b ob q he => u.there b ob q fun z => he (hx b z), u.tups, u.frzs, u.tbls⟩
end

/-! ### the heap without what is tracked -/
def trk (h : Heap) (H : Hp) : List Addr := (List.range h.objs.size).filter fun a => (H a).isSome
def hidT (h : Heap) (H : Hp) : Heap := PySem.W.hideAll h (trk h H)
theorem hidT_size (h : Heap) (H : Hp) : (hidT h H).objs.size = h.objs.size := PySem.W.hideAll_size _ _
theorem hidT_get {h : Heap} {H : Hp} {b : Addr} {o : Obj} (e : h.get? b = some o) (n : H b = none) : (hidT h H).get? b = some o :=
  PySem.W.hideAll_get _ e fun hm => by
    have q : (H b).isSome = true := (List.mem_filter.mp hm).2
    rw [n] at q; simp at q
theorem of_hidT {h : Heap} {H : Hp} {b : Addr} {o : Obj} (e : (hidT h H).get? b = some o) : h.get? b = some o ∧ H b = none := by
  have e' : h.get? b = some o := PySem.W.of_hideAll (trk h H) e
  refine ⟨e', ?_⟩
  cases q : H b with
  | none => rfl
  | some x =>
    have hm : b ∈ trk h H := List.mem_filter.mpr ⟨List.mem_range.mpr (Heap.lt_size e'), by simp [q]⟩
    have z : (hidT h H).get? b = none := PySem.W.hideAll_none (trk h H) hm
    rw [z] at e; cases e

/-! ### OpenK's ledger, filled with every new object but one -/
def allNews (g h : Heap) (L : Addr) : List (Addr × Obj) := (List.range h.objs.size).filterMap fun a => if a = L ∨ (g.get? a).isSome = true then none else (h.get? a).map fun o => (a, o)
theorem mem_allNews {g h : Heap} {L a : Addr} {o : Obj} (h1 : a ≠ L) (h2 : g.get? a = none) (h3 : h.get? a = some o) : (a, o) ∈ allNews g h L :=
  List.mem_filterMap.mpr ⟨a, List.mem_range.mpr (Heap.lt_size h3), by simp [h1, h2, h3]⟩
theorem of_mem_allNews {g h : Heap} {L : Addr} {p : Addr × Obj} (hp : p ∈ allNews g h L) : p.1 ≠ L ∧ g.get? p.1 = none ∧ h.get? p.1 = some p.2 := by
  obtain ⟨b, _, e⟩ := List.mem_filterMap.mp hp
  split at e
  · cases e
  · rename_i hn
    cases q : h.get? b with
    | none => rw [q] at e; simp at e
    | some u =>
      rw [q] at e
      simp only [Option.map_some, Option.some.injEq] at e
      subst e
      refine ⟨fun z => hn (.inl z), ?_, q⟩
      show g.get? b = none
      cases r : g.get? b with
      | none => rfl
      | some v => exact (hn (.inr (by simp [r]))).elim
def rest (g h : Heap) (L d : Addr) : List (Addr × Obj) := (allNews g h L).filter fun p => decide (p.1 ≠ d)
theorem rest_ne {g h : Heap} {L d : Addr} : ∀ p ∈ rest g h L d, p.1 ≠ d := fun p hp => of_decide_eq_true (List.mem_filter.mp hp).2
theorem mem_rest {g h : Heap} {L d a : Addr} {o : Obj} (h1 : a ≠ L) (h2 : g.get? a = none) (h3 : h.get? a = some o) (h4 : a ≠ d) : (a, o) ∈ rest g h L d :=
  List.mem_filter.mpr ⟨mem_allNews h1 h2 h3, decide_eq_true h4⟩
theorem news_all {g h : Heap} {L : Addr} : News g L h (allNews g h L) := fun p hp => let ⟨a, b, c⟩ := of_mem_allNews hp; ⟨c, a, b⟩
theorem news_at {g h : Heap} {L d : Addr} {o : Obj} (h1 : d ≠ L) (h2 : g.get? d = none) (h3 : h.get? d = some o) : News g L h ((d, o) :: rest g h L d) := fun p hp => by
  rcases List.mem_cons.mp hp with rfl | hp
  · exact ⟨h3, h1, h2⟩
  · exact news_all p (List.mem_filter.mp hp).1
/-- behind a rule that changed d alone: all else but the frame is kept -/
theorem kept_of_news {g h h' : Heap} {L d : Addr} {m : Str → Option Value} (k : ∀ b o, g.get? b = some o → h.get? b = some o) (F : Fr g L h' m) (N : News g L h' (rest g h L d)) :
    ∀ b o, b ≠ L → b ≠ d → h.get? b = some o → h'.get? b = some o := fun b o h1 h2 e => by
  cases q : g.get? b with
  | some u =>
    have := k b u q
    rw [e] at this; cases this
    exact F.keep b _ q
  | none => exact (N (b, o) (mem_rest h1 q e h2)).1
end L2

namespace L2
open PySem PySem.Spec PyProof.Rows

/-- the module's facts, over the base: the heap at the law's entry without what is tracked there -/
structure Mod (K : PySem.W.Frag) (mg : Str → Option Value) (base : Heap) : Prop where
  kin : K.In base
  glob : base.Ns mainGlobals mg
  blt : ∃ mb, base.Ns builtinsNs mb ∧ ∀ x : Str, x ≠ "__name__" → mb x = bootBuiltins x
  nolimit : base.NoLimit

/-- the context: a def's body (or a comprehension's block) running. base: fixed through the whole law; s₀, H₀: the entry; outer: the frames whose slots others may change (a def's callers); stack: all frames that run;
   ex: iterators that were made ahead of the entry and are walked here (a comprehension's); fn: the names whose cells were made at the entry (a def: all; a comprehension's block: its own); calm: not within an except suite; pn: pins that every state bears; xe: what is wanted of an exception that leaves the code -/
structure Cx where
  prog : Program
  w : World
  K : PySem.W.Frag
  mg : Str → Option Value
  base : Heap
  A : Around
  N : List Str
  s₀ : Shared
  H₀ : Hp
  env : Env
  outer : List Env
  stack : List Env
  ex : List Addr
  fn : Str → Bool
  calm : Bool
  pn : List (Addr × Obj)
  xe : Value → Shared → Prop
/-- the callers' frames -/
def frs (l : List Env) : List Addr := l.filterMap (·.frame)
abbrev Cx.fs (X : Cx) : List Addr := frs X.outer

def Vis (sc : Scope) (x : Str) : Prop := sc.names.lookup x = some .local ∨ sc.names.lookup x = some .cell ∨ sc.names.lookup x = some .free
def Loc (sc : Scope) (x : Str) : Prop := sc.names.lookup x = some .local ∨ sc.names.lookup x = some .cell
def Look (env : Env) (h : Heap) (m : Str → Option Value) (x : Str) (u : Value) : Prop :=
  (env.kindOf x = some .local ∧ m x = some u) ∨ ((env.kindOf x = some .cell ∨ env.kindOf x = some .free) ∧ ∃ c, env.cells.lookup x = some c ∧ h.IsCell c (some u))

structure Cx.Ok (X : Cx) : Prop where
  mod : Mod X.K X.mg X.base
  kind : X.env.scope.kind = .function
  glob : X.env.globals = mainGlobals
  blt : X.env.builtins = builtinsNs
  above : X.s₀.heap.objs.size ≤ X.env.locals
  inj : ∀ x y c, X.env.cells.lookup x = some c → X.env.cells.lookup y = some c → x = y
  has : ∀ x, (X.env.kindOf x = some .cell ∨ X.env.kindOf x = some .free) → ∃ c, X.env.cells.lookup x = some c
  cab : ∀ x c, X.fn x = true → X.env.cells.lookup x = some c → X.s₀.heap.objs.size ≤ c
  hd : X.calm = true → X.A.handled = none
  frames : X.A.frames = some X.stack
  stk : X.stack = X.outer ∨ (X.stack = X.env :: X.outer ∧ X.env.frame = some X.env.locals)
  exf : ∀ b ∈ X.ex, b ≠ X.env.locals ∧ ∀ x c, X.env.cells.lookup x = some c → c ≠ b
  bs : ∀ b o, X.base.get? b = some o → X.s₀.heap.get? b = some o ∧ X.H₀ b = none
  bsz : X.base.objs.size ≤ X.s₀.heap.objs.size
  noex : ∀ b o, X.base.get? b = some o → b ∉ X.ex
  exfs : ∀ b ∈ X.ex, b ∉ X.fs
  funs : X.s₀.heap.FunFrames X.base X.outer
  frf : ∀ b ∈ X.fs, X.H₀ b = none

structure Inv (X : Cx) (pins : List (Addr × Obj)) (σ : List (Option V)) (H : Hp) (s : Shared) : Prop where
  ok : X.Ok
  os : s.os = X.s₀.os
  bare : AllBare s.gens
  base : Un X.fs X.ex X.H₀ H X.s₀.heap s.heap
  loc : ∃ m, s.heap.Ns X.env.locals m ∧ ∀ (i : Nat) (x : Str) (v : V), X.N[i]? = some x → σ[i]? = some (some v) → Vis X.env.scope x → ∃ u, RelV v u ∧ Look X.env s.heap m x u
  cell : ∀ x c, X.env.cells.lookup x = some c → ∃ v, s.heap.IsCell c v
  free : H X.env.locals = none
  freeC : ∀ x c, X.env.cells.lookup x = some c → H c = none
  pin : ∀ p ∈ X.pn ++ pins, s.heap.get? p.1 = some p.2 ∧ H p.1 = none ∧ p.1 ≠ X.env.locals ∧ p.1 ∉ X.fs ∧ ∀ v, p.2.data ≠ .cell v
  hok : HOk X.prog X.w H s.heap
  len : σ.length = X.N.length

section
variable {X : Cx} {pins : List (Addr × Obj)} {σ : List (Option V)} {H H' : Hp} {s : Shared} {h' : Heap}

theorem Cx.Ok.nofr (ok : X.Ok) {b : Addr} {o : Obj} (e : X.base.get? b = some o) : b ∉ X.fs := fun hb => by
  have := (ok.funs.mem hb).1
  rw [e] at this; cases this
theorem Inv.bs (I : Inv X pins σ H s) : ∀ b o, X.base.get? b = some o → s.heap.get? b = some o ∧ H b = none := fun b o e =>
  ⟨I.base.keep b o (I.ok.bs b o e).1 (I.ok.bs b o e).2 (I.ok.nofr e) (I.ok.noex b o e), I.base.free b o (I.ok.bs b o e).1 (I.ok.bs b o e).2 (I.ok.noex b o e)⟩
theorem Inv.bk (I : Inv X pins σ H s) : ∀ b o, X.base.get? b = some o → s.heap.get? b = some o := fun b o e => (I.bs b o e).1
theorem Inv.mod (I : Inv X pins σ H s) : Mod X.K X.mg X.base := I.ok.mod
theorem Inv.kIn (I : Inv X pins σ H s) : X.K.In s.heap := I.ok.mod.kin.keeps I.bk
theorem Inv.nolimit (I : Inv X pins σ H s) : s.heap.NoLimit := I.ok.mod.nolimit.keeps I.bk
/-- the frame over the base: for OpenK's rules (K.In X.base is I.mod.kin) -/
theorem Inv.fr (I : Inv X pins σ H s) : ∃ m, Fr X.base X.env.locals s.heap m :=
  let ⟨m, hn, _⟩ := I.loc
  ⟨m, hn, I.bk, Nat.le_trans I.ok.bsz I.ok.above⟩
theorem Inv.lt (I : Inv X pins σ H s) : X.env.locals < s.heap.objs.size := let ⟨_, hn, _⟩ := I.loc; hn.lt
theorem Inv.sz (I : Inv X pins σ H s) : X.s₀.heap.objs.size ≤ s.heap.objs.size := Nat.le_trans I.ok.above (Nat.le_of_lt I.lt)
theorem Inv.nofs (I : Inv X pins σ H s) {a : Addr} (h : s.heap.objs.size ≤ a) : a ∉ X.fs := fun hb => by
  obtain ⟨_, o, ho, _⟩ := I.ok.funs.mem hb
  exact absurd (Nat.lt_of_lt_of_le (Heap.lt_size ho) (Nat.le_trans I.sz h)) (Nat.lt_irrefl _)
theorem Inv.cne (I : Inv X pins σ H s) : ∀ x c, X.env.cells.lookup x = some c → c ≠ X.env.locals := fun x c e z => by
  obtain ⟨v, o, ho, hd⟩ := I.cell x c e
  obtain ⟨m, ⟨o', es, ep, ho', hd', _⟩, _⟩ := I.loc
  rw [z, ho'] at ho; cases ho; rw [hd'] at hd; cases hd
theorem Inv.funs (I : Inv X pins σ H s) : s.heap.FunFrames X.base X.outer := by
  have all : ∀ (l : List Env), (∀ b ∈ frs l, b ∈ X.fs) → X.s₀.heap.FunFrames X.base l → s.heap.FunFrames X.base l := by
    intro l
    induction l with
    | nil => intro _ _; trivial
    | cons env r ih =>
      intro hs hl
      obtain ⟨hk, ⟨L, o, hf, hn, ho, hd⟩, hr⟩ := hl
      have hL : L ∈ X.fs := hs L (by unfold frs; rw [List.filterMap_cons, hf]; exact List.mem_cons_self)
      obtain ⟨sl, e⟩ := I.base.slot L o ho (I.ok.frf L hL) hL fun z => I.ok.exfs L z hL
      exact ⟨hk, ⟨L, _, hf, hn, e, hd⟩, ih (fun b hb => hs b (by unfold frs; rw [List.filterMap_cons, hf]; exact List.mem_cons_of_mem _ hb)) hr⟩
  exact all X.outer (fun _ hb => hb) I.ok.funs

/-- the frames that run, for a call -/
theorem Inv.stack (I : Inv X pins σ H s) : s.heap.FunFrames X.base X.stack := by
  rcases I.ok.stk with e | ⟨e, hf⟩
  · rw [e]; exact I.funs
  · rw [e]
    obtain ⟨m, hn, _⟩ := I.loc
    refine .cons (by rw [I.ok.kind]; decide) hf hn ?_ I.funs
    exact Heap.get?_none_of_le (Nat.le_trans I.ok.bsz I.ok.above)
theorem Inv.stkSub (I : Inv X pins σ H s) : ∀ b ∈ frs X.stack, b ∈ X.env.locals :: X.fs := fun b hb => by
  rcases I.ok.stk with e | ⟨e, hf⟩
  · rw [e] at hb; exact List.mem_cons_of_mem _ hb
  · rw [e] at hb
    unfold frs at hb
    rw [List.filterMap_cons, hf] at hb
    exact hb
theorem Inv.stkFree (I : Inv X pins σ H s) : ∀ b ∈ frs X.stack, H b = none := fun b hb => by
  rcases List.mem_cons.mp (I.stkSub b hb) with e | hb
  · rw [e]; exact I.free
  · obtain ⟨_, o, ho, _⟩ := I.ok.funs.mem hb
    exact I.base.free b o ho (I.ok.frf b hb) fun z => I.ok.exfs b z hb

/-- THE STEP: the untracked objects but the frame and the records at ch are kept (the callers' frames up to slots), the frame's map is kept, the new abstract heap is held -/
theorem Inv.step {g' : Array GenState} {t' : Nat} {d' : Drawn} {ch : List Addr} (I : Inv X pins σ H s)
    (hch : ∀ b ∈ ch, (b ∈ X.ex ∨ X.s₀.heap.objs.size ≤ b) ∧ b ≠ X.env.locals ∧ (∀ x c, X.env.cells.lookup x = some c → c ≠ b) ∧ ∀ p ∈ X.pn ++ pins, p.1 ≠ b)
    (keep : ∀ b o, b ≠ X.env.locals → b ∉ X.fs → b ∉ ch → s.heap.get? b = some o → H b = none → h'.get? b = some o)
    (slot : ∀ b o, b ≠ X.env.locals → b ∈ X.fs → b ∉ ch → s.heap.get? b = some o → H b = none → ∃ sl, h'.get? b = some { o with slots := sl }) (free : ∀ b o, b ∉ ch → s.heap.get? b = some o → H b = none → H' b = none)
    (there : ∀ b o, b ∉ ch → s.heap.get? b = some o → ∃ o', h'.get? b = some o')
    (tups : ∀ b xs, H b = some (.tup xs) → H' b = some (.tup xs)) (frzs : ∀ b o u, H b = some (.frz o u) → H' b = some (.frz o u)) (tbls : ∀ b ps, H b = some (.tbl ps) → ∃ more, H' b = some (.tbl (ps ++ more)))
    (ns : ∀ m, s.heap.Ns X.env.locals m → h'.Ns X.env.locals m) (hok : HOk X.prog X.w H' h') (hg : AllBare g') :
    Inv X pins σ H' { s with heap := h', gens := g', drawn := d', toks := t' } := by
  have neL : ∀ b o, X.s₀.heap.get? b = some o → b ≠ X.env.locals := fun b o e => Nat.ne_of_lt (Nat.lt_of_lt_of_le (Heap.lt_size e) I.ok.above)
  have neC : ∀ b o, X.s₀.heap.get? b = some o → b ∉ X.ex → b ∉ ch := fun b o e hx hb => by
    rcases (hch b hb).1 with z | z
    · exact hx z
    · exact absurd (Nat.lt_of_lt_of_le (Heap.lt_size e) z) (Nat.lt_irrefl _)
  have cellK : ∀ x c, X.env.cells.lookup x = some c → ∀ v, s.heap.IsCell c v → h'.IsCell c v := fun x c e v ⟨o, ho, hd⟩ => by
    have nch : c ∉ ch := fun z => (hch c z).2.2.1 x c e rfl
    by_cases hc : c ∈ X.fs
    · obtain ⟨sl, q⟩ := slot c o (I.cne x c e) hc nch ho (I.freeC x c e)
      exact ⟨_, q, hd⟩
    · exact ⟨o, keep c o (I.cne x c e) hc nch ho (I.freeC x c e), hd⟩
  refine ⟨I.ok, I.os, hg, ⟨fun b o e n hb hx => ?_, fun b o e n hb hx => ?_, fun b o e n hx => ?_, fun b o e hx => ?_, fun b xs e => tups b xs (I.base.tups b xs e), fun b o xs e => frzs b o xs (I.base.frzs b o xs e), fun b ps e => ?_⟩, ?_, fun x c e => ?_, ?_, fun x c e => ?_, fun p hp => ?_, hok, I.len⟩
  · exact keep b o (neL b o e) hb (neC b o e hx) (I.base.keep b o e n hb hx) (I.base.free b o e n hx)
  · obtain ⟨sl, e1⟩ := I.base.slot b o e n hb hx
    obtain ⟨sl', e2⟩ := slot b _ (neL b o e) hb (neC b o e hx) e1 (I.base.free b o e n hx)
    exact ⟨sl', e2⟩
  · obtain ⟨o', e1⟩ := I.base.there b o e hx
    exact free b o' (neC b o e hx) e1 (I.base.free b o e n hx)
  · obtain ⟨o', e1⟩ := I.base.there b o e hx
    exact there b o' (neC b o e hx) e1
  · obtain ⟨m1, e1⟩ := I.base.tbls b ps e
    obtain ⟨m2, e2⟩ := tbls b _ e1
    exact ⟨m1 ++ m2, by rw [e2, Array.append_assoc]⟩
  · obtain ⟨m, hn, hl⟩ := I.loc
    refine ⟨m, ns m hn, fun i x v e1 e2 e3 => ?_⟩
    obtain ⟨u, r, l⟩ := hl i x v e1 e2 e3
    refine ⟨u, r, ?_⟩
    rcases l with l | ⟨k, c, e, z⟩
    · exact .inl l
    · exact .inr ⟨k, c, e, cellK x c e _ z⟩
  · obtain ⟨v, z⟩ := I.cell x c e
    exact ⟨v, cellK x c e v z⟩
  · obtain ⟨m, ⟨o, _, _, ho, _⟩, _⟩ := I.loc
    exact free _ o (fun z => (hch _ z).2.1 rfl) ho I.free
  · obtain ⟨v, o, ho, hd⟩ := I.cell x c e
    exact free c o (fun z => (hch c z).2.2.1 x c e rfl) ho (I.freeC x c e)
  · obtain ⟨e, n, ne, nf, d⟩ := I.pin p hp
    have nch : p.1 ∉ ch := fun z => (hch p.1 z).2.2.2 p hp rfl
    exact ⟨keep p.1 p.2 ne nf nch e n, free p.1 p.2 nch e n, ne, nf, d⟩
/-- .. where the frame's own object is kept too -/
theorem Inv.un {t' : Nat} (I : Inv X pins σ H s) (u : Un X.fs [] H H' s.heap h') (hok : HOk X.prog X.w H' h') : Inv X pins σ H' { s with heap := h', toks := t' } := by
  obtain ⟨m, ⟨o, es, ep, ho, r⟩, _⟩ := id I.loc
  obtain ⟨sl, hL⟩ := u.any ho I.free (by simp)
  exact I.step (g' := s.gens) (d' := s.drawn) (ch := []) (fun _ z => nomatch z) (fun b o _ hb _ e n => u.keep b o e n hb (by simp)) (fun b o _ hb _ e n => u.slot b o e n hb (by simp)) (fun b o _ e n => u.free b o e n (by simp)) (fun b o _ e => u.there b o e (by simp)) u.tups u.frzs u.tbls (fun m' hm => by
    obtain ⟨o', es', ep', ho', r'⟩ := hm
    rw [ho] at ho'; cases ho'
    exact ⟨_, es', ep', hL, r'⟩) hok I.bare
/-- behind a call (or a comprehension's block): the slots of this frame may have changed too, the records at ch may have turned -/
theorem Inv.call {g' : Array GenState} {t' : Nat} {d' : Drawn} {ch : List Addr} (I : Inv X pins σ H s) (u : Un (frs X.stack) ch H H' s.heap h') (hok : HOk X.prog X.w H' h') (hg : AllBare g')
    (hch : ∀ b ∈ ch, (b ∈ X.ex ∨ X.s₀.heap.objs.size ≤ b) ∧ b ≠ X.env.locals ∧ (∀ x c, X.env.cells.lookup x = some c → c ≠ b) ∧ ∀ p ∈ X.pn ++ pins, p.1 ≠ b) :
    Inv X pins σ H' { s with heap := h', gens := g', drawn := d', toks := t' } := by
  obtain ⟨m, ⟨o, es, ep, ho, r⟩, _⟩ := id I.loc
  obtain ⟨sl, hL⟩ := u.any ho I.free fun z => (hch _ z).2.1 rfl
  exact I.step (ch := ch) hch (fun b o hL hb hc e n => u.keep b o e n (fun z => (List.mem_cons.mp (I.stkSub b z)).elim hL hb) hc) (fun b o _ _ hc e n => u.any e n hc) (fun b o hc e n => u.free b o e n hc) (fun b o hc e => u.there b o e hc) u.tups u.frzs u.tbls (fun m' hm => by
    obtain ⟨o', es', ep', ho', r'⟩ := hm
    rw [ho] at ho'; cases ho'
    exact ⟨_, es', ep', hL, r'⟩) hok hg
/-- an untracked record of ours (an iterator) has turned -/
theorem Inv.turned {t' : Nat} {it : Addr} (I : Inv X pins σ H s) (k : ∀ b o, b ≠ it → s.heap.get? b = some o → h'.get? b = some o) (hn : H it = none) (hL : it ≠ X.env.locals)
    (h1 : it ∈ X.ex ∨ X.s₀.heap.objs.size ≤ it) (h2 : ∀ x c, X.env.cells.lookup x = some c → c ≠ it) (h3 : ∀ p ∈ X.pn ++ pins, p.1 ≠ it) : Inv X pins σ H { s with heap := h', toks := t' } := by
  have nit : ∀ b u, H b = some u → b ≠ it := fun b u e z => by rw [z, hn] at e; cases e
  refine I.step (g' := s.gens) (d' := s.drawn) (ch := [it]) (fun b hb => ?_) (fun b o _ _ hc e _ => k b o (fun z => hc (by simp [z])) e) (fun b o _ _ hc e _ => ⟨o.slots, k b o (fun z => hc (by simp [z])) e⟩) (fun _ _ _ _ n => n)
    (fun b o hc e => ⟨o, k b o (fun z => hc (by simp [z])) e⟩) (fun _ _ e => e) (fun _ _ _ e => e) (fun b ps e => ⟨#[], by rw [e]; simp⟩) (fun m hm => ?_) (fun b u e => ?_) I.bare
  · have e : b = it := by simpa using hb
    subst e
    exact ⟨h1, hL, h2, h3⟩
  · obtain ⟨o, es, ep, ho, r⟩ := hm
    exact ⟨o, es, ep, k _ o (Ne.symm hL) ho, r⟩
  · refine (I.hok b u e).stay (fun c v hc q => k c v ?_ q) (fun _ q => q) fun _ _ q => q
    rcases hc with z | z
    · rw [z]; exact nit b u e
    · exact nit c _ z
theorem Inv.tok (I : Inv X pins σ H s) (t : Nat) : Inv X pins σ H { s with toks := t } := I.un (h' := s.heap) (t' := t) Un.refl I.hok
/-- all objects kept -/
theorem Inv.kept {t' : Nat} (I : Inv X pins σ H s) (k : ∀ b u, s.heap.get? b = some u → h'.get? b = some u) : Inv X pins σ H { s with heap := h', toks := t' } := I.un (Un.kept k) (I.hok.kept k)
/-- a new object laid and tracked -/
theorem Inv.laid {a : Addr} {o : HO} {t' : Nat} (I : Inv X pins σ H s) (k : ∀ b u, s.heap.get? b = some u → h'.get? b = some u) (hp : s.heap.objs.size ≤ a) (new : ObjOk X.prog X.w (upd H a o) h' a o) :
    Inv X pins σ (upd H a o) { s with heap := h', toks := t' } := I.un (Un.laid k hp (I.hok.fresh hp)) (I.hok.laid k hp new)
/-- an object written -/
theorem Inv.write {x e : Addr} {o : HO} {t' : Nat} (I : Inv X pins σ H s) (mu : Mut (H x)) (he : e = x ∨ H e = some (.own x)) (k : ∀ b u, b ≠ e → s.heap.get? b = some u → h'.get? b = some u) (heo : ∃ u, h'.get? e = some u)
    (new : ObjOk X.prog X.w (upd H x o) h' x o) : Inv X pins σ (upd H x o) { s with heap := h', toks := t' } := I.un (Un.write mu he k heo) (I.hok.write mu he k heo new)
/-- forgetting slots, pins -/
theorem Inv.weak {σ' : List (Option V)} (I : Inv X pins σ H s) (hl : σ'.length = σ.length) (w : ∀ (i : Nat) v, σ'[i]? = some (some v) → σ[i]? = some (some v)) : Inv X pins σ' H s :=
  ⟨I.ok, I.os, I.bare, I.base, let ⟨m, hn, hl'⟩ := I.loc; ⟨m, hn, fun i x v e1 e2 e3 => hl' i x v e1 (w i v e2) e3⟩, I.cell, I.free, I.freeC, I.pin, I.hok, hl.trans I.len⟩
theorem Inv.pins_of {pins' : List (Addr × Obj)} (I : Inv X pins σ H s) (h : ∀ p ∈ pins', s.heap.get? p.1 = some p.2 ∧ H p.1 = none ∧ p.1 ≠ X.env.locals ∧ p.1 ∉ X.fs ∧ ∀ v, p.2.data ≠ .cell v) : Inv X pins' σ H s :=
  ⟨I.ok, I.os, I.bare, I.base, I.loc, I.cell, I.free, I.freeC, fun p hp => (List.mem_append.mp hp).elim (fun z => I.pin p (List.mem_append_left _ z)) (h p), I.hok, I.len⟩

theorem nodup_ix {N : List Str} (hN : N.Nodup) {i j : Nat} {x : Str} (a : N[i]? = some x) (b : N[j]? = some x) : i = j := by
  obtain ⟨h1, e1⟩ := List.getElem?_eq_some_iff.mp a
  obtain ⟨h2, e2⟩ := List.getElem?_eq_some_iff.mp b
  exact (List.getElem_inj hN).mp (e1.trans e2.symm)

/-- a name is stored; what changed -/
theorem store_ok2 {M : Model} {A : Around} {E : Value → Shared → Prop} {i : Nat} {x : Str} {v : V} {u : Value} {Q : Unit → Shared → Prop} (I : Inv X pins σ H s) (hN : X.N.Nodup) (hi : X.N[i]? = some x) (hx : Loc X.env.scope x) (r : RelV v u)
    (h : ∀ s', Inv X pins (σ.set i (some v)) H s' → (∃ a, Heap.SameBut a s.heap s'.heap ∧ (a = X.env.locals ∨ X.env.cells.lookup x = some a)) → Q () s') (hf : X.fn x = true ∨ X.env.scope.names.lookup x = some .local := by first | exact .inl rfl | exact .inr rfl | assumption) : wpAny M A (storeName X.env x u) Q E s := by
  obtain ⟨m, hn, hl⟩ := id I.loc
  have hcls : (X.env.scope.kind == .class || (X.env.scope.kind == .module && X.env.locals != X.env.globals)) = false := by rw [I.ok.kind]; rfl
  have hiσ : i < σ.length := by rw [I.len]; exact (List.getElem?_eq_some_iff.mp hi).1
  have cne := I.cne
  have tracked : ∀ {a : Addr} {h' : Heap}, (∃ o, s.heap.get? a = some o ∧ H a = none) → Heap.SameBut a s.heap h' → HOk X.prog X.w H h' := fun {a h'} ha hs b ob e => by
    obtain ⟨_, _, hfree⟩ := ha
    refine (I.hok b ob e).stay (fun c w' hc q => (hs.2 c ?_).trans q) (fun _ q => q) fun _ _ q => q
    rintro rfl
    rcases hc with rfl | hc
    · rw [hfree] at e; cases e
    · rw [hfree] at hc; cases hc
  rcases hx with hk | hk
  · refine wpAny_storeName_local hk hn (fun h' hn' hs => ?_) hcls
    obtain ⟨oL, _, _, hoL, _⟩ := id hn
    refine h _ ⟨I.ok, I.os, I.bare, ⟨fun b o e n hb hx => ?_, fun b o e n hb hx => ?_, I.base.free, fun b o e hx => ?_, I.base.tups, I.base.frzs, I.base.tbls⟩, ⟨_, hn', fun j y v' e1 e2 e3 => ?_⟩, fun y c e => ?_, I.free, I.freeC, fun p hp => ?_, tracked ⟨oL, hoL, I.free⟩ hs, by simpa using I.len⟩ ⟨_, hs, .inl rfl⟩
    · exact (hs.2 b (Nat.ne_of_lt (Nat.lt_of_lt_of_le (Heap.lt_size e) I.ok.above))).trans (I.base.keep b o e n hb hx)
    · obtain ⟨sl, e1⟩ := I.base.slot b o e n hb hx
      exact ⟨sl, (hs.2 b (Nat.ne_of_lt (Nat.lt_of_lt_of_le (Heap.lt_size e) I.ok.above))).trans e1⟩
    · obtain ⟨o', e1⟩ := I.base.there b o e hx
      exact ⟨o', (hs.2 b (Nat.ne_of_lt (Nat.lt_of_lt_of_le (Heap.lt_size e) I.ok.above))).trans e1⟩
    · by_cases hj : j = i
      · subst hj
        rw [hi] at e1; cases e1
        rw [List.getElem?_set_self hiσ] at e2
        cases e2
        exact ⟨u, r, .inl ⟨hk, by simp⟩⟩
      · rw [List.getElem?_set_ne (Ne.symm hj)] at e2
        obtain ⟨u', r', q⟩ := hl j y v' e1 e2 e3
        refine ⟨u', r', ?_⟩
        rcases q with ⟨k, e⟩ | ⟨k, c, e, z⟩
        · refine .inl ⟨k, ?_⟩
          have : y ≠ x := fun e => hj (nodup_ix hN e1 (e ▸ hi))
          simp [this, e]
        · exact .inr ⟨k, c, e, z.sameBut hs (cne y c e)⟩
    · obtain ⟨w', z⟩ := I.cell y c e
      exact ⟨w', z.sameBut hs (cne y c e)⟩
    · obtain ⟨e, n, ne, nf, d⟩ := I.pin p hp
      exact ⟨(hs.2 p.1 ne).trans e, n, ne, nf, d⟩
  · have hfn : X.fn x = true := by
      rcases hf with z | z
      · exact z
      · rw [z] at hk; cases hk
    obtain ⟨c, hc⟩ := I.ok.has x (.inl hk)
    obtain ⟨w', z⟩ := I.cell x c hc
    refine wpAny_storeName_cell I.ok.kind hk hc z (fun h' hc' hs => ?_)
    obtain ⟨oc, hoc, hocd⟩ := id z
    refine h { s with heap := h' } ⟨I.ok, I.os, I.bare, ⟨fun b o e n hb hx => ?_, fun b o e n hb hx => ?_, I.base.free, fun b o e hx => ?_, I.base.tups, I.base.frzs, I.base.tbls⟩, ⟨m, hn.sameBut hs (Ne.symm (cne x c hc)), fun j y v' e1 e2 e3 => ?_⟩, fun y c' e => ?_, I.free, I.freeC, fun p hp => ?_, tracked ⟨oc, hoc, I.freeC x c hc⟩ hs, by simpa using I.len⟩ ⟨c, hs, .inr hc⟩
    · exact (hs.2 b (Nat.ne_of_lt (Nat.lt_of_lt_of_le (Heap.lt_size e) (I.ok.cab x c hfn hc)))).trans (I.base.keep b o e n hb hx)
    · obtain ⟨sl, e1⟩ := I.base.slot b o e n hb hx
      exact ⟨sl, (hs.2 b (Nat.ne_of_lt (Nat.lt_of_lt_of_le (Heap.lt_size e) (I.ok.cab x c hfn hc)))).trans e1⟩
    · obtain ⟨o', e1⟩ := I.base.there b o e hx
      exact ⟨o', (hs.2 b (Nat.ne_of_lt (Nat.lt_of_lt_of_le (Heap.lt_size e) (I.ok.cab x c hfn hc)))).trans e1⟩
    · by_cases hj : j = i
      · subst hj
        rw [hi] at e1; cases e1
        rw [List.getElem?_set_self hiσ] at e2
        cases e2
        exact ⟨u, r, .inr ⟨.inl hk, c, hc, hc'⟩⟩
      · rw [List.getElem?_set_ne (Ne.symm hj)] at e2
        obtain ⟨u', r', q⟩ := hl j y v' e1 e2 e3
        refine ⟨u', r', ?_⟩
        rcases q with q | ⟨k, c', e, z'⟩
        · exact .inl q
        · refine .inr ⟨k, c', e, z'.sameBut hs ?_⟩
          rintro rfl
          exact hj (nodup_ix hN e1 (I.ok.inj _ _ _ e hc ▸ hi))
    · by_cases hcc : c' = c
      · subst hcc; exact ⟨_, hc'⟩
      · obtain ⟨w2, z2⟩ := I.cell y c' e
        exact ⟨w2, z2.sameBut hs hcc⟩
    · obtain ⟨e, n, ne, nf, d⟩ := I.pin p hp
      refine ⟨(hs.2 p.1 ?_).trans e, n, ne, nf, d⟩
      intro q
      rw [q, hoc] at e
      have q' : oc = p.2 := Option.some.inj e
      exact d w' (by rw [← q']; exact hocd)
theorem store_ok {M : Model} {A : Around} {E : Value → Shared → Prop} {i : Nat} {x : Str} {v : V} {u : Value} {Q : Unit → Shared → Prop} (I : Inv X pins σ H s) (hN : X.N.Nodup) (hi : X.N[i]? = some x) (hx : Loc X.env.scope x) (r : RelV v u)
    (h : ∀ s', Inv X pins (σ.set i (some v)) H s' → Q () s') (hf : X.fn x = true ∨ X.env.scope.names.lookup x = some .local := by first | exact .inl rfl | exact .inr rfl | assumption) : wpAny M A (storeName X.env x u) Q E s :=
  store_ok2 I hN hi hx r (fun s' I' _ => h s' I') hf
/-- behind a call or a block, the state as it is -/
theorem Inv.call' {s' : Shared} {ch : List Addr} (I : Inv X pins σ H s) (ho : s'.os = s.os) (u : Un (frs X.stack) ch H H' s.heap s'.heap) (hok : HOk X.prog X.w H' s'.heap) (hg : AllBare s'.gens)
    (hch : ∀ b ∈ ch, (b ∈ X.ex ∨ X.s₀.heap.objs.size ≤ b) ∧ b ≠ X.env.locals ∧ (∀ x c, X.env.cells.lookup x = some c → c ≠ b) ∧ ∀ p ∈ X.pn ++ pins, p.1 ≠ b) : Inv X pins σ H' s' := by
  obtain ⟨h', g', d', t', o'⟩ := s'
  have e : o' = s.os := ho
  subst e
  exact I.call (g' := g') (t' := t') (d' := d') u hok hg hch
end

/-! ### the judgements -/
/-- an exception: its class, its own dict's address (where it has one), the abstract heap behind it -/
abbrev XK := Value → Option Addr → Hp → Prop
abbrev St := List (Option V)
abbrev VK := V → Hp → Prop
/-- an expression's reading; a test's; an argument list's -/
abbrev TE := St → Hp → VK → Prop
abbrev TT := St → Hp → (Bool → Hp → Prop) → Prop
abbrev TA := St → Hp → (List V → Hp → Prop) → Prop
/-- what is wanted behind a statement -/
structure Ends where
  nx : St → Hp → Prop
  rt : VK
  bk : St → Hp → Prop := fun _ _ => False
  ct : St → Hp → Prop := fun _ _ => False
abbrev TS := Ends → St → Hp → Prop

def EP (X : Cx) (pins : List (Addr × Obj)) (σ : St) (Q : VK) (u : Value) (s' : Shared) : Prop := ∃ v H', Inv X pins σ H' s' ∧ RelV v u ∧ Q v H'
def TP (X : Cx) (pins : List (Addr × Obj)) (σ : St) (Q : Bool → Hp → Prop) (b : Bool) (s' : Shared) : Prop := ∃ H', Inv X pins σ H' s' ∧ Q b H'
def AP (X : Cx) (pins : List (Addr × Obj)) (σ : St) (Q : List V → Hp → Prop) (us : List Value) (s' : Shared) : Prop := ∃ vs H', Inv X pins σ H' s' ∧ Vals vs us ∧ Q vs H'
def SP (X : Cx) (pins : List (Addr × Obj)) (D : Ends) (f : Flow) (s' : Shared) : Prop :=
  match f with
  | .next => ∃ σ' H', Inv X pins σ' H' s' ∧ D.nx σ' H'
  | .brk => ∃ σ' H', Inv X pins σ' H' s' ∧ D.bk σ' H'
  | .cont => ∃ σ' H', Inv X pins σ' H' s' ∧ D.ct σ' H'
  | .ret u => ∃ v σ' H', Inv X pins σ' H' s' ∧ RelV v u ∧ D.rt v H'

def PE (X : Cx) (e : Expr) (t : TE) : Prop :=
  ∀ (pins : List (Addr × Obj)) (s : Shared) (σ : St) (H : Hp) (Q : VK), Inv X pins σ H s → t σ H Q → wpAny (model X.prog X.w) X.A (eval e X.env) (EP X pins σ Q) X.xe s
def PT (X : Cx) (e : Expr) (t : TT) : Prop :=
  ∀ (pins : List (Addr × Obj)) (s : Shared) (σ : St) (H : Hp) (Q : Bool → Hp → Prop), Inv X pins σ H s → t σ H Q → wpAny (model X.prog X.w) X.A (isTrue e X.env (eval e X.env)) (TP X pins σ Q) X.xe s
/-- a test whatever its 'whole' is (and, or) -/
def PW (X : Cx) (e : Expr) (t : TT) : Prop :=
  ∀ (whole : Sem Value) (pins : List (Addr × Obj)) (s : Shared) (σ : St) (H : Hp) (Q : Bool → Hp → Prop), Inv X pins σ H s → t σ H Q → wpAny (model X.prog X.w) X.A (isTrue e X.env whole) (TP X pins σ Q) X.xe s
theorem PW.pt {X : Cx} {e : Expr} {t : TT} (h : PW X e t) : PT X e t := h _
/-- an argument list (no star), from the left -/
def PA (X : Cx) (es : List Expr) (t : TA) : Prop :=
  ∀ (pos : Pos) (pins : List (Addr × Obj)) (s : Shared) (σ : St) (H : Hp) (Q : List V → Hp → Prop), Inv X pins σ H s → t σ H Q → wpAny (model X.prog X.w) X.A (spliced (backTo pos (starEach es X.env))) (AP X pins σ Q) X.xe s
def PS (X : Cx) (st : Stmt) (t : TS) : Prop :=
  ∀ (pins : List (Addr × Obj)) (s : Shared) (σ : St) (H : Hp) (D : Ends), Inv X pins σ H s → t D σ H → wpAny (model X.prog X.w) X.A (exec st X.env) (SP X pins D) X.xe s
def PSs (X : Cx) (st : List Stmt) (t : TS) : Prop :=
  ∀ (pins : List (Addr × Obj)) (s : Shared) (σ : St) (H : Hp) (D : Ends), Inv X pins σ H s → t D σ H → wpAny (model X.prog X.w) X.A (execs st X.env) (SP X pins D) X.xe s
/-- weaken the end -/
theorem thn {α : Type} {t : Sem α} {Q Q' : α → Shared → Prop} {M : Model} {A : Around} {E : Value → Shared → Prop} {s : Shared} (h : wpAny M A t Q E s) (hQ : ∀ a s, Q a s → Q' a s) : wpAny M A t Q' E s := wpAny_mono h hQ fun _ _ x => x
end L2

namespace L2
open PySem PySem.Spec PyProof.Rows
section
variable {X : Cx}

/-- two expressions in a row -/
theorem bin {a b : Expr} {ta tb : TE} (ha : PE X a ta) (hb : PE X b tb) {pins : List (Addr × Obj)} {s : Shared} {σ : St} {H : Hp} {R : V → V → Hp → Prop} (I : Inv X pins σ H s) (h : ta σ H fun x H1 => tb σ H1 fun y H2 => R x y H2)
    {α : Type} {Q : α → Shared → Prop} {f : Value → Value → Sem α}
    (hf : ∀ v u s2 x y H2, Inv X pins σ H2 s2 → RelV x v → RelV y u → R x y H2 → wpAny (model X.prog X.w) X.A (f v u) Q X.xe s2) :
    wpAny (model X.prog X.w) X.A (eval a X.env) (fun v s₁ => wpAny (model X.prog X.w) X.A (eval b X.env) (fun u s₂ => wpAny (model X.prog X.w) X.A (f v u) Q X.xe s₂) X.xe s₁) X.xe s := by
  refine thn (ha pins s σ H _ I h) fun v s1 ⟨x, H1, I1, r1, q1⟩ => ?_
  refine thn (hb pins s1 σ H1 _ I1 q1) fun u s2 ⟨y, H2, I2, r2, q2⟩ => ?_
  exact hf v u s2 x y H2 I2 r1 r2 q2

/-! ### names and constants -/
def tVar (i : Nat) : TE := fun σ H Q => ∃ v, σ[i]? = some (some v) ∧ Q v H
def tC (v : V) : TE := fun _ H Q => Q v H
theorem pe_var {i : Nat} {x : Str} {pos : Pos} (hN : X.N[i]? = some x) (hv : Vis X.env.scope x) (hd : (x == ("__debug__" : Str)) = false := by decide) (hcd : (x == ("__classdict__" : Str)) = false := by decide) : PE X (.Name x pos) (tVar i) := by
  intro pins s σ H Q I h
  obtain ⟨v, e, h⟩ := h
  obtain ⟨m, hn, hl⟩ := I.loc
  obtain ⟨u, r, l⟩ := hl i x v hN e hv
  have fin : EP X pins σ Q u s := ⟨v, H, I, r, h⟩
  rcases l with ⟨hk, hm⟩ | ⟨hk, c, hc, hcell⟩
  · exact wpAny_Name (wpAny_loadName_local I.ok.kind hk hn hm fin) hd
  · rcases hk with hk | hk
    · exact wpAny_Name (wpAny_loadName_cell I.ok.kind hk hc hcell fin) hd
    · exact wpAny_Name (wpAny_loadName_free I.ok.kind hk hc hcell fin hcd) hd
theorem pe_int {i j pos} : PE X (.Constant (.int i) j pos) (tC (.int i)) := fun _ _ _ H _ I h => wpAny_Constant_int ⟨.int i, H, I.tok _, ⟨_, rfl⟩, h⟩
theorem pe_bl {b j pos} : PE X (.Constant (.bool b) j pos) (tC (.bl b)) := fun _ _ _ H _ I h => Constant_bool ⟨.bl b, H, I, rfl, h⟩
theorem pe_non {j pos} : PE X (.Constant .none j pos) (tC .non) := fun _ _ _ H _ I h => Constant_none ⟨.non, H, I, rfl, h⟩
theorem pe_str {x j pos} : PE X (.Constant (.str x) j pos) (tC (.str x)) := fun _ _ _ H _ I h => Calls.Constant_str ⟨.str x, H, I.tok _, ⟨_, rfl⟩, h⟩

/-- a global name of the def -/
def Gl (X : Cx) (x : Str) : Prop := X.env.kindOf x = some .globalImplicit
theorem ld_glob {E : Value → Shared → Prop} {pins : List (Addr × Obj)} {s : Shared} {σ : St} {H : Hp} {x : Str} {u : Value} {pos : Pos} {Q : Value → Shared → Prop} (I : Inv X pins σ H s) (hg : Gl X x) (hm : X.mg x = some u) (h : Q u s)
    (hd : (x == ("__debug__" : Str)) = false := by decide) : wpAny (model X.prog X.w) X.A (eval (.Name x pos) X.env) Q E s :=
  Calls.Name_function_global I.ok.kind hg (Calls.loadGlobal_global (by rw [I.ok.glob]; exact I.mod.glob.keeps I.bk) hm h) hd
theorem ld_blt {E : Value → Shared → Prop} {pins : List (Addr × Obj)} {s : Shared} {σ : St} {H : Hp} {x : Str} {u : Value} {pos : Pos} {Q : Value → Shared → Prop} (I : Inv X pins σ H s) (hg : Gl X x) (hm : X.mg x = none) (hv : bootBuiltins x = some u) (h : Q u s)
    (hn : x ≠ "__name__" := by decide) (hd : (x == ("__debug__" : Str)) = false := by decide) : wpAny (model X.prog X.w) X.A (eval (.Name x pos) X.env) Q E s := by
  obtain ⟨mb, h1, h2⟩ := I.mod.blt
  exact Calls.Name_function_global I.ok.kind hg (Calls.loadGlobal_builtin (by rw [I.ok.glob]; exact I.mod.glob.keeps I.bk) hm (by rw [I.ok.blt]; exact h1.keeps I.bk) ((h2 x hn).trans hv) h) hd
/-- a module's constant, a class, a function, as a value -/
theorem pe_glob {x : Str} {v : V} {u : Value} {pos : Pos} (hg : Gl X x) (hm : X.mg x = some u) (r : RelV v u) (hd : (x == ("__debug__" : Str)) = false := by decide) : PE X (.Name x pos) (tC v) :=
  fun _ _ _ H _ I h => ld_glob I hg hm ⟨v, H, I, r, h⟩ hd
theorem pe_bltn {x : Str} {v : V} {u : Value} {pos : Pos} (hg : Gl X x) (hm : X.mg x = none) (hv : bootBuiltins x = some u) (r : RelV v u) (hn : x ≠ "__name__" := by decide) (hd : (x == ("__debug__" : Str)) = false := by decide) : PE X (.Name x pos) (tC v) :=
  fun _ _ _ H _ I h => ld_blt I hg hm hv ⟨v, H, I, r, h⟩ hn hd

/-! ### arithmetic -/
/-- two ints -/
def t2I (ta tb : TE) (k : Int → Int → Hp → Prop) : St → Hp → Prop := fun σ H => ta σ H fun x H1 => tb σ H1 fun y H2 => ∃ i j, x = .int i ∧ y = .int j ∧ k i j H2
def tAdd (ta tb : TE) : TE := fun σ H Q => t2I ta tb (fun i j H2 => Q (.int (i + j)) H2) σ H
def tSub (ta tb : TE) : TE := fun σ H Q => t2I ta tb (fun i j H2 => Q (.int (i - j)) H2) σ H
/-- the left factor below 2^64 -/
def tMul (ta tb : TE) : TE := fun σ H Q => t2I ta tb (fun i j H2 => (-(2 ^ 64) < i ∧ i < 2 ^ 64) ∧ Q (.int (i * j)) H2) σ H
variable {a b : Expr} {ta tb : TE} {pos : Pos}
theorem pe_add (ha : PE X a ta) (hb : PE X b tb) : PE X (.BinOp a .Add b pos) (tAdd ta tb) := by
  intro pins s σ H Q I h
  refine wpAny_BinOp (bin ha hb I h fun v u s2 x y H2 I2 rx ry q => ?_)
  obtain ⟨i, j, rfl, rfl, q⟩ := q
  obtain ⟨t, rfl⟩ := rx
  obtain ⟨t', rfl⟩ := ry
  exact add_int ⟨.int _, H2, I2.tok _, ⟨_, rfl⟩, q⟩
theorem pe_sub (ha : PE X a ta) (hb : PE X b tb) : PE X (.BinOp a .Sub b pos) (tSub ta tb) := by
  intro pins s σ H Q I h
  refine wpAny_BinOp (bin ha hb I h fun v u s2 x y H2 I2 rx ry q => ?_)
  obtain ⟨i, j, rfl, rfl, q⟩ := q
  obtain ⟨t, rfl⟩ := rx
  obtain ⟨t', rfl⟩ := ry
  exact sub_int ⟨.int _, H2, I2.tok _, ⟨_, rfl⟩, q⟩
theorem pe_mul (ha : PE X a ta) (hb : PE X b tb) : PE X (.BinOp a .Mult b pos) (tMul ta tb) := by
  intro pins s σ H Q I h
  refine wpAny_BinOp (bin ha hb I h fun v u s2 x y H2 I2 rx ry q => ?_)
  obtain ⟨i, j, rfl, rfl, ⟨q1, q2⟩, q⟩ := q
  obtain ⟨t, rfl⟩ := rx
  obtain ⟨t', rfl⟩ := ry
  exact mul_int ⟨.int _, H2, I2.tok _, ⟨_, rfl⟩, q⟩ (.of_left (intBits_le_64 q1 q2))

/-! ### comparisons -/
def PC (X : Cx) (op : CmpOp) (a b : Expr) (t : TE) : Prop :=
  ∀ (pins : List (Addr × Obj)) (s : Shared) (σ : St) (H : Hp) (Q : VK), Inv X pins σ H s → t σ H Q →
    wpAny (model X.prog X.w) X.A (eval a X.env) (fun v s₁ => wpAny (model X.prog X.w) X.A (eval b X.env) (fun u s₂ => wpAny (model X.prog X.w) X.A (compareOp op v u) (EP X pins σ Q) X.xe s₂) X.xe s₁) X.xe s
theorem nobehind (b : Expr) {op : CmpOp} (h : op ≠ .In) (h2 : op ≠ .NotIn) : behindInMarks op b = false := by
  have e1 : (op == CmpOp.In) = false := by cases op <;> first | rfl | exact absurd rfl h
  have e2 : (op == CmpOp.NotIn) = false := by cases op <;> first | rfl | exact absurd rfl h2
  cases b <;> simp [behindInMarks, e1, e2]
def tCmp (p : Int → Int → Bool) (ta tb : TE) : TE := fun σ H Q => t2I ta tb (fun i j H2 => Q (.bl (p i j)) H2) σ H
abbrev tLt : TE → TE → TE := tCmp fun i j => decide (i < j)
abbrev tLe : TE → TE → TE := tCmp fun i j => decide (i ≤ j)
abbrev tGt : TE → TE → TE := tCmp fun i j => decide (j < i)
abbrev tGe : TE → TE → TE := tCmp fun i j => decide (j ≤ i)
abbrev tEqI : TE → TE → TE := tCmp fun i j => decide (i = j)
abbrev tNeI : TE → TE → TE := tCmp fun i j => !decide (i = j)
/-- a comparison of two ints, by its rule -/
theorem pc_int {op : CmpOp} {p : Int → Int → Bool} (ha : PE X a ta) (hb : PE X b tb)
    (rule : ∀ (i j : Int) (t u : Tok) (Q : Value → Shared → Prop) (s : Shared), Q (.bool (p i j)) s → wpAny (model X.prog X.w) X.A (compareOp op (.int i t) (.int j u)) Q X.xe s) : PC X op a b (tCmp p ta tb) := by
  intro pins s σ H Q I h
  refine bin ha hb I h fun v u s2 x y H2 I2 rx ry q => ?_
  obtain ⟨i, j, rfl, rfl, q⟩ := q
  obtain ⟨t, rfl⟩ := rx
  obtain ⟨t', rfl⟩ := ry
  exact rule i j t t' _ s2 ⟨.bl _, H2, I2, rfl, q⟩
theorem pc_lt (ha : PE X a ta) (hb : PE X b tb) : PC X .Lt a b (tLt ta tb) := pc_int ha hb fun _ _ _ _ _ _ h => lt_int h
theorem pc_le (ha : PE X a ta) (hb : PE X b tb) : PC X .LtE a b (tLe ta tb) := pc_int ha hb fun _ _ _ _ _ _ h => le_int h
theorem pc_gt (ha : PE X a ta) (hb : PE X b tb) : PC X .Gt a b (tGt ta tb) := pc_int ha hb fun _ _ _ _ _ _ h => gt_int h
theorem pc_ge (ha : PE X a ta) (hb : PE X b tb) : PC X .GtE a b (tGe ta tb) := pc_int ha hb fun _ _ _ _ _ _ h => ge_int h
theorem pc_eqI (ha : PE X a ta) (hb : PE X b tb) : PC X .Eq a b (tEqI ta tb) := pc_int ha hb fun _ _ _ _ _ _ h => eq_int (by rw [Bool.beq_eq_decide_eq]; exact h)
theorem pc_neI (ha : PE X a ta) (hb : PE X b tb) : PC X .NotEq a b (tNeI ta tb) := pc_int ha hb fun _ _ _ _ _ _ h => ne_int (by rw [bne, Bool.beq_eq_decide_eq]; exact h)
/-- is None -/
def tIsN (ta : TE) : TE := fun σ H Q => ta σ H fun x H1 => Q (.bl (decide (x = .non))) H1
def tNotN (ta : TE) : TE := fun σ H Q => ta σ H fun x H1 => Q (.bl (!decide (x = .non))) H1
theorem RelV.none_iff {x : V} {v : Value} (r : RelV x v) : (v == Value.none) = decide (x = .non) := by
  cases x with
  | non => cases r; rfl
  | bl _ => cases r; rfl
  | int _ => obtain ⟨t, rfl⟩ := r; rfl
  | str _ => obtain ⟨t, rfl⟩ := r; rfl
  | byt _ => obtain ⟨t, rfl⟩ := r; rfl
  | flt _ => obtain ⟨t, rfl⟩ := r; rfl
  | ref _ => cases r; rfl
  | ty _ => cases r; rfl
theorem pc_isN {j pos'} (ha : PE X a ta) : PC X .Is a (.Constant .none j pos') (tIsN ta) := by
  intro pins s σ H Q I h
  refine thn (ha pins s σ H _ I h) fun v s1 ⟨x, H1, I1, r1, q1⟩ => ?_
  exact Constant_none (is_none_gen ⟨.bl _, H1, I1, by rw [r1.none_iff]; rfl, q1⟩)
theorem pc_notN {j pos'} (ha : PE X a ta) : PC X .IsNot a (.Constant .none j pos') (tNotN ta) := by
  intro pins s σ H Q I h
  refine thn (ha pins s σ H _ I h) fun v s1 ⟨x, H1, I1, r1, q1⟩ => ?_
  exact Constant_none (isnot_none_gen ⟨.bl _, H1, I1, by rw [r1.none_iff]; rfl, q1⟩)
/-- a comparison as a value, as a test -/
def tB (t : TE) : TT := fun σ H Q => t σ H fun x H1 => ∃ c, x = .bl c ∧ Q c H1
theorem pe_cmp {op : CmpOp} {t : TE} (h : PC X op a b t) (h1 : behindInMarks op b = false := by first | exact nobehind _ (by decide) (by decide) | rfl) : PE X (.Compare a [op] [b] pos) t := fun pins s σ H Q I hw => wpAny_Compare1 (h pins s σ H Q I hw) h1
theorem pt_cmp {op : CmpOp} {t : TE} (h : PC X op a b t) (h1 : behindInMarks op b = false := by first | exact nobehind _ (by decide) (by decide) | rfl) : PT X (.Compare a [op] [b] pos) (tB t) := by
  intro pins s σ H Q I hw
  refine wpAny_isTrue_Compare1 (thn (h pins s σ H _ I hw) fun v s1 h1 => thn h1 fun u s2 h2 => thn h2 fun c s3 ⟨x, H1, I1, r1, q1⟩ => ?_) h1
  obtain ⟨d, rfl, q⟩ := q1
  cases r1
  exact wpAny_truthy_bool ⟨H1, I1, q⟩
/-- an expression whose value is a bool, as a test -/
theorem pt_val {e : Expr} {t : TE} (h : PE X e t) (he : ∀ whole, isTrue e X.env whole = (do let v ← whole; standAt e.pos; holding [v] (truthy v)) := by intro _; rfl) : PT X e (tB t) := by
  intro pins s σ H Q I hw
  refine isTrue_plain (thn (h pins s σ H _ I hw) fun v s1 ⟨x, H1, I1, r1, q1⟩ => ?_) (he _)
  obtain ⟨d, rfl, q⟩ := q1
  cases r1
  exact wpAny_truthy_bool ⟨H1, I1, q⟩

/-! ### and, or, not -/
variable {tA tB' : TT} {rest : List Expr}
def tAnd (t u : TT) : TT := fun σ H Q => t σ H fun c H1 => if c = true then u σ H1 Q else Q false H1
def tOr (t u : TT) : TT := fun σ H Q => t σ H fun c H1 => if c = true then Q true H1 else u σ H1 Q
def tNot (t : TT) : TT := fun σ H Q => t σ H fun c H1 => Q (!c) H1
theorem pw_and1 (ha : PT X a tA) : PW X (.BoolOp .And [a] pos) tA := by
  intro wh pins s σ H Q I h
  refine isTrue_and (thn (ha pins s σ H Q I h) fun c s1 e => ?_)
  cases c with
  | true => exact isTrue_and_nil e
  | false => exact e
theorem pw_or1 (ha : PT X a tA) : PW X (.BoolOp .Or [a] pos) tA := by
  intro wh pins s σ H Q I h
  refine isTrue_or (thn (ha pins s σ H Q I h) fun c s1 e => ?_)
  cases c with
  | false => exact isTrue_or_nil e
  | true => exact e
theorem pw_and (ha : PT X a tA) (hb : PW X (.BoolOp .And (b :: rest) pos) tB') : PW X (.BoolOp .And (a :: b :: rest) pos) (tAnd tA tB') := by
  intro wh pins s σ H Q I h
  refine isTrue_and (thn (ha pins s σ H _ I h) fun c s1 ⟨H1, I1, q1⟩ => ?_)
  cases c with
  | true => exact hb wh pins s1 σ H1 Q I1 q1
  | false => exact ⟨H1, I1, q1⟩
theorem pw_or (ha : PT X a tA) (hb : PW X (.BoolOp .Or (b :: rest) pos) tB') : PW X (.BoolOp .Or (a :: b :: rest) pos) (tOr tA tB') := by
  intro wh pins s σ H Q I h
  refine isTrue_or (thn (ha pins s σ H _ I h) fun c s1 ⟨H1, I1, q1⟩ => ?_)
  cases c with
  | true => exact ⟨H1, I1, q1⟩
  | false => exact hb wh pins s1 σ H1 Q I1 q1
theorem pt_not (ha : PT X a tA) : PT X (.UnaryOp .Not a pos) (tNot tA) := by
  intro pins s σ H Q I h
  exact isTrue_not (ha pins s σ H (fun c H1 => Q (!c) H1) I h)
/-- .. as values (bools) -/
def tAndV (ta tb : TE) : TE := fun σ H Q => ta σ H fun x H1 => ∃ c, x = .bl c ∧ if c = true then tb σ H1 Q else Q (.bl false) H1
def tOrV (ta tb : TE) : TE := fun σ H Q => ta σ H fun x H1 => ∃ c, x = .bl c ∧ if c = true then Q (.bl true) H1 else tb σ H1 Q
def tNotV (ta : TE) : TE := fun σ H Q => ta σ H fun x H1 => ∃ c, x = .bl c ∧ Q (.bl (!c)) H1
theorem pe_one {op} {t : TE} (h : PE X a t) : PE X (.BoolOp op [a] pos) t := fun pins s σ H Q I hw => BoolOp_one (h pins s σ H Q I hw)
theorem pe_and (ha : PE X a ta) (hb : PE X (.BoolOp .And (b :: rest) pos) tb) : PE X (.BoolOp .And (a :: b :: rest) pos) (tAndV ta tb) := by
  intro pins s σ H Q I h
  refine BoolOp_and (thn (ha pins s σ H _ I h) fun v s1 ⟨x, H1, I1, r1, q1⟩ => ?_)
  obtain ⟨c, rfl, q1⟩ := q1
  cases r1
  refine wpAny_truthy_bool ?_
  cases c with
  | true => exact hb pins s1 σ H1 Q I1 q1
  | false => exact ⟨.bl false, H1, I1, rfl, q1⟩
theorem pe_or (ha : PE X a ta) (hb : PE X (.BoolOp .Or (b :: rest) pos) tb) : PE X (.BoolOp .Or (a :: b :: rest) pos) (tOrV ta tb) := by
  intro pins s σ H Q I h
  refine BoolOp_or (thn (ha pins s σ H _ I h) fun v s1 ⟨x, H1, I1, r1, q1⟩ => ?_)
  obtain ⟨c, rfl, q1⟩ := q1
  cases r1
  refine wpAny_truthy_bool ?_
  cases c with
  | false => exact hb pins s1 σ H1 Q I1 q1
  | true => exact ⟨.bl true, H1, I1, rfl, q1⟩
theorem pe_not (ha : PE X a ta) : PE X (.UnaryOp .Not a pos) (tNotV ta) := by
  intro pins s σ H Q I h
  refine UnaryOp_ (thn (ha pins s σ H _ I h) fun v s1 ⟨x, H1, I1, r1, q1⟩ => ?_)
  obtain ⟨c, rfl, q1⟩ := q1
  cases r1
  exact not_of (wpAny_truthy_bool ⟨.bl (!c), H1, I1, rfl, q1⟩)
/-- a if t else b -/
def tIf (t : TT) (ta tb : TE) : TE := fun σ H Q => t σ H fun c H1 => if c = true then ta σ H1 Q else tb σ H1 Q
theorem pe_ifExp {c : Expr} (hc : PT X c tA) (ha : PE X a ta) (hb : PE X b tb) : PE X (.IfExp c a b pos) (tIf tA ta tb) := by
  intro pins s σ H Q I h
  refine wpAny_IfExp (thn (hc pins s σ H _ I h) fun d s1 ⟨H1, I1, q1⟩ => ?_)
  cases d with
  | true => exact ha pins s1 σ H1 Q I1 q1
  | false => exact hb pins s1 σ H1 Q I1 q1
end
end L2

namespace L2
open PySem PySem.Spec PyProof.Rows

/-! ### a list, a tuple that is read: tracked, frozen, or an object of the module -/
def SqL (K : PySem.W.Frag) (H : Hp) (a : Addr) (xs : List V) : Prop :=
  Rd H a (.lst xs) ∨
    ∃ (o : Obj) (its : Array Value) (n : Nat), K.lookup a = some o ∧ o.cls = .type "list" ∧ o.dict = none ∧ o.data = .seq its n ∧ its.size ≤ sizeLine ∧ Vals xs its.toList
def SqT (K : PySem.W.Frag) (H : Hp) (a : Addr) (xs : List V) : Prop :=
  Rd H a (.tup xs) ∨
    ∃ (o : Obj) (its : Array Value) (n : Nat), K.lookup a = some o ∧ o.cls = .type "tuple" ∧ o.data = .seq its n ∧ its.size ≤ sizeLine ∧ Vals xs its.toList
def absV : Value → Option V
  | .none => some .non
  | .bool b => some (.bl b)
  | .int i _ => some (.int i)
  | .str x _ => some (.str x)
  | .bytes b _ => some (.byt b)
  | .float b _ => some (.flt b)
  | .ref a => some (.ref a)
  | .type n => some (.ty n)
  | _ => none
theorem RelV.abs {x : V} {u : Value} (r : RelV x u) : absV u = some x := by
  cases x with
  | non => cases r; rfl
  | bl _ => cases r; rfl
  | int _ => obtain ⟨t, rfl⟩ := r; rfl
  | str _ => obtain ⟨t, rfl⟩ := r; rfl
  | byt _ => obtain ⟨t, rfl⟩ := r; rfl
  | flt _ => obtain ⟨t, rfl⟩ := r; rfl
  | ref _ => cases r; rfl
  | ty _ => cases r; rfl
theorem RelV.inj {x y : V} {u : Value} (r : RelV x u) (q : RelV y u) : x = y := Option.some.inj (r.abs.symm.trans q.abs)
theorem Vals.inj : ∀ {xs ys : List V} {us : List Value}, Vals xs us → Vals ys us → xs = ys
  | _, _, _, .nil, .nil => rfl
  | _, _, _, .cons r t, .cons r' t' => by rw [r.inj r', Vals.inj t t']
section
variable {X : Cx} {pins : List (Addr × Obj)} {σ : St} {H : Hp} {s : Shared} {a : Addr} {xs ys : List V}
theorem SqL.of {K : PySem.W.Frag} (h : H a = some (.lst xs)) : SqL K H a xs := .inl (.inl h)
theorem SqT.of {K : PySem.W.Frag} (h : H a = some (.tup xs)) : SqT K H a xs := .inl (.inl h)
theorem Inv.list (I : Inv X pins σ H s) (h : SqL X.K H a xs) : ∃ its : List Value, Vals xs its ∧ PlainL s.heap a its.toArray ∧ xs.length ≤ sizeLine := by
  rcases h with h | ⟨o, its, n, hk, hc, hd, hs, hz, r⟩
  · obtain ⟨z, its, n, r, e⟩ := h.ok I.hok
    exact ⟨its, r, ⟨_, n, e, rfl, rfl, rfl⟩, z⟩
  · refine ⟨its.toList, r, ⟨o, n, I.kIn a o hk, hc, hd, by simpa using hs⟩, ?_⟩
    have e := r.length
    simp only [Array.length_toList] at e
    omega
theorem Inv.tuple (I : Inv X pins σ H s) (h : SqT X.K H a xs) : ∃ its : List Value, Vals xs its ∧ IsTup s.heap a its.toArray ∧ xs.length ≤ sizeLine := by
  rcases h with h | ⟨o, its, n, hk, hc, hs, hz, r⟩
  · obtain ⟨z, its, r, p⟩ := h.ok I.hok
    exact ⟨its, r, p, z⟩
  · refine ⟨its.toList, r, ⟨o, I.kIn a o hk, hc, n, by simpa using hs⟩, ?_⟩
    have e := r.length
    simp only [Array.length_toList] at e
    omega
theorem Inv.list_inj (I : Inv X pins σ H s) (h : SqL X.K H a xs) (h' : SqL X.K H a ys) : xs = ys := by
  obtain ⟨its, r, ⟨o, n, e, _, _, d⟩, _⟩ := I.list h
  obtain ⟨its', r', ⟨o', n', e', _, _, d'⟩, _⟩ := I.list h'
  rw [e] at e'; cases e'
  rw [d] at d'
  injection d' with d1 _
  have : its = its' := by simpa using congrArg Array.toList d1
  subst this
  exact r.inj r'
theorem Inv.tuple_inj (I : Inv X pins σ H s) (h : SqT X.K H a xs) (h' : SqT X.K H a ys) : xs = ys := by
  obtain ⟨its, r, ⟨o, e, _, n, d⟩, _⟩ := I.tuple h
  obtain ⟨its', r', ⟨o', e', _, n', d'⟩, _⟩ := I.tuple h'
  rw [e] at e'; cases e'
  rw [d] at d'
  injection d' with d1 _
  have : its = its' := by simpa using congrArg Array.toList d1
  subst this
  exact r.inj r'
end

/-! ### another wish about exceptions -/
abbrev Cx.wish (X : Cx) (E : Value → Shared → Prop) : Cx := { X with xe := E }
/-- no exception leaves -/
abbrev Cx.nox (X : Cx) : Cx := X.wish fun _ _ => False
theorem Cx.Ok.wish {X : Cx} (ok : X.Ok) (E : Value → Shared → Prop) : (X.wish E).Ok :=
  ⟨ok.mod, ok.kind, ok.glob, ok.blt, ok.above, ok.inj, ok.has, ok.cab, ok.hd, ok.frames, ok.stk, ok.exf, ok.bs, ok.bsz, ok.noex, ok.exfs, ok.funs, ok.frf⟩
theorem Cx.Ok.unwish {X : Cx} {E : Value → Shared → Prop} (ok : (X.wish E).Ok) : X.Ok :=
  ⟨ok.mod, ok.kind, ok.glob, ok.blt, ok.above, ok.inj, ok.has, ok.cab, ok.hd, ok.frames, ok.stk, ok.exf, ok.bs, ok.bsz, ok.noex, ok.exfs, ok.funs, ok.frf⟩
section
variable {X : Cx} {pins : List (Addr × Obj)} {σ : St} {H : Hp} {s : Shared} {E : Value → Shared → Prop}
theorem Inv.wish (I : Inv X pins σ H s) (E : Value → Shared → Prop) : Inv (X.wish E) pins σ H s := ⟨I.ok.wish E, I.os, I.bare, I.base, I.loc, I.cell, I.free, I.freeC, I.pin, I.hok, I.len⟩
theorem Inv.unwish (I : Inv (X.wish E) pins σ H s) : Inv X pins σ H s := ⟨I.ok.unwish, I.os, I.bare, I.base, I.loc, I.cell, I.free, I.freeC, I.pin, I.hok, I.len⟩
theorem SP.unwish {D : Ends} {f : Flow} {s' : Shared} (h : SP (X.wish E) pins D f s') : SP X pins D f s' := by
  cases f with
  | next => obtain ⟨σ', H', I, q⟩ := h; exact ⟨σ', H', I.unwish, q⟩
  | brk => obtain ⟨σ', H', I, q⟩ := h; exact ⟨σ', H', I.unwish, q⟩
  | cont => obtain ⟨σ', H', I, q⟩ := h; exact ⟨σ', H', I.unwish, q⟩
  | ret u => obtain ⟨v, σ', H', I, r, q⟩ := h; exact ⟨v, σ', H', I.unwish, r, q⟩
theorem PE.nox {e : Expr} {t : TE} (h : PE X.nox e t) : PE X e t := fun pins s σ H Q I hw =>
  wpAny_mono (h pins s σ H Q (I.wish _) hw) (fun _ _ ⟨v, H', I', r, q⟩ => ⟨v, H', I'.unwish, r, q⟩) fun _ _ z => False.elim z
theorem PT.nox {e : Expr} {t : TT} (h : PT X.nox e t) : PT X e t := fun pins s σ H Q I hw =>
  wpAny_mono (h pins s σ H Q (I.wish _) hw) (fun _ _ ⟨H', I', q⟩ => ⟨H', I'.unwish, q⟩) fun _ _ z => False.elim z
theorem PSs.nox {st : List Stmt} {t : TS} (h : PSs X.nox st t) : PSs X st t := fun pins s σ H D I hw =>
  wpAny_mono (h pins s σ H D (I.wish _) hw) (fun _ _ q => q.unwish) fun _ _ z => False.elim z
end

/-! ### blocks and small statements -/
section
variable {X : Cx} {st : Stmt} {rest : List Stmt} {t u : TS} {e : Expr} {te : TE} {pos : Pos}
def tNext : TS := fun D σ H => D.nx σ H
def tSeq (t u : TS) : TS := fun D σ H => t { D with nx := u D } σ H
theorem pss_nil : PSs X [] tNext := fun _ _ σ H _ I h => wpAny_execs_nil ⟨σ, H, I, h⟩
theorem pss_cons (h1 : PS X st t) (h2 : PSs X rest u) : PSs X (st :: rest) (tSeq t u) := by
  intro pins s σ H D I h
  refine wpAny_execs_cons (thn (h1 pins s σ H { D with nx := u D } I h) fun f s1 q => ?_)
  cases f with
  | next =>
    obtain ⟨σ', H', I', q⟩ := q
    exact h2 pins s1 σ' H' D I' q
  | ret v => exact q
  | brk => exact q
  | cont => exact q
theorem pss_one (h1 : PS X st t) : PSs X [st] t := by
  intro pins s σ H D I h
  refine wpAny_execs_cons (thn (h1 pins s σ H D I h) fun f s1 q => ?_)
  cases f with
  | next => exact wpAny_execs_nil q
  | ret v => exact q
  | brk => exact q
  | cont => exact q
def tBreak : TS := fun D σ H => D.bk σ H
def tCont : TS := fun D σ H => D.ct σ H
theorem ps_pass : PS X (.Pass pos) tNext := fun _ _ σ H _ I h => wpAny_Pass ⟨σ, H, I, h⟩
theorem ps_break : PS X (.Break pos) tBreak := fun _ _ σ H _ I h => wpAny_Break ⟨σ, H, I, h⟩
theorem ps_continue : PS X (.Continue pos) tCont := fun _ _ σ H _ I h => wpAny_Continue ⟨σ, H, I, h⟩
/-- in a def's body nothing is shown -/
theorem Inv.quiet {pins : List (Addr × Obj)} {σ : St} {H : Hp} {s : Shared} (I : Inv X pins σ H s) : interactive X.env = false := by simp [interactive, I.ok.kind]
/-- a docstring -/
theorem ps_doc {x j pos pos'} : PS X (.Expr (.Constant (.str x) j pos) pos') tNext := fun _ s σ H _ I h => wpAny_Expr (Calls.Constant_str (show SP X _ _ .next { s with toks := s.toks + 1 } from ⟨σ, H, I.tok _, h⟩)) I.quiet
/-- an expression whose value is dropped -/
def tDrop (te : TE) : TS := fun D σ H => te σ H fun _ H1 => D.nx σ H1
theorem ps_expr (he : PE X e te) (hs : swapsWith e none pos.line X.env = pure false := by rfl) : PS X (.Expr e pos) (tDrop te) := by
  intro pins s σ H D I h
  exact wpAny_Expr_any (thn (he pins s σ H _ I h) fun v s1 ⟨x, H1, I1, r1, q1⟩ => ⟨σ, H1, I1, q1⟩) I.quiet hs
def tRet (te : TE) : TS := fun D σ H => te σ H D.rt
theorem ps_ret (he : PE X e te) : PS X (.Return (some e) pos) (tRet te) := by
  intro pins s σ H D I h
  exact wpAny_Return_some (thn (he pins s σ H _ I h) fun v s1 ⟨x, H1, I1, r1, q1⟩ => ⟨x, σ, H1, I1, r1, q1⟩)
def tRetN : TS := fun D _ H => D.rt .non H
theorem ps_retN : PS X (.Return none pos) tRetN := fun _ _ σ H _ I h => wpAny_Return_none ⟨.non, σ, H, I, rfl, h⟩
def tIfS (c : TT) (t u : TS) : TS := fun D σ H => c σ H fun b H1 => if b = true then t D σ H1 else u D σ H1
theorem ps_if {c : Expr} {a b : List Stmt} {tc : TT} (hc : PT X c tc) (ha : PSs X a t) (hb : PSs X b u) : PS X (.If c a b pos) (tIfS tc t u) := by
  intro pins s σ H D I h
  refine wpAny_If (thn (hc pins s σ H _ I h) fun d s1 ⟨H1, I1, q1⟩ => ?_)
  cases d with
  | true => exact ha pins s1 σ H1 D I1 q1
  | false => exact hb pins s1 σ H1 D I1 q1
/-- code that the proof never comes to -/
def tNever : TS := fun _ _ _ => False
theorem ps_never : PS X st tNever := fun _ _ _ _ _ _ h => h.elim
theorem pss_never {sts : List Stmt} : PSs X sts tNever := fun _ _ _ _ _ _ h => h.elim
end

/-! ### targets -/
abbrev TG := V → St → Hp → (St → Hp → Prop) → Prop
abbrev TGs := List V → St → Hp → (St → Hp → Prop) → Prop
def PG (X : Cx) (target : Expr) (t : TG) : Prop :=
  ∀ (pins : List (Addr × Obj)) (s : Shared) (σ : St) (H : Hp) (v : V) (u : Value) (Q : St → Hp → Prop), Inv X pins σ H s → RelV v u → t v σ H Q →
    wpAny (model X.prog X.w) X.A (assign target X.env u) (fun _ s' => ∃ σ' H', Inv X pins σ' H' s' ∧ Q σ' H') X.xe s
/-- several targets, one after another -/
def PGs (X : Cx) (ts : List Expr) (t : TGs) : Prop :=
  ∀ (pins : List (Addr × Obj)) (s : Shared) (σ : St) (H : Hp) (vs : List V) (us : List Value) (Q : St → Hp → Prop), Inv X pins σ H s → Vals vs us → t vs σ H Q →
    wpAny (model X.prog X.w) X.A (assignInOrder ((assignEach ts X.env).map (·.2)) us) (fun _ s' => ∃ σ' H', Inv X pins σ' H' s' ∧ Q σ' H') X.xe s
/-- o[i] = v, by values -/
abbrev TSet := V → V → V → Hp → (Hp → Prop) → Prop
def PSet (X : Cx) (t : TSet) : Prop :=
  ∀ (pins : List (Addr × Obj)) (s : Shared) (σ : St) (H : Hp) (o i v : V) (ov iv u : Value) (Q : Hp → Prop), Inv X pins σ H s → RelV o ov → RelV i iv → RelV v u → t o i v H Q →
    wpAny (model X.prog X.w) X.A (setItem ov iv u) (fun _ s' => ∃ H', Inv X pins σ H' s' ∧ Q H') X.xe s
/-- a op= b, by values -/
abbrev TIp := V → V → Hp → VK → Prop
def PIp (X : Cx) (op : Operator) (t : TIp) : Prop :=
  ∀ (pins : List (Addr × Obj)) (s : Shared) (σ : St) (H : Hp) (x y : V) (v u : Value) (Q : VK), Inv X pins σ H s → RelV x v → RelV y u → t x y H Q →
    wpAny (model X.prog X.w) X.A (inplaceOp op v u) (EP X pins σ Q) X.xe s
section
variable {X : Cx} {pos : Pos}
def gName (i : Nat) : TG := fun v σ H Q => Q (σ.set i (some v)) H
theorem pg_name {i : Nat} {x : Str} (hN : X.N.Nodup) (hi : X.N[i]? = some x) (hx : Loc X.env.scope x) (hf : X.fn x = true ∨ X.env.scope.names.lookup x = some .local := by first | exact .inl rfl | exact .inr rfl | assumption) : PG X (.Name x pos) (gName i) := by
  intro pins s σ H v u Q I r h
  exact wpAny_assign_Name (store_ok I hN hi hx r (fun s' I' => ⟨_, H, I', h⟩) hf)
def gNil : TGs := fun vs σ H Q => vs = [] ∧ Q σ H
def gCons (t : TG) (u : TGs) : TGs := fun vs σ H Q => ∃ v r, vs = v :: r ∧ t v σ H fun σ' H' => u r σ' H' Q
theorem pgs_nil : PGs X [] gNil := by
  intro pins s σ H vs us Q I r h
  obtain ⟨e, h⟩ := h
  subst e
  cases r
  exact assignInOrder_nil ⟨σ, H, I, h⟩
theorem pgs_cons {e : Expr} {es : List Expr} {t : TG} {u : TGs} (h1 : PG X e t) (h2 : PGs X es u)
    (hs : (assignEach (e :: es) X.env).map (·.2) = assign e X.env :: (assignEach es X.env).map (·.2) := by rfl) : PGs X (e :: es) (gCons t u) := by
  intro pins s σ H vs us Q I r h
  obtain ⟨v, vr, e1, h⟩ := h
  subst e1
  cases r with
  | cons r rr =>
    rw [hs]
    refine assignInOrder_cons (thn (h1 pins s σ H _ _ _ I r h) fun _ s1 ⟨σ1, H1, I1, q1⟩ => ?_)
    exact h2 pins s1 σ1 H1 _ _ Q I1 rr q1
/-- (a, b, ..) = a tuple of that length -/
def gTup (K : PySem.W.Frag) (n : Nat) (t : TGs) : TG := fun v σ H Q => ∃ a xs, v = .ref a ∧ SqT K H a xs ∧ xs.length = n ∧ t xs σ H Q
theorem pg_tup {es : List Expr} {k : Nat} {t : TGs} {n : Nat} (hc : X.calm = true) (h : PGs X es t)
    (hn : (assignEach es X.env).length = n := by rfl) (hst : (assignEach es X.env).findIdx? (·.1) = none := by rfl) : PG X (.Tuple es k pos) (gTup X.K n t) := by
  intro pins s σ H v u Q I r hw
  obtain ⟨a, xs, e1, hq, hl, hw⟩ := hw
  subst e1
  cases r
  obtain ⟨its, rv, ht, hz⟩ := I.tuple hq
  refine assign_Tuple_tuple (I.ok.hd hc) ht (by simp [hn, ← hl, rv.length]) hst fun h' hx => ?_
  have I1 : Inv X pins σ H { s with heap := h' } := I.kept (t' := s.toks) fun b o e => hx b o (Nat.ne_of_lt (Heap.lt_size e)) e
  exact h pins _ σ H xs _ Q I1 (by simpa using rv) hw
/-- o[i] = .. -/
def gSub (to ti : TE) (t : TSet) : TG := fun v σ H Q => to σ H fun o H1 => ti σ H1 fun i H2 => t o i v H2 fun H3 => Q σ H3
theorem pg_sub {o i : Expr} {to ti : TE} {t : TSet} (ho : PE X o to) (hi : PE X i ti) (hs : PSet X t)
    (ha : ∀ v, assign (.Subscript o i pos) X.env v = (do
      let ov ← holding [v] (eval o X.env)
      let iv ← holding [v, ov] (eval i X.env)
      standAt pos
      holding [v, ov, iv] (setItem ov iv v)
      release [v, ov, iv] []) := by intro _; rfl) : PG X (.Subscript o i pos) (gSub to ti t) := by
  intro pins s σ H v u Q I r h
  rw [ha]
  refine wpAny_bind (wpAny_holding (thn (ho pins s σ H _ I h) fun ov s1 ⟨x, H1, I1, r1, q1⟩ => ?_))
  refine wpAny_bind (wpAny_holding (thn (hi pins s1 σ H1 _ I1 q1) fun iv s2 ⟨y, H2, I2, r2, q2⟩ => ?_))
  refine wpAny_bind (wpAny_standAt (wpAny_bind (wpAny_holding (thn (hs pins s2 σ H2 x y v ov iv u _ I2 r1 r2 r q2) fun _ s3 ⟨H3, I3, q3⟩ => ?_))))
  exact wpAny_release ⟨σ, H3, I3, q3⟩
/-- target = value -/
def tAsg (te : TE) (g : TG) : TS := fun D σ H => te σ H fun x H1 => g x σ H1 D.nx
theorem ps_asg {tg e : Expr} {te : TE} {g : TG} (he : PE X e te) (hg : PG X tg g) (hs : swapsWithSole [tg] e pos.line X.env = pure false := by rfl) (hw : swappedStores [tg] e X.env = pure none := by rfl)
    (h1 : (assignEach [tg] X.env).map (·.2) = [assign tg X.env] := by rfl) : PS X (.Assign [tg] e pos) (tAsg te g) := by
  intro pins s σ H D I h
  refine wpAny_Assign_stores (thn (he pins s σ H _ I h) fun v s1 ⟨x, H1, I1, r1, q1⟩ => ?_) hs hw
  rw [h1]
  exact thn (hg pins s1 σ H1 x v _ I1 r1 q1) fun _ s2 q => q
/-- name = value -/
theorem ps_set {i : Nat} {x : Str} {e : Expr} {te : TE} {pos' : Pos} (hN : X.N.Nodup) (hi : X.N[i]? = some x) (hx : Loc X.env.scope x) (he : PE X e te) (hs : swapsWith e (some (.Name x pos')) pos.line X.env = pure false := by rfl) (hf : X.fn x = true ∨ X.env.scope.names.lookup x = some .local := by first | exact .inl rfl | exact .inr rfl | assumption) :
    PS X (.Assign [.Name x pos'] e pos) (tAsg te (gName i)) := by
  intro pins s σ H D I h
  refine wpAny_Assign_Name (thn (he pins s σ H _ I h) fun v s1 ⟨y, H1, I1, r1, q1⟩ => ?_) hs
  exact store_ok I1 hN hi hx r1 (fun s2 I2 => ⟨_, H1, I2, q1⟩) hf
/-- a, b = x, y with plain local names: stored from the right; the pair itself is not tracked (the opening rows as in PyProof/Rows/TupAssign.lean:23) -/
def tPar (i j : Nat) (ta : TA) : TS := fun D σ H => ta σ H fun vs H1 => ∃ v w, vs = [v, w] ∧ D.nx ((σ.set i (some v)).set j (some w)) H1
theorem ps_par {i j : Nat} {x y : Str} {a b : Expr} {ta : TA} {px py pt : Pos} {kt k2 pt2} (hc : X.calm = true) (hN : X.N.Nodup) (hi : X.N[i]? = some x) (hj : X.N[j]? = some y) (hij : i ≠ j)
    (hx : X.env.scope.names.lookup x = some .local) (hy : X.env.scope.names.lookup y = some .local) (ha : PA X [a, b] ta)
    (hw : swappedStores [.Tuple [.Name x px, .Name y py] kt pt] (.Tuple [a, b] k2 pt2) X.env = pure (some [x, y]))
    (hs : swapsWithSole [.Tuple [.Name x px, .Name y py] kt pt] (.Tuple [a, b] k2 pt2) pos.line X.env = pure false := by rfl) :
    PS X (.Assign [.Tuple [.Name x px, .Name y py] kt pt] (.Tuple [a, b] k2 pt2) pos) (tPar i j ta) := by
  intro pins s σ H D I h
  rw [exec_Assign_arm]
  refine wpAny_bind (wpAny_standAt ?_)
  rw [hs]
  refine wpAny_bind (wpAny_pure ?_)
  rw [if_neg (by decide)]
  refine wpAny_bind (Tuple_ (thn (ha _ pins s σ H _ I h) fun us s1 ⟨vs, H1, I1, r1, q1⟩ => ?_))
  obtain ⟨v, w, e1, q1⟩ := q1
  subst e1
  obtain ⟨u1, u2, rfl, rv, rw'⟩ : ∃ u1 u2, us = [u1, u2] ∧ RelV v u1 ∧ RelV w u2 := by
    cases r1 with
    | cons p q =>
      cases q with
      | cons p' q' =>
        cases q'
        exact ⟨_, _, rfl, p, p'⟩
  refine wpAny_newObj_type ?_ (by show 2 ≤ sizeLine; decide)
  have I2 : Inv X pins σ H1 { s1 with heap := s1.heap.push { cls := .type "tuple", data := .seq [u1, u2].toArray } } := I1.kept (t' := s1.toks) fun b o e => Heap.get?_push_of_some _ e
  rw [hw]
  refine wpAny_bind (wpAny_pure ?_)
  show wpAny (model X.prog X.w) X.A (do rule "assign.swapped-stores"; let items ← unpackItems (.ref s1.heap.objs.size) 2 none; assignInOrder [fun v => bindName X.env y v, fun v => bindName X.env x v] items.reverse; pure Flow.next) _ _ _
  refine wpAny_bind (wpAny_rule (wpAny_bind (unpackItems_tuple (items := #[u1, u2]) (I.ok.hd hc) (IsTup.new s1.heap _) fun h' hx' => ?_)))
  have I3 := I2.kept (h' := h') (t' := s1.toks) fun b o e => hx' b o (Nat.ne_of_lt (Heap.lt_size e)) e
  show wpAny _ _ (assignInOrder [fun v => bindName X.env y v, fun v => bindName X.env x v] [u2, u1] >>= fun _ => pure Flow.next) _ _ _
  refine wpAny_bind (assignInOrder_cons (wpAny_bindName (store_ok I3 hN hj (.inl hy) rw' (fun s2 I4 => ?_) (.inr hy))))
  refine assignInOrder_cons (wpAny_bindName (store_ok I4 hN hi (.inl hx) rv (fun s3 I5 => assignInOrder_nil (wpAny_pure ?_)) (.inr hx)))
  rw [List.set_comm _ _ (Ne.symm hij)] at I5
  exact ⟨_, H1, I5, q1⟩
/-- name op= e -/
def tAug (i : Nat) (te : TE) (ti : TIp) : TS := fun D σ H => ∃ x, σ[i]? = some (some x) ∧ te σ H fun y H1 => ti x y H1 fun z H2 => D.nx (σ.set i (some z)) H2
theorem ps_aug {i : Nat} {x : Str} {e : Expr} {te : TE} {op : Operator} {ti : TIp} {pos' : Pos} (hN : X.N.Nodup) (hi : X.N[i]? = some x) (hx : Loc X.env.scope x) (he : PE X e te) (ho : PIp X op ti) (hf : X.fn x = true ∨ X.env.scope.names.lookup x = some .local := by first | exact .inl rfl | exact .inr rfl | assumption) :
    PS X (.AugAssign (.Name x pos') op e pos) (tAug i te ti) := by
  intro pins s σ H D I h
  obtain ⟨v, e1, h⟩ := h
  obtain ⟨m, hn, hl⟩ := I.loc
  have vis : Vis X.env.scope x := by rcases hx with k | k; exact .inl k; exact .inr (.inl k)
  obtain ⟨u, r, l⟩ := hl i x v hi e1 vis
  refine wpAny_AugAssign_Name ?_
  have go : wpAny (model X.prog X.w) X.A (eval e X.env) (fun w s₂ => wpAny (model X.prog X.w) X.A (inplaceOp op u w) (fun r s₃ => wpAny (model X.prog X.w) X.A (storeName X.env x r) (fun _ => SP X pins D .next) X.xe s₃) X.xe s₂) X.xe s := by
    refine thn (he pins s σ H _ I h) fun w s1 ⟨y, H1, I1, r1, q1⟩ => ?_
    refine thn (ho pins s1 σ H1 v y u w _ I1 r r1 q1) fun z s2 ⟨zv, H2, I2, r2, q2⟩ => ?_
    exact store_ok I2 hN hi hx r2 (fun s3 I3 => ⟨_, H2, I3, q2⟩) hf
  rcases l with ⟨hk, hm⟩ | ⟨hk, c, hc, hcell⟩
  · exact wpAny_loadName_local I.ok.kind hk hn hm go
  · rcases hk with hk | hk
    · exact wpAny_loadName_cell I.ok.kind hk hc hcell go
    · rcases hx with k | k
      · have : X.env.scope.names.lookup x = some .free := hk
        rw [k] at this; cases this
      · have : X.env.scope.names.lookup x = some .free := hk
        rw [k] at this; cases this
/-- o[i] op= e -/
def tAugS (to ti te : TE) (tget : V → V → Hp → VK → Prop) (tip : TIp) (tset : TSet) : TS := fun D σ H => to σ H fun o H1 => ti σ H1 fun i H2 => tget o i H2 fun x H3 => te σ H3 fun y H4 => tip x y H4 fun z H5 => tset o i z H5 fun H6 => D.nx σ H6
/-- o[i], by values -/
def PGet (X : Cx) (t : V → V → Hp → VK → Prop) : Prop :=
  ∀ (pins : List (Addr × Obj)) (s : Shared) (σ : St) (H : Hp) (o i : V) (ov iv : Value) (Q : VK), Inv X pins σ H s → RelV o ov → RelV i iv → t o i H Q →
    wpAny (model X.prog X.w) X.A (getItem ov iv) (EP X pins σ Q) X.xe s
theorem ps_augS {o i e : Expr} {to ti te : TE} {tget : V → V → Hp → VK → Prop} {tip : TIp} {tset : TSet} {op : Operator} {tpos : Pos} (ho : PE X o to) (hi : PE X i ti) (hg : PGet X tget) (he : PE X e te) (hp : PIp X op tip) (hs : PSet X tset)
    (ha : ∀ ov iv new, augStore i ov iv new = (do holding [new, ov, iv] (setItem ov iv new); release [new, ov, iv] []; pure .next) := by intros; rfl) : PS X (.AugAssign (.Subscript o i tpos) op e pos) (tAugS to ti te tget tip tset) := by
  intro pins s σ H D I h
  refine wpAny_AugAssign_SubscriptAny (thn (ho pins s σ H _ I h) fun ov s1 ⟨x1, H1, I1, r1, q1⟩ => ?_) ha
  refine thn (hi pins s1 σ H1 _ I1 q1) fun iv s2 ⟨x2, H2, I2, r2, q2⟩ => ?_
  refine thn (hg pins s2 σ H2 x1 x2 ov iv _ I2 r1 r2 q2) fun old s3 ⟨x3, H3, I3, r3, q3⟩ => ?_
  refine thn (he pins s3 σ H3 _ I3 q3) fun v s4 ⟨x4, H4, I4, r4, q4⟩ => ?_
  refine thn (hp pins s4 σ H4 x3 x4 old v _ I4 r3 r4 q4) fun new s5 ⟨x5, H5, I5, r5, q5⟩ => ?_
  exact thn (hs pins s5 σ H5 x1 x2 x5 ov iv new _ I5 r1 r2 r5 q5) fun _ s6 ⟨H6, I6, q6⟩ => ⟨σ, H6, I6, q6⟩
/-- ints -/
def ipI (f : Int → Int → Int) : TIp := fun x y H Q => ∃ i j, x = .int i ∧ y = .int j ∧ Q (.int (f i j)) H
theorem ip_add : PIp X .Add (ipI fun i j => i + j) := by
  intro pins s σ H x y v u Q I r1 r2 h
  obtain ⟨i, j, e1, e2, q⟩ := h
  subst e1; subst e2
  obtain ⟨t, rfl⟩ := r1
  obtain ⟨t', rfl⟩ := r2
  exact iadd_int ⟨.int _, H, I.tok _, ⟨_, rfl⟩, q⟩
theorem ip_sub : PIp X .Sub (ipI fun i j => i - j) := by
  intro pins s σ H x y v u Q I r1 r2 h
  obtain ⟨i, j, e1, e2, q⟩ := h
  subst e1; subst e2
  obtain ⟨t, rfl⟩ := r1
  obtain ⟨t', rfl⟩ := r2
  exact isub_int ⟨.int _, H, I.tok _, ⟨_, rfl⟩, q⟩
end

/-! ### while -/
section
variable {X : Cx} {pos : Pos}
/-- the invariant W with its measure -/
def tWhile (c : TT) (tb : TS) : TS := fun D σ H => ∃ W : Nat → St → Hp → Prop, (∃ m, W m σ H) ∧ ∀ m σ H, W m σ H →
  c σ H fun b H1 => if b = true then ∃ N : St → Hp → Prop, (∀ σ' H', N σ' H' → ∃ m', m' < m ∧ W m' σ' H') ∧ tb { D with nx := N, ct := N, bk := D.nx } σ H1 else D.nx σ H1
theorem ps_while {c : Expr} {body : List Stmt} {tc : TT} {tb : TS} (hp : PassesOwn (model X.prog X.w) X.A X.env X.xe) (hc : PT X c tc) (hb : PSs X body tb) : PS X (.While c body [] pos) (tWhile tc tb) := by
  intro pins s σ H D I h
  obtain ⟨W, ⟨m0, w0⟩, turn⟩ := h
  refine wpAny_While (codeAny_whileLoop (fun n s' => ∃ σ' H', Inv X pins σ' H' s' ∧ W n σ' H') ?_ m0 ⟨σ, H, I, w0⟩)
  rintro n s1 ⟨σ1, H1, I1, w1⟩
  refine wpAny_passesOwn hp (thn (hc pins s1 σ1 H1 _ I1 (turn n σ1 H1 w1)) fun b s2 ⟨H2, I2, q2⟩ => ?_)
  cases b with
  | true =>
    obtain ⟨N, hN, q2⟩ := q2
    rw [if_pos rfl]
    refine wpAny_passesOwn hp (thn (hb pins s2 σ1 H2 _ I2 q2) fun f s3 q3 => ?_)
    cases f with
    | next =>
      obtain ⟨σ3, H3, I3, n3⟩ := q3
      obtain ⟨m', hm, w3⟩ := hN σ3 H3 n3
      exact ⟨m', hm, σ3, H3, I3, w3⟩
    | cont =>
      obtain ⟨σ3, H3, I3, n3⟩ := q3
      obtain ⟨m', hm, w3⟩ := hN σ3 H3 n3
      exact ⟨m', hm, σ3, H3, I3, w3⟩
    | brk => exact q3
    | ret v => exact q3
  | false =>
    rw [if_neg Bool.false_ne_true]
    exact wpAny_execs_nil ⟨σ1, H2, I2, q2⟩
end

/-! ### what a loop or a comprehension walks -/
/-- at turn i: it yields x (the heap may grow), or it stops -/
structure It where
  go : Nat → Hp → Prop
  yld : Nat → Hp → V → Hp → Prop
  stop : Nat → Hp → Prop
/-- the iterator's own objects may turn: they are not the frame's, not pinned, younger than the entry (or a comprehension's own) -/
def FpOk (X : Cx) (pins : List (Addr × Obj)) (H : Hp) (b : Addr) : Prop :=
  H b = none ∧ b ≠ X.env.locals ∧ b ∉ X.fs ∧ (b ∈ X.ex ∨ X.s₀.heap.objs.size ≤ b) ∧ (∀ x c, X.env.cells.lookup x = some c → c ≠ b) ∧ ∀ p ∈ X.pn ++ pins, p.1 ≠ b
theorem Inv.fpOk {X : Cx} {pins : List (Addr × Obj)} {σ : St} {H H' : Hp} {s : Shared} {b : Addr} (I : Inv X pins σ H s) (hb : s.heap.objs.size ≤ b) (hn : H' b = none) : FpOk X pins H' b := by
  refine ⟨hn, Nat.ne_of_gt (Nat.lt_of_lt_of_le I.lt hb), I.nofs hb, .inr (Nat.le_trans I.sz hb), fun x c e z => ?_, fun p hp z => ?_⟩
  · obtain ⟨v, q⟩ := I.cell x c e
    exact absurd (Nat.lt_of_lt_of_le q.lt (by rw [z]; exact hb)) (Nat.lt_irrefl _)
  · exact absurd (Nat.lt_of_lt_of_le (Heap.lt_size (I.pin p hp).1) (by rw [z]; exact hb)) (Nat.lt_irrefl _)
structure Turn (P : Program) (w : World) (K : PySem.W.Frag) (tg : Expr) (J : It) (fp : List Addr) (it : Addr) (tn : Nat → Heap → Prop) : Prop where
  mem : it ∈ fp
  obj : ∀ i h, tn i h → ∀ b ∈ fp, ∃ o, h.get? b = some o ∧ ∀ v, o.data ≠ .cell v
  keep : ∀ i h h', tn i h → (∀ b ∈ fp, ∀ o, h.get? b = some o → h'.get? b = some o) → tn i h'
  item : ∀ (X : Cx), X.prog = P → X.w = w → X.K = K → X.calm = true → ∀ (i : Nat) (pins : List (Addr × Obj)) (s : Shared) (σ : St) (H : Hp) (E : Value → Shared → Prop), Inv X pins σ H s → (∀ b ∈ fp, FpOk X pins H b) → tn i s.heap → J.go i H →
    wpAny (model P w) X.A (pyNext (.ref it)) (fun r s1 => ∃ u, r = some u ∧
      wpAny (model P w) X.A (letOwnedTupleGo tg (.ref it) u) (fun _ s2 => ∃ x H', Inv X pins σ H' s2 ∧ RelV x u ∧ J.yld i H x H' ∧ tn (i + 1) s2.heap ∧ ∀ b ∈ fp, H' b = none) E s1) E s
  done : ∀ (X : Cx), X.prog = P → X.w = w → X.K = K → X.calm = true → ∀ (i : Nat) (pins : List (Addr × Obj)) (s : Shared) (σ : St) (H : Hp) (E : Value → Shared → Prop), Inv X pins σ H s → (∀ b ∈ fp, FpOk X pins H b) → tn i s.heap → J.stop i H →
    wpAny (model P w) X.A (pyNext (.ref it)) (fun r s1 => r = none ∧ Inv X pins σ H s1) E s
  self : ∀ (A : Around) (i : Nat) (s : Shared) (Q : Value → Shared → Prop) (E : Value → Shared → Prop), tn i s.heap → Q (.ref it) s → wpAny (model P w) A (pyIter (.ref it)) Q E s
abbrev TI := St → Hp → (It → Hp → Prop) → Prop
/-- an iterator has come -/
def PIE (X : Cx) (pins : List (Addr × Obj)) (σ : St) (tg : Expr) (R : It → Hp → Prop) (itv : Value) (s2 : Shared) : Prop :=
  ∃ (it : Addr) (fp : List Addr) (tn : Nat → Heap → Prop) (J : It) (H' : Hp), itv = .ref it ∧ Inv X pins σ H' s2 ∧ Turn X.prog X.w X.K tg J fp it tn ∧ tn 0 s2.heap ∧ (∀ b ∈ fp, FpOk X pins H' b) ∧ R J H'
def PI (X : Cx) (tg iter : Expr) (wi : TI) : Prop :=
  ∀ (pins : List (Addr × Obj)) (s : Shared) (σ : St) (H : Hp) (R : It → Hp → Prop), Inv X pins σ H s → wi σ H R →
    wpAny (model X.prog X.w) X.A (eval iter X.env) (fun v s1 => wpAny (model X.prog X.w) X.A (pyIter v) (PIE X pins σ tg R) X.xe s1) X.xe s

/-- the step ahead of the store is nothing for an iterator that keeps no tuple -/
theorem go_of {M : Model} {A : Around} {E : Value → Shared → Prop} {s : Shared} {tg : Expr} {it : Addr} {u : Value} {o : Obj} {n : String} {vs : Array Value} {Q : Unit → Shared → Prop} (ho : s.heap.get? it = some o) (hc : o.cls = .type n) (hd : o.data = .fields vs)
    (hn : ["enumerate", "zip", "dict_itemiterator", "dict_reverseitemiterator", "odict_iterator", "itertools.zip_longest", "itertools.pairwise"].contains n = false) (hQ : Q () s) : wpAny M A (letOwnedTupleGo tg (.ref it) u) Q E s := by
  unfold letOwnedTupleGo
  cases tg <;> first
    | exact wpAny_pure hQ
    | (cases u <;> first
        | exact wpAny_pure hQ
        | (refine wpAny_bind (wpAny_load ho ?_)
           rw [hc, hd]
           show wpAny M A (if (["enumerate", "zip", "dict_itemiterator", "dict_reverseitemiterator", "odict_iterator", "itertools.zip_longest", "itertools.pairwise"].contains n && vs[0]? == some (rawInt _)) = true then _ else _) Q E s
           rw [if_neg (by intro h; rw [hn, Bool.false_and] at h; cases h)]
           exact wpAny_pure hQ))

/-- the list at a, as it stands at each turn (a loop may append to it) -/
def Itl (K : PySem.W.Frag) (a : Addr) : It :=
  ⟨fun i H => ∃ xs x, SqL K H a xs ∧ xs[i]? = some x, fun i H x H' => H' = H ∧ ∀ xs, SqL K H a xs → xs[i]? = some x, fun i H => ∃ xs, SqL K H a xs ∧ xs.length ≤ i⟩
def Itt (K : PySem.W.Frag) (a : Addr) : It :=
  ⟨fun i H => ∃ xs x, SqT K H a xs ∧ xs[i]? = some x, fun i H x H' => H' = H ∧ ∀ xs, SqT K H a xs → xs[i]? = some x, fun i H => ∃ xs, SqT K H a xs ∧ xs.length ≤ i⟩
/-- lo, lo + 1, .. (n of them) -/
def Itr (lo : Int) (n : Nat) : It := ⟨fun i _ => i < n, fun i H x H' => H' = H ∧ x = .int (lo + i), fun i _ => n ≤ i⟩
theorem turn_list {P : Program} {w : World} {K : PySem.W.Frag} {tg : Expr} (a it : Addr) : Turn P w K tg (Itl K a) [it] it (fun i h => h.IsListIter it a i) where
  mem := by simp
  obj := fun i h st b hb => by
    have e : b = it := by simpa using hb
    subst e
    obtain ⟨o, e, c, d⟩ := st
    exact ⟨o, e, fun v z => by rw [d] at z; cases z⟩
  keep := fun i h h' st k => st.at fun o e => k it (by simp) o e
  item := by
    intro X hP hw hK hc i pins s σ H E I hf st hg
    subst hP hw hK
    obtain ⟨xs, x, hq, hx⟩ := hg
    obtain ⟨its, rv, p, hz⟩ := I.list hq
    obtain ⟨u, hu, ru⟩ := rv.get hx
    obtain ⟨f0, f1, f2, f3, f4, f5⟩ := hf it (by simp)
    refine wpAny_pyNext_list_item st p.isList (x := u) (by simpa using hu) fun h' st' sb => ?_
    have I1 : Inv X pins σ H { s with heap := h' } := I.turned (t' := s.toks) (fun b o hb e => (sb.2 b hb).trans e) f0 f1 f3 f4 f5
    obtain ⟨o, e, c, d⟩ := id st'
    exact ⟨u, rfl, go_of (s := { s with heap := h' }) e c d (by decide) ⟨x, H, I1, ru, ⟨rfl, fun ys hy => by rw [I.list_inj hy hq]; exact hx⟩, st', fun b hb => (hf b hb).1⟩⟩
  done := by
    intro X hP hw hK hc i pins s σ H E I hf st hg
    subst hP hw hK
    obtain ⟨xs, hq, hx⟩ := hg
    obtain ⟨its, rv, p, hz⟩ := I.list hq
    obtain ⟨f0, f1, f2, f3, f4, f5⟩ := hf it (by simp)
    have hl := rv.length
    exact wpAny_pyNext_list_end (I.ok.hd hc) st p.isList (by simp; omega) fun h' eb => ⟨rfl, I.turned (t' := s.toks) (fun b o hb e => eb b o hb e) f0 f1 f3 f4 f5⟩
  self := fun _ _ _ _ _ st h => wpAny_pyIter_listiter st h
theorem turn_tuple {P : Program} {w : World} {K : PySem.W.Frag} {tg : Expr} (a it : Addr) : Turn P w K tg (Itt K a) [it] it (fun i h => h.IsTupleIter it a i) where
  mem := by simp
  obj := fun i h st b hb => by
    have e : b = it := by simpa using hb
    subst e
    obtain ⟨o, e, c, d⟩ := st
    exact ⟨o, e, fun v z => by rw [d] at z; cases z⟩
  keep := fun i h h' st k => st.at fun o e => k it (by simp) o e
  item := by
    intro X hP hw hK hc i pins s σ H E I hf st hg
    subst hP hw hK
    obtain ⟨xs, x, hq, hx⟩ := hg
    obtain ⟨its, rv, p, hz⟩ := I.tuple hq
    obtain ⟨u, hu, ru⟩ := rv.get hx
    obtain ⟨f0, f1, f2, f3, f4, f5⟩ := hf it (by simp)
    refine wpAny_pyNext_tuple_item st (show s.heap.IsTuple a its.toArray from p) (x := u) (by simpa using hu) fun h' st' sb => ?_
    have I1 : Inv X pins σ H { s with heap := h' } := I.turned (t' := s.toks) (fun b o hb e => (sb.2 b hb).trans e) f0 f1 f3 f4 f5
    obtain ⟨o, e, c, d⟩ := id st'
    exact ⟨u, rfl, go_of (s := { s with heap := h' }) e c d (by decide) ⟨x, H, I1, ru, ⟨rfl, fun ys hy => by rw [I.tuple_inj hy hq]; exact hx⟩, st', fun b hb => (hf b hb).1⟩⟩
  done := by
    intro X hP hw hK hc i pins s σ H E I hf st hg
    subst hP hw hK
    obtain ⟨xs, hq, hx⟩ := hg
    obtain ⟨its, rv, p, hz⟩ := I.tuple hq
    obtain ⟨f0, f1, f2, f3, f4, f5⟩ := hf it (by simp)
    have hl := rv.length
    exact wpAny_pyNext_tuple_end (I.ok.hd hc) st (show s.heap.IsTuple a its.toArray from p) (by simp; omega) fun h' eb => ⟨rfl, I.turned (t' := s.toks) (fun b o hb e => eb b o hb e) f0 f1 f3 f4 f5⟩
  self := fun _ _ _ _ _ st h => wpAny_pyIter_tupleiter st h
theorem turn_range {P : Program} {w : World} {K : PySem.W.Frag} {tg : Expr} (it : Addr) (lo : Int) (n : Nat) : Turn P w K tg (Itr lo n) [it] it (fun i h => IsRangeIter h it (lo + (i : Nat) * 1) ((n : Int) - (i : Nat)) 1) where
  mem := by simp
  obj := fun i h st b hb => by
    have e : b = it := by simpa using hb
    subst e
    exact ⟨_, st, fun v z => by
      have z' : Data.fields _ = Data.cell v := z
      cases z'⟩
  keep := fun i h h' st k => k it (by simp) _ st
  item := by
    intro X hP hw hK hc i pins s σ H E I hf st hg
    subst hP hw hK
    obtain ⟨f0, f1, f2, f3, f4, f5⟩ := hf it (by simp)
    have W := Walks.range (prog := X.prog) (w := X.w) (I.ok.hd hc) it lo 1 n
    refine W.item i s _ _ hg st fun v h' tk hv st' kk => ?_
    obtain ⟨t, rfl⟩ := hv
    have I1 : Inv X pins σ H { s with heap := h', toks := tk } := I.turned (fun b o hb e => kk b o (by simpa using hb) e) f0 f1 f3 f4 f5
    refine ⟨_, rfl, go_of (s := { s with heap := h', toks := tk }) (n := "range_iterator") st' rfl rfl (by decide) ⟨.int (lo + i), H, I1, ⟨t, ?_⟩, ⟨rfl, rfl⟩, st', fun b hb => (hf b hb).1⟩⟩
    rw [Int.mul_one]
  done := by
    intro X hP hw hK hc i pins s σ H E I hf st hg
    subst hP hw hK
    obtain ⟨f0, f1, f2, f3, f4, f5⟩ := hf it (by simp)
    exact wpAny_pyNext_range_end (I.ok.hd hc) st (by have : n ≤ i := hg; omega) fun h' eb => ⟨rfl, I.turned (t' := s.toks) (fun b o hb e => eb b o hb e) f0 f1 f3 f4 f5⟩
  self := fun _ _ _ _ _ st h => wpAny_pyIter_rangeiter st h
end L2

namespace L2
open PySem PySem.Spec PyProof.Rows
section
variable {X : Cx} {tg : Expr}
def iList (K : PySem.W.Frag) (tl : TE) : TI := fun σ H R => tl σ H fun x H1 => ∃ a, x = .ref a ∧ (∃ xs, SqL K H1 a xs) ∧ R (Itl K a) H1
def iTup (K : PySem.W.Frag) (tl : TE) : TI := fun σ H R => tl σ H fun x H1 => ∃ a, x = .ref a ∧ (∃ xs, SqT K H1 a xs) ∧ R (Itt K a) H1
theorem pi_list {l : Expr} {tl : TE} (hl : PE X l tl) : PI X tg l (iList X.K tl) := by
  intro pins s σ H R I h
  refine thn (hl pins s σ H _ I h) fun v s1 ⟨x, H1, I1, r1, q1⟩ => ?_
  obtain ⟨a, e, ⟨xs, hq⟩, q⟩ := q1
  subst e
  cases r1
  obtain ⟨its, rv, p, hz⟩ := I1.list hq
  refine wpAny_pyIter_list p.isList ?_
  refine ⟨s1.heap.objs.size, [s1.heap.objs.size], _, _, H1, rfl, I1.kept (t' := s1.toks) fun b o e => Heap.get?_push_of_some _ e, turn_list a _, ⟨_, Heap.get?_push_size _ rfl, rfl, rfl⟩, fun b hb => ?_, q⟩
  have e : b = s1.heap.objs.size := by simpa using hb
  subst e
  exact I1.fpOk (Nat.le_refl _) (I1.hok.fresh (Nat.le_refl _))
theorem pi_tup {l : Expr} {tl : TE} (hl : PE X l tl) : PI X tg l (iTup X.K tl) := by
  intro pins s σ H R I h
  refine thn (hl pins s σ H _ I h) fun v s1 ⟨x, H1, I1, r1, q1⟩ => ?_
  obtain ⟨a, e, ⟨xs, hq⟩, q⟩ := q1
  subst e
  cases r1
  obtain ⟨its, rv, p, hz⟩ := I1.tuple hq
  refine wpAny_pyIter_tuple (show s1.heap.IsTuple a its.toArray from p) ?_
  refine ⟨s1.heap.objs.size, [s1.heap.objs.size], _, _, H1, rfl, I1.kept (t' := s1.toks) fun b o e => Heap.get?_push_of_some _ e, turn_tuple a _, ⟨_, Heap.get?_push_size _ rfl, rfl, rfl⟩, fun b hb => ?_, q⟩
  have e : b = s1.heap.objs.size := by simpa using hb
  subst e
  exact I1.fpOk (Nat.le_refl _) (I1.hok.fresh (Nat.le_refl _))
/-- a range object just made, walked -/
theorem range_it {pins : List (Addr × Obj)} {σ : St} {H : Hp} {s : Shared} {R : It → Hp → Prop} {E : Value → Shared → Prop} {lo hi : Int} {t u v : Tok} {tk : Nat} (I : Inv X pins σ H s) (h1 : -(2 ^ 62) ≤ lo) (h2 : lo < 2 ^ 62) (h3 : -(2 ^ 62) ≤ hi) (h4 : hi < 2 ^ 62)
    (q : R (Itr lo (hi - lo).toNat) H) : wpAny (model X.prog X.w) X.A (pyIter (.ref s.heap.objs.size)) (PIE X pins σ tg R) E { s with heap := s.heap.push { cls := .type "range", data := .fields #[.int lo t, .int hi u, .int 1 v] }, toks := tk } := by
  refine wpAny_pyIter_range (IsRange.new ..) (small_one h1 h2 h3 h4) ?_
  have I1 : Inv X pins σ H { s with heap := s.heap.push { cls := .type "range", data := .fields #[.int lo t, .int hi u, .int 1 v] }, toks := tk } := I.kept fun b o e => Heap.get?_push_of_some _ e
  refine ⟨(s.heap.push { cls := .type "range", data := .fields #[.int lo t, .int hi u, .int 1 v] }).objs.size, [(s.heap.push { cls := .type "range", data := .fields #[.int lo t, .int hi u, .int 1 v] }).objs.size], _, _, H, rfl,
    I1.kept (t' := tk) fun b o e => Heap.get?_push_of_some _ e, turn_range _ lo (hi - lo).toNat, ?_, fun b hb => ?_, q⟩
  · have e1 : lo + ((0 : Nat) : Int) * 1 = lo := by simp
    have e2 : (((hi - lo).toNat : Nat) : Int) - ((0 : Nat) : Int) = Builtin.Range.rangeSize lo hi 1 := by rw [rangeSize_one]; split <;> omega
    show IsRangeIter _ _ (lo + ((0 : Nat) : Int) * 1) ((((hi - lo).toNat : Nat) : Int) - ((0 : Nat) : Int)) 1
    rw [e1, e2]
    exact Heap.get?_push_size _ rfl
  · have e : b = (s.heap.push { cls := .type "range", data := .fields #[.int lo t, .int hi u, .int 1 v] }).objs.size := by simpa using hb
    subst e
    exact I1.fpOk (Nat.le_refl _) (I1.hok.fresh (Nat.le_refl _))
def iRng1 (ta : TA) : TI := fun σ H R => ta σ H fun vs H1 => ∃ j : Int, vs = [.int j] ∧ -(2 ^ 62) ≤ j ∧ j < 2 ^ 62 ∧ R (Itr 0 j.toNat) H1
def iRng2 (ta : TA) : TI := fun σ H R => ta σ H fun vs H1 => ∃ i j : Int, vs = [.int i, .int j] ∧ (-(2 ^ 62) ≤ i ∧ i < 2 ^ 62 ∧ -(2 ^ 62) ≤ j ∧ j < 2 ^ 62) ∧ R (Itr i (j - i).toNat) H1
theorem pi_range1 {a : Expr} {ta : TA} {p pos : Pos} (hg : Gl X "range") (hm : X.mg "range" = none) (ha : PA X [a] ta) (hs : starEach [a] X.env = [(false, eval a X.env)] := by rfl) : PI X tg (.Call (.Name "range" p) [a] [] pos) (iRng1 ta) := by
  intro pins s σ H R I h
  refine Call_ (ld_blt I hg hm boot_range (PyProof.Rows.callWith_type1 (thn (ha pos pins s σ H _ I h) fun us s1 ⟨vs, H1, I1, r1, q1⟩ => ?_) hs rfl))
  obtain ⟨j, e, q1, q2, q⟩ := q1
  subst e
  cases r1 with
  | cons r rr =>
    cases rr
    obtain ⟨t, rfl⟩ := r
    exact call_range_1 (range_it I1 (by omega) (by omega) q1 q2 (by simpa using q))
theorem pi_range2 {a b : Expr} {ta : TA} {p pos : Pos} (hg : Gl X "range") (hm : X.mg "range" = none) (ha : PA X [a, b] ta) (hs : starEach [a, b] X.env = [(false, eval a X.env), (false, eval b X.env)] := by rfl) (hs2 : starEach [b] X.env = [(false, eval b X.env)] := by rfl) :
    PI X tg (.Call (.Name "range" p) [a, b] [] pos) (iRng2 ta) := by
  intro pins s σ H R I h
  refine Call_ (ld_blt I hg hm boot_range (PyProof.Rows.callWith_type1 (thn (ha pos pins s σ H _ I h) fun us s1 ⟨vs, H1, I1, r1, q1⟩ => ?_) (by rw [hs, hs2]) (by rw [hs2]; rfl)))
  obtain ⟨i, j, e, ⟨q1, q2, q3, q4⟩, q⟩ := q1
  subst e
  cases r1 with
  | cons r rr =>
    cases rr with
    | cons r' rr =>
      cases rr
      obtain ⟨t, rfl⟩ := r
      obtain ⟨t', rfl⟩ := r'
      exact call_range_2 (range_it I1 q1 q2 q3 q4 q)

/-! ### for -/
/-- W: the invariant by the turn and a measure; N: what the body is to reach -/
def tFor (wi : TI) (g : TG) (tb : TS) : TS := fun D σ H => wi σ H fun J H1 => ∃ W : Nat → Nat → St → Hp → Prop, (∃ m, W 0 m σ H1) ∧ ∀ i m σ H, W i m σ H →
  (J.stop i H ∧ D.nx σ H) ∨ (J.go i H ∧ ∃ N : St → Hp → Prop, (∀ σ' H', N σ' H' → ∃ m', m' < m ∧ W (i + 1) m' σ' H') ∧ ∀ x H', J.yld i H x H' → g x σ H' fun σ2 H2 => tb { D with nx := N, ct := N, bk := D.nx } σ2 H2)
/-- the records at fp as they stand -/
def pinsAt (fp : List Addr) (h : Heap) : List (Addr × Obj) := fp.filterMap fun b => (h.get? b).map fun o => (b, o)
theorem mem_pinsAt {fp : List Addr} {h : Heap} {b : Addr} {o : Obj} (hb : b ∈ fp) (e : h.get? b = some o) : (b, o) ∈ pinsAt fp h := List.mem_filterMap.mpr ⟨b, hb, by rw [e]; rfl⟩
theorem of_pinsAt {fp : List Addr} {h : Heap} {p : Addr × Obj} (hp : p ∈ pinsAt fp h) : p.1 ∈ fp ∧ h.get? p.1 = some p.2 := by
  obtain ⟨b, hb, e⟩ := List.mem_filterMap.mp hp
  cases q : h.get? b with
  | none => rw [q] at e; cases e
  | some o =>
    rw [q] at e
    have e' : (b, o) = p := Option.some.inj e
    subst e'
    exact ⟨hb, q⟩
theorem Inv.pinned {pins : List (Addr × Obj)} {σ : St} {H : Hp} {s : Shared} {fp : List Addr} (I : Inv X pins σ H s) (hf : ∀ b ∈ fp, FpOk X pins H b) (ho : ∀ b ∈ fp, ∃ o, s.heap.get? b = some o ∧ ∀ v, o.data ≠ .cell v) : Inv X (pins ++ pinsAt fp s.heap) σ H s :=
  I.pins_of fun p hp => (List.mem_append.mp hp).elim (fun z => I.pin p (List.mem_append_right _ z)) fun z => by
    obtain ⟨hb, e⟩ := of_pinsAt z
    obtain ⟨f0, f1, f2, _⟩ := hf p.1 hb
    obtain ⟨o, e', d⟩ := ho p.1 hb
    rw [e] at e'; cases e'
    exact ⟨e, f0, f1, f2, d⟩
theorem Inv.unpinned {pins pl : List (Addr × Obj)} {σ : St} {H : Hp} {s : Shared} (I : Inv X (pins ++ pl) σ H s) : Inv X pins σ H s := I.pins_of fun p hp => I.pin p (List.mem_append_right _ (List.mem_append_left _ hp))
theorem ps_for {iter : Expr} {body : List Stmt} {wi : TI} {g : TG} {tb : TS} {pos : Pos} (hp : PassesOwn (model X.prog X.w) X.A X.env X.xe) (hc : X.calm = true) (hi : PI X tg iter wi) (hg : PG X tg g) (hb : PSs X body tb)
    (hs : ∀ x, foldedSetIterable iter X.env x = pure x := by intro _; rfl) : PS X (.For tg iter body [] pos) (tFor wi g tb) := by
  intro pins s σ H D I h
  refine wpAny_For (thn (hi pins s σ H _ I h) fun v s1 h1 => thn h1 fun itv s2 h2 => ?_) hs
  obtain ⟨it, fp, tn, J, H2, e, I2, T, st2, f2, W, ⟨m0, w0⟩, turn⟩ := h2
  subst e
  -- what stays true of the iterator's objects through the loop
  have stat : ∀ {H' : Hp}, (∀ b ∈ fp, H' b = none) → ∀ b ∈ fp, FpOk X pins H' b := fun hn b hb => ⟨hn b hb, (f2 b hb).2⟩
  refine codeAny_forLoop_any (fun n s' => ∃ i σ' H', Inv X pins σ' H' s' ∧ tn i s'.heap ∧ (∀ b ∈ fp, H' b = none) ∧ W i n σ' H') ?_ m0 ⟨0, σ, H2, I2, st2, fun b hb => (f2 b hb).1, w0⟩
  rintro n s3 ⟨i, σ3, H3, I3, st3, fr3, w3⟩
  rcases turn i n σ3 H3 w3 with ⟨stop, qn⟩ | ⟨go, N, hN, step⟩
  · refine wpAny_passesOwn hp (thn (T.done X rfl rfl rfl hc i pins s3 σ3 H3 X.xe I3 (stat fr3) st3 stop) fun r s4 ⟨hr, I4⟩ => ?_)
    subst hr
    exact wpAny_execs_nil ⟨σ3, H3, I4, qn⟩
  · refine wpAny_passesOwn hp (thn (T.item X rfl rfl rfl hc i pins s3 σ3 H3 X.xe I3 (stat fr3) st3 go) fun r s4 ⟨u, hr, h4⟩ => ?_)
    subst hr
    refine wpAny_passesOwn hp (thn h4 fun _ s5 ⟨x, H5, I5, r5, y5, st5, fr5⟩ => ?_)
    have I5' := I5.pinned (stat fr5) (T.obj _ _ st5)
    refine wpAny_passesOwn hp (thn (hg _ s5 σ3 H5 x u _ I5' r5 (step x H5 y5)) fun _ s6 ⟨σ6, H6, I6, q6⟩ => ?_)
    refine wpAny_passesOwn hp (thn (hb _ s6 σ6 H6 _ I6 q6) fun f s7 q7 => ?_)
    have again : ∀ {σ7 : St} {H7 : Hp}, Inv X (pins ++ pinsAt fp s5.heap) σ7 H7 s7 → N σ7 H7 → ∃ m, m < n ∧ ∃ i σ' H', Inv X pins σ' H' s7 ∧ tn i s7.heap ∧ (∀ b ∈ fp, H' b = none) ∧ W i m σ' H' := fun {σ7 H7} I7 n7 => by
      obtain ⟨m', hm, w7⟩ := hN σ7 H7 n7
      refine ⟨m', hm, i + 1, σ7, H7, I7.unpinned, T.keep _ _ _ st5 fun b hb o e => (I7.pin (b, o) (List.mem_append_right _ (List.mem_append_right _ (mem_pinsAt hb e)))).1, fun b hb => ?_, w7⟩
      obtain ⟨o, e, d⟩ := T.obj _ _ st5 b hb
      exact (I7.pin (b, o) (List.mem_append_right _ (List.mem_append_right _ (mem_pinsAt hb e)))).2.1
    cases f with
    | next => obtain ⟨σ7, H7, I7, n7⟩ := q7; exact again I7 n7
    | cont => obtain ⟨σ7, H7, I7, n7⟩ := q7; exact again I7 n7
    | brk => obtain ⟨σ7, H7, I7, q7⟩ := q7; exact ⟨σ7, H7, I7.unpinned, q7⟩
    | ret v => obtain ⟨x7, σ7, H7, I7, r7, q7⟩ := q7; exact ⟨x7, σ7, H7, I7.unpinned, r7, q7⟩
end

/-! ### the forms one uses -/
/-- over a list that the body leaves as it is -/
theorem for_list {K : PySem.W.Frag} {a : Addr} {xs : List V} {g : TG} {tb : TS} {D : Ends} {σ : St} {H : Hp} (Pv : Nat → St → Hp → Prop) (h0 : Pv 0 σ H) (hl : ∀ i σ H, i ≤ xs.length → Pv i σ H → SqL K H a xs)
    (hs : ∀ i x σ H, xs[i]? = some x → Pv i σ H → g x σ H fun σ2 H2 => tb { D with nx := Pv (i + 1), ct := Pv (i + 1), bk := D.nx } σ2 H2) (hd : ∀ σ H, Pv xs.length σ H → D.nx σ H) :
    ∃ W : Nat → Nat → St → Hp → Prop, (∃ m, W 0 m σ H) ∧ ∀ i m σ H, W i m σ H →
      ((Itl K a).stop i H ∧ D.nx σ H) ∨ ((Itl K a).go i H ∧ ∃ N : St → Hp → Prop, (∀ σ' H', N σ' H' → ∃ m', m' < m ∧ W (i + 1) m' σ' H') ∧ ∀ x H', (Itl K a).yld i H x H' → g x σ H' fun σ2 H2 => tb { D with nx := N, ct := N, bk := D.nx } σ2 H2) := by
  refine ⟨fun i m σ H => m = xs.length - i ∧ i ≤ xs.length ∧ Pv i σ H, ⟨xs.length, by simp, Nat.zero_le _, h0⟩, ?_⟩
  rintro i m σ H ⟨rfl, hi, p⟩
  have q := hl i σ H hi p
  by_cases hlt : i < xs.length
  · refine .inr ⟨⟨xs, xs[i], q, by simp [hlt]⟩, Pv (i + 1), fun σ' H' p' => ⟨xs.length - (i + 1), by omega, rfl, hlt, p'⟩, fun x H' y => ?_⟩
    obtain ⟨e, y⟩ := y
    subst e
    exact hs i x σ _ (y xs q) p
  · have e : i = xs.length := by omega
    subst e
    exact .inl ⟨⟨xs, q, Nat.le_refl _⟩, hd σ H p⟩
theorem for_tup {K : PySem.W.Frag} {a : Addr} {xs : List V} {g : TG} {tb : TS} {D : Ends} {σ : St} {H : Hp} (Pv : Nat → St → Hp → Prop) (h0 : Pv 0 σ H) (hl : ∀ i σ H, i ≤ xs.length → Pv i σ H → SqT K H a xs)
    (hs : ∀ i x σ H, xs[i]? = some x → Pv i σ H → g x σ H fun σ2 H2 => tb { D with nx := Pv (i + 1), ct := Pv (i + 1), bk := D.nx } σ2 H2) (hd : ∀ σ H, Pv xs.length σ H → D.nx σ H) :
    ∃ W : Nat → Nat → St → Hp → Prop, (∃ m, W 0 m σ H) ∧ ∀ i m σ H, W i m σ H →
      ((Itt K a).stop i H ∧ D.nx σ H) ∨ ((Itt K a).go i H ∧ ∃ N : St → Hp → Prop, (∀ σ' H', N σ' H' → ∃ m', m' < m ∧ W (i + 1) m' σ' H') ∧ ∀ x H', (Itt K a).yld i H x H' → g x σ H' fun σ2 H2 => tb { D with nx := N, ct := N, bk := D.nx } σ2 H2) := by
  refine ⟨fun i m σ H => m = xs.length - i ∧ i ≤ xs.length ∧ Pv i σ H, ⟨xs.length, by simp, Nat.zero_le _, h0⟩, ?_⟩
  rintro i m σ H ⟨rfl, hi, p⟩
  have q := hl i σ H hi p
  by_cases hlt : i < xs.length
  · refine .inr ⟨⟨xs, xs[i], q, by simp [hlt]⟩, Pv (i + 1), fun σ' H' p' => ⟨xs.length - (i + 1), by omega, rfl, hlt, p'⟩, fun x H' y => ?_⟩
    obtain ⟨e, y⟩ := y
    subst e
    exact hs i x σ _ (y xs q) p
  · have e : i = xs.length := by omega
    subst e
    exact .inl ⟨⟨xs, q, Nat.le_refl _⟩, hd σ H p⟩
theorem for_range {lo : Int} {n : Nat} {g : TG} {tb : TS} {D : Ends} {σ : St} {H : Hp} (Pv : Nat → St → Hp → Prop) (h0 : Pv 0 σ H)
    (hs : ∀ i σ H, i < n → Pv i σ H → g (.int (lo + i)) σ H fun σ2 H2 => tb { D with nx := Pv (i + 1), ct := Pv (i + 1), bk := D.nx } σ2 H2) (hd : ∀ σ H, Pv n σ H → D.nx σ H) :
    ∃ W : Nat → Nat → St → Hp → Prop, (∃ m, W 0 m σ H) ∧ ∀ i m σ H, W i m σ H →
      ((Itr lo n).stop i H ∧ D.nx σ H) ∨ ((Itr lo n).go i H ∧ ∃ N : St → Hp → Prop, (∀ σ' H', N σ' H' → ∃ m', m' < m ∧ W (i + 1) m' σ' H') ∧ ∀ x H', (Itr lo n).yld i H x H' → g x σ H' fun σ2 H2 => tb { D with nx := N, ct := N, bk := D.nx } σ2 H2) := by
  refine ⟨fun i m σ H => m = n - i ∧ i ≤ n ∧ Pv i σ H, ⟨n, by simp, Nat.zero_le _, h0⟩, ?_⟩
  rintro i m σ H ⟨rfl, hi, p⟩
  by_cases hlt : i < n
  · refine .inr ⟨hlt, Pv (i + 1), fun σ' H' p' => ⟨n - (i + 1), by omega, rfl, hlt, p'⟩, fun x H' y => ?_⟩
    obtain ⟨e, y⟩ := y
    subst e y
    exact hs i σ _ hlt p
  · have e : i = n := by omega
    subst e
    exact .inl ⟨Nat.le_refl _, hd σ H p⟩
/-- while, by a word and a measure of the state -/
theorem while_by {c : TT} {tb : TS} {D : Ends} {σ : St} {H : Hp} (Pv : St → Hp → Prop) (μ : St → Hp → Nat) (h0 : Pv σ H)
    (hs : ∀ σ H, Pv σ H → c σ H fun b H1 => if b = true then tb { D with nx := fun σ' H' => Pv σ' H' ∧ μ σ' H' < μ σ H, ct := fun σ' H' => Pv σ' H' ∧ μ σ' H' < μ σ H, bk := D.nx } σ H1 else D.nx σ H1)
    (mono : ∀ σ H Q Q', (∀ b H1, Q b H1 → Q' b H1) → c σ H Q → c σ H Q') : tWhile c tb D σ H := by
  refine ⟨fun m σ H => m = μ σ H ∧ Pv σ H, ⟨_, rfl, h0⟩, ?_⟩
  rintro m σ H ⟨rfl, p⟩
  refine mono σ H _ _ (fun b H1 q => ?_) (hs σ H p)
  cases b with
  | true => exact ⟨_, fun σ' H' ⟨p', l⟩ => ⟨_, l, rfl, p'⟩, q⟩
  | false => exact q
end L2

namespace L2
open PySem PySem.Spec PyProof.Rows

abbrev R2 := V → V → Hp → VK → Prop
/-- a two-place operation on values: f is binaryOp op, inplaceOp op or compareOp op -/
def OpR (X : Cx) (f : Value → Value → Sem Value) (r : R2) : Prop :=
  ∀ (pins : List (Addr × Obj)) (s : Shared) (σ : St) (H : Hp) (x y : V) (v u : Value) (Q : VK), Inv X pins σ H s → RelV x v → RelV y u → r x y H Q →
    wpAny (model X.prog X.w) X.A (f v u) (EP X pins σ Q) X.xe s
/-- a one-place operation -/
def UnR (X : Cx) (f : Value → Sem Value) (r : V → Hp → VK → Prop) : Prop :=
  ∀ (pins : List (Addr × Obj)) (s : Shared) (σ : St) (H : Hp) (x : V) (v : Value) (Q : VK), Inv X pins σ H s → RelV x v → r x H Q →
    wpAny (model X.prog X.w) X.A (f v) (EP X pins σ Q) X.xe s
/-- a call of a value that is known (a builtin, a type) with values -/
def CallR (X : Cx) (f : Value) (r : List V → Hp → VK → Prop) : Prop :=
  ∀ (pins : List (Addr × Obj)) (s : Shared) (σ : St) (H : Hp) (xs : List V) (us : List Value) (Q : VK), Inv X pins σ H s → Vals xs us → r xs H Q →
    wpAny (model X.prog X.w) X.A (call f us) (EP X pins σ Q) X.xe s
/-- a value's truth -/
def TruR (X : Cx) (r : V → Hp → (Bool → Hp → Prop) → Prop) : Prop :=
  ∀ (pins : List (Addr × Obj)) (s : Shared) (σ : St) (H : Hp) (x : V) (v : Value) (Q : Bool → Hp → Prop), Inv X pins σ H s → RelV x v → r x H Q →
    wpAny (model X.prog X.w) X.A (truthy v) (TP X pins σ Q) X.xe s

def tOp (r : R2) (ta tb : TE) : TE := fun σ H Q => ta σ H fun x H1 => tb σ H1 fun y H2 => r x y H2 Q
def tUn (r : V → Hp → VK → Prop) (ta : TE) : TE := fun σ H Q => ta σ H fun x H1 => r x H1 Q
/-- ints in, under C, and a value out -/
def rI (C : Int → Int → Prop) (g : Int → Int → V) : R2 := fun x y H Q => ∃ i j, x = .int i ∧ y = .int j ∧ C i j ∧ Q (g i j) H
def rI0 (g : Int → Int → V) : R2 := fun x y H Q => ∃ i j, x = .int i ∧ y = .int j ∧ Q (g i j) H
def rU (g : Int → V) : V → Hp → VK → Prop := fun x H Q => ∃ i, x = .int i ∧ Q (g i) H

section
variable {X : Cx} {a b c : Expr} {ta tb tc : TE} {pos : Pos}

theorem binT (ha : PE X a ta) (hb : PE X b tb) {pins : List (Addr × Obj)} {s : Shared} {σ : St} {H : Hp} {R : V → V → Hp → Prop} (I : Inv X pins σ H s)
    (h : ta σ H fun x H1 => tb σ H1 fun y H2 => R x y H2) {Q : Value → Shared → Prop} {f : Value → Value → Sem Value}
    (hf : ∀ v u s2 x y H2, Inv X pins σ H2 s2 → RelV x v → RelV y u → R x y H2 → wpAny (model X.prog X.w) X.A (f v u) Q X.xe s2) :
    wpAny (model X.prog X.w) X.A (eval a X.env) (fun v s₁ => wpAny (model X.prog X.w) X.A (eval b X.env) (fun u s₂ => wpAny (model X.prog X.w) X.A (f v u) Q X.xe s₂) X.xe s₁) X.xe s := by
  refine thn (ha pins s σ H _ I h) fun v s1 ⟨x, H1, I1, r1, q1⟩ => ?_
  refine thn (hb pins s1 σ H1 _ I1 q1) fun u s2 ⟨y, H2, I2, r2, q2⟩ => ?_
  exact hf v u s2 x y H2 I2 r1 r2 q2

theorem pe_op {op : Operator} {r : R2} (ho : OpR X (binaryOp op) r) (ha : PE X a ta) (hb : PE X b tb) : PE X (.BinOp a op b pos) (tOp r ta tb) := by
  intro pins s σ H Q I h
  exact wpAny_BinOp (binT ha hb I h fun v u s2 x y H2 I2 rx ry q => ho pins s2 σ H2 x y v u Q I2 rx ry q)
theorem pe_un {op : UnaryOp} {r : V → Hp → VK → Prop} (ho : UnR X (unaryOp op) r) (ha : PE X a ta) : PE X (.UnaryOp op a pos) (tUn r ta) := by
  intro pins s σ H Q I h
  exact UnaryOp_ (thn (ha pins s σ H _ I h) fun v s1 ⟨x, H1, I1, r1, q1⟩ => ho pins s1 σ H1 x v Q I1 r1 q1)
/-- a op= e at a name: the name's slot i -/
theorem augR {op : Operator} {r : R2} (ho : OpR X (inplaceOp op) r) {pins : List (Addr × Obj)} {s : Shared} {σ : St} {H : Hp} {x y : V} {v u : Value} {Q : VK} (I : Inv X pins σ H s)
    (rx : RelV x v) (ry : RelV y u) (q : r x y H Q) : wpAny (model X.prog X.w) X.A (inplaceOp op v u) (EP X pins σ Q) X.xe s := ho pins s σ H x y v u Q I rx ry q

/-! ### ints -/
theorem opI {f : Value → Value → Sem Value} {C : Int → Int → Prop} {g : Int → Int → Int}
    (rule : ∀ (i j : Int) (t u : Tok) (s : Shared) (Q : Value → Shared → Prop) (E : Value → Shared → Prop), C i j → Q (.int (g i j) s.toks) { s with toks := s.toks + 1 } → wpAny (model X.prog X.w) X.A (f (.int i t) (.int j u)) Q E s) :
    OpR X f (rI C fun i j => .int (g i j)) := by
  intro pins s σ H x y v u Q I rx ry h
  obtain ⟨i, j, rfl, rfl, hc, q⟩ := h
  obtain ⟨t, rfl⟩ := rx
  obtain ⟨t', rfl⟩ := ry
  exact rule i j t t' s _ _ hc ⟨.int (g i j), H, I.tok _, ⟨_, rfl⟩, q⟩
theorem opI0 {f : Value → Value → Sem Value} {g : Int → Int → Int}
    (rule : ∀ (i j : Int) (t u : Tok) (s : Shared) (Q : Value → Shared → Prop) (E : Value → Shared → Prop), Q (.int (g i j) s.toks) { s with toks := s.toks + 1 } → wpAny (model X.prog X.w) X.A (f (.int i t) (.int j u)) Q E s) :
    OpR X f (rI0 fun i j => .int (g i j)) := by
  intro pins s σ H x y v u Q I rx ry h
  obtain ⟨i, j, rfl, rfl, q⟩ := h
  obtain ⟨t, rfl⟩ := rx
  obtain ⟨t', rfl⟩ := ry
  exact rule i j t t' s _ _ ⟨.int (g i j), H, I.tok _, ⟨_, rfl⟩, q⟩
theorem opB0 {f : Value → Value → Sem Value} {g : Int → Int → Bool}
    (rule : ∀ (i j : Int) (t u : Tok) (s : Shared) (Q : Value → Shared → Prop) (E : Value → Shared → Prop), Q (.bool (g i j)) s → wpAny (model X.prog X.w) X.A (f (.int i t) (.int j u)) Q E s) :
    OpR X f (rI0 fun i j => .bl (g i j)) := by
  intro pins s σ H x y v u Q I rx ry h
  obtain ⟨i, j, rfl, rfl, q⟩ := h
  obtain ⟨t, rfl⟩ := rx
  obtain ⟨t', rfl⟩ := ry
  exact rule i j t t' s _ _ ⟨.bl (g i j), H, I, rfl, q⟩

def CDiv (i j : Int) : Prop := 0 < j ∧ j < 1073741824
def CDivN (i j : Int) : Prop := j ≠ 0 ∧ j.natAbs < 1073741824
def CPow (i j : Int) : Prop := 0 ≤ j ∧ j ≤ 1000000 ∧ i.natAbs < 2 ^ 64
def CMul (i j : Int) : Prop := (-(2 ^ 64) < i ∧ i < 2 ^ 64) ∨ (-(2 ^ 64) < j ∧ j < 2 ^ 64)
theorem CMul.ok {i j : Int} (h : CMul i j) : IntMulOk i j := by
  rcases h with ⟨h1, h2⟩ | ⟨h1, h2⟩
  · exact .of_left (intBits_le_64 h1 h2)
  · exact .of_right (intBits_le_64 h1 h2)
theorem two_pow_nn (k : Nat) : (0 : Int) ≤ 2 ^ k := by
  rw [two_pow_cast]
  exact Int.natCast_nonneg _

theorem op_add : OpR X (binaryOp .Add) (rI0 fun i j => .int (i + j)) := opI0 fun _ _ _ _ _ _ _ q => add_int q
theorem op_sub : OpR X (binaryOp .Sub) (rI0 fun i j => .int (i - j)) := opI0 fun _ _ _ _ _ _ _ q => sub_int q
theorem op_mul : OpR X (binaryOp .Mult) (rI CMul fun i j => .int (i * j)) := opI fun _ _ _ _ _ _ _ hc q => mul_int q hc.ok
/-- // by a positive divisor -/
theorem op_fdiv : OpR X (binaryOp .FloorDiv) (rI CDiv fun i j => .int (i / j)) := opI fun i j _ _ _ _ _ hc q => by
  have h1 : (0 : Int) < j := hc.1
  have h2 : j < 1073741824 := hc.2
  exact floordiv_int (by omega) (by rw [Int.fdiv_eq_ediv_of_nonneg i (by omega)]; exact q) (.inl (PyProof.noPylong_small (by omega)))
theorem op_fdivN : OpR X (binaryOp .FloorDiv) (rI CDivN fun i j => .int (i.fdiv j)) := opI fun _ _ _ _ _ _ _ hc q => floordiv_int hc.1 q (.inl (PyProof.noPylong_small hc.2))
/-- % by a positive divisor of any size -/
theorem op_mod : OpR X (binaryOp .Mod) (rI (fun _ j => 0 < j) fun i j => .int (i % j)) := opI fun i j _ _ _ _ _ hc q => by
  have h1 : (0 : Int) < j := hc
  exact mod_int' (by omega) (by rw [Int.fmod_eq_emod_of_nonneg i (by omega)]; exact q)
theorem op_modN : OpR X (binaryOp .Mod) (rI (fun _ j => j ≠ 0) fun i j => .int (i.fmod j)) := opI fun _ _ _ _ _ _ _ hc q => mod_int' hc q
theorem op_pow : OpR X (binaryOp .Pow) (rI CPow fun i j => .int (i ^ j.toNat)) := opI fun _ _ _ _ _ _ _ hc q => pow_int_small hc.1 hc.2.1 hc.2.2 q
theorem op_shl : OpR X (binaryOp .LShift) (rI CPow fun i j => .int (i * 2 ^ j.toNat)) := opI fun _ _ _ _ _ _ _ hc q => lshift_int_small hc.1 hc.2.1 hc.2.2 q
theorem op_shr : OpR X (binaryOp .RShift) (rI (fun _ j => 0 ≤ j) fun i j => .int (i / 2 ^ j.toNat)) := opI fun i j _ _ _ _ _ hc q =>
  rshift_int hc (by rw [Int.fdiv_eq_ediv_of_nonneg i (two_pow_nn _)]; exact q)
theorem op_and : OpR X (binaryOp .BitAnd) (rI0 fun i j => .int (Builtin.bitAnd i j)) := opI0 fun _ _ _ _ _ _ _ q => and_int q
theorem op_or : OpR X (binaryOp .BitOr) (rI0 fun i j => .int (Builtin.bitOr i j)) := opI0 fun _ _ _ _ _ _ _ q => or_int q
theorem op_xor : OpR X (binaryOp .BitXor) (rI0 fun i j => .int (Builtin.bitXor i j)) := opI0 fun _ _ _ _ _ _ _ q => xor_int q

theorem iop_add : OpR X (inplaceOp .Add) (rI0 fun i j => .int (i + j)) := opI0 fun _ _ _ _ _ _ _ q => iadd_int q
theorem iop_sub : OpR X (inplaceOp .Sub) (rI0 fun i j => .int (i - j)) := opI0 fun _ _ _ _ _ _ _ q => isub_int q
theorem iop_mul : OpR X (inplaceOp .Mult) (rI CMul fun i j => .int (i * j)) := opI fun _ _ _ _ _ _ _ hc q => imul_int q hc.ok
theorem iop_fdiv : OpR X (inplaceOp .FloorDiv) (rI CDiv fun i j => .int (i / j)) := opI fun i j _ _ _ _ _ hc q => by
  have h1 : (0 : Int) < j := hc.1
  have h2 : j < 1073741824 := hc.2
  exact ifloordiv_int (by omega) (by rw [Int.fdiv_eq_ediv_of_nonneg i (by omega)]; exact q) (.inl (PyProof.noPylong_small (by omega)))
theorem iop_mod : OpR X (inplaceOp .Mod) (rI (fun _ j => 0 < j) fun i j => .int (i % j)) := opI fun i j _ _ _ _ _ hc q => by
  have h1 : (0 : Int) < j := hc
  exact imod_int (by omega) (by rw [Int.fmod_eq_emod_of_nonneg i (by omega)]; exact q)
theorem iop_shl : OpR X (inplaceOp .LShift) (rI CPow fun i j => .int (i * 2 ^ j.toNat)) := opI fun _ _ _ _ _ _ _ hc q => ilshift_int_small hc.1 hc.2.1 hc.2.2 q
theorem iop_shr : OpR X (inplaceOp .RShift) (rI (fun _ j => 0 ≤ j) fun i j => .int (i / 2 ^ j.toNat)) := opI fun i j _ _ _ _ _ hc q =>
  irshift_int hc (by rw [Int.fdiv_eq_ediv_of_nonneg i (two_pow_nn _)]; exact q)
theorem iop_and : OpR X (inplaceOp .BitAnd) (rI0 fun i j => .int (Builtin.bitAnd i j)) := opI0 fun _ _ _ _ _ _ _ q => iand_int q
theorem iop_or : OpR X (inplaceOp .BitOr) (rI0 fun i j => .int (Builtin.bitOr i j)) := opI0 fun _ _ _ _ _ _ _ q => ior_int q
theorem iop_xor : OpR X (inplaceOp .BitXor) (rI0 fun i j => .int (Builtin.bitXor i j)) := opI0 fun _ _ _ _ _ _ _ q => ixor_int q

theorem unI {f : Value → Sem Value} {g : Int → Int}
    (rule : ∀ (i : Int) (t : Tok) (s : Shared) (Q : Value → Shared → Prop) (E : Value → Shared → Prop), Q (.int (g i) s.toks) { s with toks := s.toks + 1 } → wpAny (model X.prog X.w) X.A (f (.int i t)) Q E s) :
    UnR X f (rU fun i => .int (g i)) := by
  intro pins s σ H x v Q I rx h
  obtain ⟨i, rfl, q⟩ := h
  obtain ⟨t, rfl⟩ := rx
  exact rule i t s _ _ ⟨.int (g i), H, I.tok _, ⟨_, rfl⟩, q⟩
theorem un_neg : UnR X (unaryOp .USub) (rU fun i => .int (-i)) := unI fun _ _ _ _ _ q => neg_int q
theorem un_inv : UnR X (unaryOp .Invert) (rU fun i => .int (Builtin.bitNot i)) := unI fun _ _ _ _ _ q => invert_int q

/-! ### bools among ints: n += (a < b) -/
theorem op_add_ib : OpR X (binaryOp .Add) (fun x y H Q => ∃ i k, x = .int i ∧ y = .bl k ∧ Q (.int (i + b2i k)) H) := by
  intro pins s σ H x y v u Q I rx ry h
  obtain ⟨i, k, rfl, rfl, q⟩ := h
  obtain ⟨t, rfl⟩ := rx
  cases ry
  exact add_int_bool ⟨.int (i + b2i k), H, I.tok _, ⟨_, rfl⟩, q⟩
end

/-! ### comparisons -/
/-- the scalars that == tells apart as data does -/
def scal : V → V → Bool
  | .non, .non => true | .non, .int _ => true | .int _, .non => true | .non, .bl _ => true | .bl _, .non => true | .non, .str _ => true | .str _, .non => true
  | .int _, .int _ => true | .bl _, .bl _ => true | .str _, .str _ => true | .byt _, .byt _ => true
  | .int _, .str _ => true | .str _, .int _ => true | .bl _, .str _ => true | .str _, .bl _ => true
  | _, _ => false
def rEq : R2 := fun x y H Q => scal x y = true ∧ Q (.bl (decide (x = y))) H
def rNe : R2 := fun x y H Q => scal x y = true ∧ Q (.bl (!decide (x = y))) H

theorem dec_int {i j : Int} : decide (V.int i = V.int j) = (i == j) := by
  rw [Bool.eq_iff_iff]
  simp
theorem dec_bl {i j : Bool} : decide (V.bl i = V.bl j) = (i == j) := by
  rw [Bool.eq_iff_iff]
  simp
theorem dec_str {i j : Str} : decide (V.str i = V.str j) = (i == j) := by
  rw [Bool.eq_iff_iff]
  simp
theorem dec_byt {i j : Array UInt8} : decide (V.byt i = V.byt j) = (i.toList == j.toList) := by
  rw [Bool.eq_iff_iff]
  cases i
  cases j
  simp

section
variable {X : Cx} {a b c : Expr} {ta tb tc : TE} {pos : Pos}
theorem fin_bl {pins : List (Addr × Obj)} {σ : St} {H : Hp} {s : Shared} {Q : VK} {k k' : Bool} (I : Inv X pins σ H s) (q : Q (.bl k) H) (e : k = k') : EP X pins σ Q (.bool k') s := by
  subst e
  exact ⟨.bl k, H, I, rfl, q⟩
theorem op_eq : OpR X (compareOp .Eq) rEq := by
  intro pins s σ H x y v u Q I rx ry h
  obtain ⟨hs, q⟩ := h
  cases x with
  | non =>
    cases rx
    cases y with
    | non => cases ry; exact PySem.EqNone.eq_none_none (fin_bl I q (by simp))
    | bl j => cases ry; exact PySem.EqNone.eq_none_bool (fin_bl I q (by simp))
    | int j => obtain ⟨t', rfl⟩ := ry; exact PySem.EqNone.eq_none_int (fin_bl I q (by simp))
    | str j => obtain ⟨t', rfl⟩ := ry; exact PySem.EqNone.eq_none_str (fin_bl I q (by simp))
    | _ => exact absurd (show false = true from hs) Bool.false_ne_true
  | bl i =>
    cases rx
    cases y with
    | non => cases ry; exact PySem.EqNone.eq_bool_none (fin_bl I q (by simp))
    | bl j => cases ry; exact eq_bool (fin_bl I q dec_bl)
    | str j => obtain ⟨t', rfl⟩ := ry; exact PySem.EqMixed.eq_bool_str (fin_bl I q (by simp))
    | _ => exact absurd (show false = true from hs) Bool.false_ne_true
  | int i =>
    obtain ⟨t, rfl⟩ := rx
    cases y with
    | non => cases ry; exact PySem.EqNone.eq_int_none (fin_bl I q (by simp))
    | int j => obtain ⟨t', rfl⟩ := ry; exact eq_int (fin_bl I q dec_int)
    | str j => obtain ⟨t', rfl⟩ := ry; exact PySem.EqMixed.eq_int_str (fin_bl I q (by simp))
    | _ => exact absurd (show false = true from hs) Bool.false_ne_true
  | str i =>
    obtain ⟨t, rfl⟩ := rx
    cases y with
    | non => cases ry; exact PySem.EqNone.eq_str_none (fin_bl I q (by simp))
    | bl j => cases ry; exact PySem.EqMixed.eq_str_bool (fin_bl I q (by simp))
    | int j => obtain ⟨t', rfl⟩ := ry; exact PySem.EqMixed.eq_str_int (fin_bl I q (by simp))
    | str j => obtain ⟨t', rfl⟩ := ry; exact eq_str (fin_bl I q dec_str)
    | _ => exact absurd (show false = true from hs) Bool.false_ne_true
  | byt i =>
    obtain ⟨t, rfl⟩ := rx
    cases y with
    | byt j => obtain ⟨t', rfl⟩ := ry; exact PySem.W.eq_bytes (fin_bl I q dec_byt)
    | _ => exact absurd (show false = true from hs) Bool.false_ne_true
  | _ => cases y <;> exact absurd (show false = true from hs) Bool.false_ne_true
theorem op_ne : OpR X (compareOp .NotEq) rNe := by
  intro pins s σ H x y v u Q I rx ry h
  obtain ⟨hs, q⟩ := h
  cases x with
  | non =>
    cases rx
    cases y with
    | non => cases ry; exact PySem.EqNone.ne_none_none (fin_bl I q (by simp))
    | bl j => cases ry; exact PySem.EqNone.ne_none_bool (fin_bl I q (by simp))
    | int j => obtain ⟨t', rfl⟩ := ry; exact PySem.EqNone.ne_none_int (fin_bl I q (by simp))
    | str j => obtain ⟨t', rfl⟩ := ry; exact PySem.EqNone.ne_none_str (fin_bl I q (by simp))
    | _ => exact absurd (show false = true from hs) Bool.false_ne_true
  | bl i =>
    cases rx
    cases y with
    | non => cases ry; exact PySem.EqNone.ne_bool_none (fin_bl I q (by simp))
    | bl j => cases ry; exact ne_bool (fin_bl I q (congrArg not dec_bl))
    | str j => obtain ⟨t', rfl⟩ := ry; exact PySem.EqMixed.ne_bool_str (fin_bl I q (by simp))
    | _ => exact absurd (show false = true from hs) Bool.false_ne_true
  | int i =>
    obtain ⟨t, rfl⟩ := rx
    cases y with
    | non => cases ry; exact PySem.EqNone.ne_int_none (fin_bl I q (by simp))
    | int j => obtain ⟨t', rfl⟩ := ry; exact ne_int (fin_bl I q (congrArg not dec_int))
    | str j => obtain ⟨t', rfl⟩ := ry; exact PySem.EqMixed.ne_int_str (fin_bl I q (by simp))
    | _ => exact absurd (show false = true from hs) Bool.false_ne_true
  | str i =>
    obtain ⟨t, rfl⟩ := rx
    cases y with
    | non => cases ry; exact PySem.EqNone.ne_str_none (fin_bl I q (by simp))
    | bl j => cases ry; exact PySem.EqMixed.ne_str_bool (fin_bl I q (by simp))
    | int j => obtain ⟨t', rfl⟩ := ry; exact PySem.EqMixed.ne_str_int (fin_bl I q (by simp))
    | str j => obtain ⟨t', rfl⟩ := ry; exact ne_str (fin_bl I q (congrArg not dec_str))
    | _ => exact absurd (show false = true from hs) Bool.false_ne_true
  | byt i =>
    obtain ⟨t, rfl⟩ := rx
    cases y with
    | byt j => obtain ⟨t', rfl⟩ := ry; exact PySem.W.ne_bytes (fin_bl I q (congrArg not dec_byt))
    | _ => exact absurd (show false = true from hs) Bool.false_ne_true
  | _ => cases y <;> exact absurd (show false = true from hs) Bool.false_ne_true

theorem op_lt : OpR X (compareOp .Lt) (rI0 fun i j => .bl (decide (i < j))) := opB0 fun _ _ _ _ _ _ _ q => lt_int q
theorem op_le : OpR X (compareOp .LtE) (rI0 fun i j => .bl (decide (i ≤ j))) := opB0 fun _ _ _ _ _ _ _ q => le_int q
theorem op_gt : OpR X (compareOp .Gt) (rI0 fun i j => .bl (decide (j < i))) := opB0 fun _ _ _ _ _ _ _ q => gt_int q
theorem op_ge : OpR X (compareOp .GtE) (rI0 fun i j => .bl (decide (j ≤ i))) := opB0 fun _ _ _ _ _ _ _ q => ge_int q
theorem op_lt_str : OpR X (compareOp .Lt) (fun x y H Q => ∃ i j, x = .str i ∧ y = .str j ∧ Q (.bl (decide (i.cps.toList < j.cps.toList))) H) := by
  intro pins s σ H x y v u Q I rx ry h
  obtain ⟨i, j, rfl, rfl, q⟩ := h
  obtain ⟨t, rfl⟩ := rx
  obtain ⟨t', rfl⟩ := ry
  exact lt_str (fin_bl I q rfl)
/-- the one string within the other -/
theorem op_in_str : OpR X (compareOp .In) (fun x y H Q => ∃ i j, x = .str i ∧ y = .str j ∧ Q (.bl (!(Builtin.Str.occurrences j i 0 j.length 1).isEmpty)) H) := by
  intro pins s σ H x y v u Q I rx ry h
  obtain ⟨i, j, rfl, rfl, q⟩ := h
  obtain ⟨t, rfl⟩ := rx
  obtain ⟨t', rfl⟩ := ry
  exact in_str (fin_bl I q rfl)

/-- is None, is not None: the right side a value none -/
theorem op_isN : OpR X (compareOp .Is) (fun x y H Q => y = .non ∧ Q (.bl (decide (x = .non))) H) := by
  intro pins s σ H x y v u Q I rx ry h
  obtain ⟨rfl, q⟩ := h
  cases ry
  refine is_none_gen (fin_bl I q ?_)
  cases x <;> first
    | (cases rx; rfl)
    | (obtain ⟨t, rfl⟩ := rx; rfl)
theorem op_notN : OpR X (compareOp .IsNot) (fun x y H Q => y = .non ∧ Q (.bl (!decide (x = .non))) H) := by
  intro pins s σ H x y v u Q I rx ry h
  obtain ⟨rfl, q⟩ := h
  cases ry
  refine isnot_none_gen (fin_bl I q ?_)
  cases x <;> first
    | (cases rx; rfl)
    | (obtain ⟨t, rfl⟩ := rx; rfl)

theorem op_notin_str : OpR X (compareOp .NotIn) (fun x y H Q => ∃ i j, x = .str i ∧ y = .str j ∧ Q (.bl (!(!(Builtin.Str.occurrences j i 0 j.length 1).isEmpty))) H) := by
  intro pins s σ H x y v u Q I rx ry h
  obtain ⟨i, j, rfl, rfl, q⟩ := h
  obtain ⟨t, rfl⟩ := rx
  obtain ⟨t', rfl⟩ := ry
  exact notIn_str (fin_bl I q rfl)
/-- is, is not of two objects that are tracked lists or instances -/
def isObj : HO → Bool
  | .lst _ => true
  | .ins _ _ _ => true
  | _ => false
theorem obj_there {pins : List (Addr × Obj)} {s : Shared} {σ : St} {H : Hp} {a : Addr} {o : HO} (I : Inv X pins σ H s) (h : H a = some o) (p : isObj o = true) : ∃ ob, s.heap.get? a = some ob ∧ ob.cls ≠ .type "tuple" := by
  cases o with
  | lst xs =>
    obtain ⟨_, its, n, _, e⟩ : xs.length ≤ sizeLine ∧ ∃ (its : List Value) (n : Nat), Vals xs its ∧ s.heap.get? a = some { cls := .type "list", data := .seq its.toArray n } := I.hok a _ h
    exact ⟨_, e, (by show Value.type "list" ≠ .type "tuple"; decide +kernel)⟩
  | ins C dx fs =>
    have x := I.hok a _ h
    obtain ⟨_, _, _, e, _⟩ := x
    exact ⟨_, e, (by show Value.ref C ≠ .type "tuple"; exact fun z => by cases z)⟩
  | _ => exact absurd (show false = true from p) Bool.false_ne_true
theorem op_is_ref : OpR X (compareOp .Is) (fun x y H Q => ∃ a b oa ob, x = .ref a ∧ y = .ref b ∧ H a = some oa ∧ isObj oa = true ∧ H b = some ob ∧ isObj ob = true ∧ Q (.bl (decide (a = b))) H) := by
  intro pins s σ H x y v u Q I rx ry h
  obtain ⟨a, b, oa, ob, rfl, rfl, ha, pa, hb, pb, q⟩ := h
  cases rx
  cases ry
  obtain ⟨o1, e1, n1⟩ := obj_there I ha pa
  obtain ⟨o2, e2, _⟩ := obj_there I hb pb
  by_cases z : a = b
  · subst z
    exact wpAny_is_ref_self (fin_bl I q (by simp))
  · exact wpAny_is_ref_other z e1 e2 n1 (fin_bl I q (by simp [z]))
theorem op_isnot_ref : OpR X (compareOp .IsNot) (fun x y H Q => ∃ a b oa ob, x = .ref a ∧ y = .ref b ∧ H a = some oa ∧ isObj oa = true ∧ H b = some ob ∧ isObj ob = true ∧ Q (.bl (!decide (a = b))) H) := by
  intro pins s σ H x y v u Q I rx ry h
  obtain ⟨a, b, oa, ob, rfl, rfl, ha, pa, hb, pb, q⟩ := h
  cases rx
  cases ry
  obtain ⟨o1, e1, n1⟩ := obj_there I ha pa
  obtain ⟨o2, e2, _⟩ := obj_there I hb pb
  by_cases z : a = b
  · subst z
    exact wpAny_isNot_ref_self (fin_bl I q (by simp))
  · exact wpAny_isNot_ref_other z e1 e2 n1 (fin_bl I q (by simp [z]))

/-- two rules for one operation: by cases -/
theorem OpR.or {f : Value → Value → Sem Value} {r r' : R2} (h : OpR X f r) (h' : OpR X f r') : OpR X f (fun x y H Q => r x y H Q ∨ r' x y H Q) := by
  intro pins s σ H x y v u Q I rx ry q
  rcases q with q | q
  · exact h pins s σ H x y v u Q I rx ry q
  · exact h' pins s σ H x y v u Q I rx ry q

theorem nomark (b : Expr) {op : CmpOp} (h : op ≠ .In := by decide) (h2 : op ≠ .NotIn := by decide) : behindInMarks op b = false := by
  have e1 : (op == CmpOp.In) = false := by cases op <;> first | rfl | exact absurd rfl h
  have e2 : (op == CmpOp.NotIn) = false := by cases op <;> first | rfl | exact absurd rfl h2
  cases b <;> simp [behindInMarks, e1, e2]
/-- a comparison as a value; hm: nomark b, or (for in, not in) by with_unfolding_all rfl -/
theorem pe_cmpR {op : CmpOp} {r : R2} (ho : OpR X (compareOp op) r) (ha : PE X a ta) (hb : PE X b tb) (hm : behindInMarks op b = false) : PE X (.Compare a [op] [b] pos) (tOp r ta tb) := by
  intro pins s σ H Q I h
  exact wpAny_Compare1 (binT ha hb I h fun v u s2 x y H2 I2 rx ry q => ho pins s2 σ H2 x y v u Q I2 rx ry q) hm
/-- a reading of a value as a test -/
def tTest (t : TE) : TT := fun σ H Q => t σ H fun x H' => ∃ k, x = .bl k ∧ Q k H'
theorem pt_cmpR {op : CmpOp} {r : R2} (ho : OpR X (compareOp op) r) (ha : PE X a ta) (hb : PE X b tb) (hm : behindInMarks op b = false) : PT X (.Compare a [op] [b] pos) (tTest (tOp r ta tb)) := by
  intro pins s σ H Q I h
  refine wpAny_isTrue_Compare1 (thn (ha pins s σ H _ I h) fun v s1 ⟨x, H1, I1, r1, q1⟩ => thn (hb pins s1 σ H1 _ I1 q1) fun u s2 ⟨y, H2, I2, r2, q2⟩ =>
    thn (ho pins s2 σ H2 x y v u _ I2 r1 r2 q2) fun c s3 ⟨z, H3, I3, r3, k, e, q3⟩ => ?_) hm
  subst e
  cases r3
  exact wpAny_truthy_bool ⟨H3, I3, q3⟩
/-- a op1 b op2 c -/
def tChain (r r' : R2) (ta tb tc : TE) : TE := fun σ H Q => ta σ H fun x H1 => tb σ H1 fun y H2 => r x y H2 fun z H3 => ∃ k, z = .bl k ∧
  (if k = true then tc σ H3 fun w' H4 => r' y w' H4 Q else Q (.bl false) H3)
theorem pe_chain {op op' : CmpOp} {r r' : R2} (ho : OpR X (compareOp op) r) (ho' : OpR X (compareOp op') r') (ha : PE X a ta) (hb : PE X b tb) (hc : PE X c tc)
    (hm : lastMarks [op, op'] [b, c] = false := by with_unfolding_all rfl) : PE X (.Compare a [op, op'] [b, c] pos) (tChain r r' ta tb tc) := by
  intro pins s σ H Q I h
  refine Compare_chain (thn (ha pins s σ H _ I h) fun v s1 ⟨x, H1, I1, r1, q1⟩ => chain_link (thn (hb pins s1 σ H1 _ I1 q1) fun u s2 ⟨y, H2, I2, r2, q2⟩ =>
    thn (ho pins s2 σ H2 x y v u _ I2 r1 r2 q2) fun d s3 ⟨z, H3, I3, r3, k, e, q3⟩ => ?_)) hm
  subst e
  cases r3
  refine wpAny_truthy_bool ?_
  cases k with
  | false => exact ite_ff ⟨.bl false, H3, I3, rfl, q3⟩
  | true => exact ite_tt (chain_last (thn (hc pins s3 σ H3 _ I3 q3) fun w' s4 ⟨z', H4, I4, r4, q4⟩ => ho' pins s4 σ H4 y z' u w' Q I4 r2 r4 q4))
theorem pt_chain {op op' : CmpOp} {r r' : R2} (ho : OpR X (compareOp op) r) (ho' : OpR X (compareOp op') r') (ha : PE X a ta) (hb : PE X b tb) (hc : PE X c tc)
    (hm : lastMarks [op, op'] [b, c] = false := by with_unfolding_all rfl) : PT X (.Compare a [op, op'] [b, c] pos) (tTest (tChain r r' ta tb tc)) := by
  intro pins s σ H Q I h
  refine isTrue_chain (thn (ha pins s σ H _ I h) fun v s1 ⟨x, H1, I1, r1, q1⟩ => test_link (thn (hb pins s1 σ H1 _ I1 q1) fun u s2 ⟨y, H2, I2, r2, q2⟩ =>
    thn (ho pins s2 σ H2 x y v u _ I2 r1 r2 q2) fun d s3 ⟨z, H3, I3, r3, k, e, q3⟩ => ?_)) hm
  subst e
  cases r3
  refine wpAny_truthy_bool ?_
  cases k with
  | false =>
    obtain ⟨k', e', q'⟩ := q3
    cases e'
    exact ite_ff ⟨H3, I3, q'⟩
  | true =>
    refine ite_tt (test_last (thn (hc pins s3 σ H3 _ I3 q3) fun w' s4 ⟨z', H4, I4, r4, q4⟩ => thn (ho' pins s4 σ H4 y z' u w' _ I4 r2 r4 q4) fun d' s5 ⟨z2, H5, I5, r5, k2, e2, q5⟩ => ?_))
    subst e2
    cases r5
    exact wpAny_truthy_bool ⟨H5, I5, q5⟩

/-! ### truth -/
/-- a value's truth by the abstract heap -/
def TruV (K : PySem.W.Frag) (x : V) (H : Hp) (k : Bool) : Prop :=
  match x with
  | .non => k = false
  | .bl b => k = b
  | .int i => k = (i != 0)
  | .str y => y.length ≤ sizeLine ∧ k = ((y.length : Int) != 0)
  | .byt y => y.size ≤ sizeLine ∧ k = ((y.size : Int) != 0)
  | .ref p => (∃ xs, SqL K H p xs ∧ k = !xs.isEmpty) ∨ (∃ xs, SqT K H p xs ∧ k = !xs.isEmpty) ∨ ∃ kvs, H p = some (.dK kvs) ∧ k = !kvs.isEmpty
  | _ => False
theorem isEmpty_kv {κ : Type} {kvs : List (κ × V)} {vs : List (κ × Value)} (r : KV kvs vs) : (!vs.isEmpty) = !kvs.isEmpty := by
  cases r <;> rfl
theorem isEmpty_of {xs : List V} {its : List Value} (r : Vals xs its) : (!its.toArray.isEmpty) = !xs.isEmpty := by
  cases r <;> simp
theorem line63 : (sizeLine : Nat) < 2 ^ 63 := by rw [sizeLine_eq]; decide
theorem tru_ok : TruR X (fun x H Q => ∃ k, TruV X.K x H k ∧ Q k H) := by
  intro pins s σ H x v Q I rx h
  obtain ⟨k, e, q⟩ := h
  have hl := line63
  have hs : sizeLine = 16777216 := sizeLine_eq
  cases x with
  | non =>
    cases rx
    have e' : k = false := e
    subst e'
    exact truthy_none ⟨H, I, q⟩
  | bl b =>
    cases rx
    have e' : k = b := e
    subst e'
    exact wpAny_truthy_bool ⟨H, I, q⟩
  | int i =>
    obtain ⟨t, rfl⟩ := rx
    have e' : k = (i != 0) := e
    subst e'
    exact PySem.P.truthy_int ⟨H, I, q⟩
  | str y =>
    obtain ⟨t, rfl⟩ := rx
    obtain ⟨hy, e'⟩ : y.length ≤ sizeLine ∧ k = ((y.length : Int) != 0) := e
    subst e'
    exact PySem.P.truthy_str (by omega) ⟨H, I.tok _, q⟩
  | byt y =>
    obtain ⟨t, rfl⟩ := rx
    obtain ⟨hy, e'⟩ : y.size ≤ sizeLine ∧ k = ((y.size : Int) != 0) := e
    subst e'
    exact PySem.W.truthy_bytes (by omega) ⟨H, I.tok _, q⟩
  | ref p =>
    cases rx
    have e' : (∃ xs, SqL X.K H p xs ∧ k = !xs.isEmpty) ∨ (∃ xs, SqT X.K H p xs ∧ k = !xs.isEmpty) ∨ ∃ kvs, H p = some (.dK kvs) ∧ k = !kvs.isEmpty := e
    rcases e' with ⟨xs, hx, e'⟩ | ⟨xs, hx, e'⟩ | ⟨kvs, hx, e'⟩
    · subst e'
      obtain ⟨its, r, pl, hz⟩ := I.list hx
      have hlen := r.length
      exact wpAny_truthy_list pl.isList (by simp only [List.size_toArray]; omega) ⟨H, I.tok _, by rw [isEmpty_of r]; exact q⟩
    · subst e'
      obtain ⟨its, r, pl, hz⟩ := I.tuple hx
      have hlen := r.length
      exact truthy_tuple pl (by simp only [List.size_toArray]; omega) ⟨H, I.tok _, by rw [isEmpty_of r]; exact q⟩
    · subst e'
      obtain ⟨hz, hS, vs, r, m⟩ : kvs.length ≤ sizeLine ∧ (p == sysModules) = false ∧ ∃ vs, KV kvs vs ∧ s.heap.DictOf (mixKind X.prog X.w) p vs := I.hok p _ hx
      have hlen : kvs.length = vs.length := Paired.length r
      exact wpAny_truthy_dict hS m (by omega) ⟨H, I.tok _, by rw [isEmpty_kv r]; exact q⟩
  | _ => exact (show False from e).elim
/-- any expression whose test is its value's truth (a name, a call, a subscript, a field ..: he by fun _ => rfl) -/
theorem pt_truth (ha : PE X a ta) (he : ∀ whole, isTrue a X.env whole = (do let v ← whole; standAt a.pos; holding [v] (truthy v))) :
    PT X a (fun σ H Q => ta σ H fun x H' => ∃ k, TruV X.K x H' k ∧ Q k H') := by
  intro pins s σ H Q I h
  exact isTrue_plain (thn (ha pins s σ H _ I h) fun v s1 ⟨x, H1, I1, r1, q1⟩ => tru_ok pins s1 σ H1 x v Q I1 r1 q1) (he _)

/-! ### strs and bytes -/
theorem pe_byt {x : List UInt8} {k : Nat} : PE X (.Constant (.bytes x) k pos) (fun _ H Q => Q (.byt x.toArray) H) := fun _ _ _ H _ I h => PySem.W.Constant_bytes ⟨.byt x.toArray, H, I.tok _, ⟨_, rfl⟩, h⟩
theorem op_add_str : OpR X (binaryOp .Add) (fun x y H Q => ∃ i j, x = .str i ∧ y = .str j ∧ i.length + j.length ≤ sizeLine ∧ Q (.str (i ++ j)) H) := by
  intro pins s σ H x y v u Q I rx ry h
  obtain ⟨i, j, rfl, rfl, hz, q⟩ := h
  obtain ⟨t, rfl⟩ := rx
  obtain ⟨t', rfl⟩ := ry
  exact add_str (fun t' tk => ⟨.str (i ++ j), H, I.tok _, ⟨_, rfl⟩, q⟩) hz
theorem iop_add_str : OpR X (inplaceOp .Add) (fun x y H Q => ∃ i j, x = .str i ∧ y = .str j ∧ i.length + j.length ≤ sizeLine ∧ Q (.str (i ++ j)) H) := by
  intro pins s σ H x y v u Q I rx ry h
  obtain ⟨i, j, rfl, rfl, hz, q⟩ := h
  obtain ⟨t, rfl⟩ := rx
  obtain ⟨t', rfl⟩ := ry
  exact iadd_str (fun t' tk => ⟨.str (i ++ j), H, I.tok _, ⟨_, rfl⟩, q⟩) hz
theorem op_add_byt : OpR X (binaryOp .Add) (fun x y H Q => ∃ i j, x = .byt i ∧ y = .byt j ∧ i.size + j.size ≤ 16777216 ∧ Q (.byt (i ++ j)) H) := by
  intro pins s σ H x y v u Q I rx ry h
  obtain ⟨i, j, rfl, rfl, hz, q⟩ := h
  obtain ⟨t, rfl⟩ := rx
  obtain ⟨t', rfl⟩ := ry
  exact PySem.W.KBy.add_bytes hz (fun t' tk => ⟨.byt (i ++ j), H, I.tok _, ⟨_, rfl⟩, q⟩)

def PlainIxT (b : Expr) : Prop := ∀ o i, subscripted b false o i = operate [o, i] (getItem o i)
/-- s[i], 0 ≤ i < len -/
theorem pe_item_str (ha : PE X a ta) (hb : PE X b tb) (hs : PlainIxT b) :
    PE X (.Subscript a b pos) (tOp (fun x y H Q => ∃ z i c, x = .str z ∧ y = .int i ∧ 0 ≤ i ∧ i < 2 ^ 63 ∧ i < z.length ∧ z.cps[i.toNat]? = some c ∧ Q (.str ⟨#[c]⟩) H) ta tb) := by
  intro pins s σ H Q I h
  refine Subscript_ (binT ha hb I h fun v u s2 x y H2 I2 rx ry q => ?_)
  obtain ⟨z, i, c, rfl, rfl, h0, h63, h1, hc, q⟩ := q
  obtain ⟨t, rfl⟩ := rx
  obtain ⟨t', rfl⟩ := ry
  have e : seqIndex? i z.length = some i.toNat := PySem.StrLaws.seqIndex_nonneg h0 h1
  exact tail_any (typeIs_str s2 z t) slot_str_getitem.lookup (getItem_str (c := c) (by
    have e1 : decide (i < -(2 ^ 63 : Int)) = false := decide_eq_false (by omega)
    have e2 : decide (i ≥ 2 ^ 63) = false := decide_eq_false (by omega)
    rw [e1, e2] <;> rfl) (by rw [e]; exact hc) ⟨.str ⟨#[c]⟩, H2, I2.tok _, ⟨_, rfl⟩, q⟩) (hs _ _)
/-- b[i], 0 ≤ i < len -/
theorem pe_item_byt (ha : PE X a ta) (hb : PE X b tb) (hs : PlainIxT b) :
    PE X (.Subscript a b pos) (tOp (fun x y H Q => ∃ (z : List UInt8) (i : Int), x = .byt z.toArray ∧ y = .int i ∧ z.length ≤ sizeLine ∧ 0 ≤ i ∧ i < z.length ∧ Q (.int ((z.getD i.toNat 0).toNat : Nat)) H) ta tb) := by
  intro pins s σ H Q I h
  refine Subscript_ (binT ha hb I h fun v u s2 x y H2 I2 rx ry q => ?_)
  obtain ⟨z, i, rfl, rfl, hz, h0, h1, q⟩ := q
  obtain ⟨t, rfl⟩ := rx
  obtain ⟨t', rfl⟩ := ry
  have hl : sizeLine = 16777216 := sizeLine_eq
  exact tail_any (PySem.W.typeIs_bytes s2 z.toArray t) PySem.W.FB.slot_bytes_getitem.lookup (PySem.W.getItem_bytes (by omega) h0 h1 ⟨.int ((z.getD i.toNat 0).toNat : Nat), H2, I2.tok _, ⟨_, rfl⟩, q⟩) (hs _ _)

/-! ### scalar builtins, by CallR -/
theorem vals1 {x : V} {us : List Value} (r : Vals [x] us) : ∃ u, us = [u] ∧ RelV x u := by
  cases r with
  | cons r1 r2 => cases r2; exact ⟨_, rfl, r1⟩
theorem vals2 {x y : V} {us : List Value} (r : Vals [x, y] us) : ∃ u w', us = [u, w'] ∧ RelV x u ∧ RelV y w' := by
  cases r with
  | cons r1 r2 =>
    cases r2 with
    | cons r3 r4 => cases r4; exact ⟨_, _, rfl, r1, r3⟩
theorem call_abs : CallR X (.builtin "abs") (fun xs H Q => ∃ i, xs = [.int i] ∧ Q (.int (if i < 0 then -i else i)) H) := by
  intro pins s σ H xs us Q I r h
  obtain ⟨i, rfl, q⟩ := h
  obtain ⟨u, rfl, t, rfl⟩ := vals1 r
  exact call_abs_int fun u tk => ⟨.int (if i < 0 then -i else i), H, I.tok _, ⟨_, rfl⟩, q⟩
theorem call_max2 (hc : X.calm = true) : CallR X (.builtin "max") (fun xs H Q => ∃ i j, xs = [.int i, .int j] ∧ Q (.int (if j > i then j else i)) H) := by
  intro pins s σ H xs us Q I r h
  obtain ⟨i, j, rfl, q⟩ := h
  obtain ⟨u, w', rfl, ⟨t, rfl⟩, ⟨t', rfl⟩⟩ := vals2 r
  refine max_two_ints (I.ok.hd hc) fun h' tk k => ⟨_, H, I.kept k, ?_, q⟩
  by_cases hj : j > i
  · rw [if_pos hj, if_pos hj]; exact ⟨_, rfl⟩
  · rw [if_neg hj, if_neg hj]; exact ⟨_, rfl⟩
theorem call_min2 (hc : X.calm = true) : CallR X (.builtin "min") (fun xs H Q => ∃ i j, xs = [.int i, .int j] ∧ Q (.int (if j < i then j else i)) H) := by
  intro pins s σ H xs us Q I r h
  obtain ⟨i, j, rfl, q⟩ := h
  obtain ⟨u, w', rfl, ⟨t, rfl⟩, ⟨t', rfl⟩⟩ := vals2 r
  refine min_two_ints (I.ok.hd hc) fun h' tk k => ⟨_, H, I.kept k, ?_, q⟩
  by_cases hj : j < i
  · rw [if_pos hj, if_pos hj]; exact ⟨_, rfl⟩
  · rw [if_neg hj, if_neg hj]; exact ⟨_, rfl⟩
theorem call_int1 : CallR X (.type "int") (fun xs H Q => (∃ i, xs = [.int i] ∧ Q (.int i) H) ∨ ∃ k, xs = [.bl k] ∧ Q (.int (if k then 1 else 0)) H) := by
  intro pins s σ H xs us Q I r h
  rcases h with ⟨i, rfl, q⟩ | ⟨k, rfl, q⟩
  · obtain ⟨u, rfl, t, rfl⟩ := vals1 r
    exact call_int_int ⟨.int i, H, I, ⟨_, rfl⟩, q⟩
  · obtain ⟨u, rfl, r1⟩ := vals1 r
    cases r1
    exact call_int_bool ⟨.int (if k then 1 else 0), H, I.tok _, ⟨_, rfl⟩, q⟩
theorem call_bool1 : CallR X (.type "bool") (fun xs H Q => (∃ i, xs = [.int i] ∧ Q (.bl (i != 0)) H) ∨ ∃ k, xs = [.bl k] ∧ Q (.bl k) H) := by
  intro pins s σ H xs us Q I r h
  rcases h with ⟨i, rfl, q⟩ | ⟨k, rfl, q⟩
  · obtain ⟨u, rfl, t, rfl⟩ := vals1 r
    exact call_bool_int ⟨.bl (i != 0), H, I, rfl, q⟩
  · obtain ⟨u, rfl, r1⟩ := vals1 r
    cases r1
    exact call_bool_bool ⟨.bl k, H, I, rfl, q⟩
theorem call_str_int : CallR X (.type "str") (fun xs H Q => ∃ i, xs = [.int i] ∧ i.natAbs.log2 < 1920 ∧ Q (.str (toString i)) H) := by
  intro pins s σ H xs us Q I r h
  obtain ⟨i, rfl, hz, q⟩ := h
  obtain ⟨u, rfl, t, rfl⟩ := vals1 r
  exact PySem.P.str_of_int hz ⟨.str _, H, I.tok _, ⟨_, rfl⟩, q⟩
theorem call_ord : CallR X (.builtin "ord") (fun xs H Q => ∃ x, xs = [.str x] ∧ x.length = 1 ∧ Q (.int (x.cps.getD 0 0 : Nat)) H) := by
  intro pins s σ H xs us Q I r h
  obtain ⟨x, rfl, hz, q⟩ := h
  obtain ⟨u, rfl, t, rfl⟩ := vals1 r
  exact ord_of_one hz ⟨.int _, H, I.tok _, ⟨_, rfl⟩, q⟩
theorem call_chr : CallR X (.builtin "chr") (fun xs H Q => ∃ i, xs = [.int i] ∧ 0 ≤ i ∧ i ≤ 1114111 ∧ Q (.str ⟨#[i.toNat]⟩) H) := by
  intro pins s σ H xs us Q I r h
  obtain ⟨i, rfl, h0, h1, q⟩ := h
  obtain ⟨u, rfl, t, rfl⟩ := vals1 r
  exact chr_of_range h0 h1 ⟨.str _, H, I.tok _, ⟨_, rfl⟩, q⟩
/-- len of a str, a bytes, a list, a tuple -/
def LenV (K : PySem.W.Frag) (x : V) (H : Hp) (n : Nat) : Prop :=
  match x with
  | .str y => y.length ≤ sizeLine ∧ n = y.length
  | .byt y => y.size ≤ sizeLine ∧ n = y.size
  | .ref p => (∃ xs, SqL K H p xs ∧ n = xs.length) ∨ ∃ xs, SqT K H p xs ∧ n = xs.length
  | _ => False
theorem call_len : CallR X (.builtin "len") (fun xs H Q => ∃ x n, xs = [x] ∧ LenV X.K x H n ∧ Q (.int n) H) := by
  intro pins s σ H xs us Q I r h
  obtain ⟨x, n, rfl, e, q⟩ := h
  obtain ⟨u, rfl, rx⟩ := vals1 r
  have hl := line63
  have hs : sizeLine = 16777216 := sizeLine_eq
  cases x with
  | str y =>
    obtain ⟨t, rfl⟩ := rx
    obtain ⟨hy, e'⟩ : y.length ≤ sizeLine ∧ n = y.length := e
    subst e'
    exact len_str (by omega) ⟨.int _, H, I.tok _, ⟨_, rfl⟩, q⟩
  | byt y =>
    obtain ⟨t, rfl⟩ := rx
    obtain ⟨hy, e'⟩ : y.size ≤ sizeLine ∧ n = y.size := e
    subst e'
    exact PySem.W.len_bytes (by omega) ⟨.int _, H, I.tok _, ⟨_, rfl⟩, q⟩
  | ref p =>
    cases rx
    have e' : (∃ xs, SqL X.K H p xs ∧ n = xs.length) ∨ ∃ xs, SqT X.K H p xs ∧ n = xs.length := e
    rcases e' with ⟨xs, hx, e'⟩ | ⟨xs, hx, e'⟩
    · subst e'
      obtain ⟨its, r', pl, hz⟩ := I.list hx
      have hlen := r'.length
      exact Calls.call_len_list pl.isList (by simp only [List.size_toArray]; omega) ⟨.int xs.length, H, I.tok _, ⟨_, by simp only [List.size_toArray]; rw [hlen]⟩, q⟩
    · subst e'
      obtain ⟨its, r', pl, hz⟩ := I.tuple hx
      have hlen := r'.length
      exact len_tuple pl (by simp only [List.size_toArray]; omega) ⟨.int xs.length, H, I.tok _, ⟨_, by simp only [List.size_toArray]; rw [hlen]⟩, q⟩
  | _ => exact (show False from e).elim
/-- divmod: a new tuple -/
theorem call_divmod : CallR X (.builtin "divmod") (fun xs H Q => ∃ i j, xs = [.int i, .int j] ∧ CDiv i j ∧ ∀ p, H p = none → Q (.ref p) (upd H p (.tup [.int (i / j), .int (i % j)]))) := by
  intro pins s σ H xs us Q I r h
  obtain ⟨i, j, rfl, ⟨h1, h2⟩, q⟩ := h
  obtain ⟨u, w', rfl, ⟨t, rfl⟩, ⟨t', rfl⟩⟩ := vals2 r
  refine divmod_int (by omega) ?_ (.inl (PyProof.noPylong_small (by omega)))
  rw [Int.fdiv_eq_ediv_of_nonneg i (by omega), Int.fmod_eq_emod_of_nonneg i (by omega)]
  have hn : H s.heap.objs.size = none := I.hok.fresh (Nat.le_refl _)
  refine ⟨.ref s.heap.objs.size, _, ?_, rfl, q _ hn⟩
  refine I.laid (fun b o e => Heap.get?_push_of_some _ e) (Nat.le_refl _) ⟨by simp only [List.length_cons, List.length_nil]; rw [sizeLine_eq]; decide, [.int (i / j) s.toks, .int (i % j) (s.toks + 1)], .cons ⟨_, rfl⟩ (.cons ⟨_, rfl⟩ .nil), ?_⟩
  exact ⟨_, Heap.get?_push_size s.heap rfl, rfl, 0, rfl⟩
end
end L2

namespace L2
open PySem PySem.Spec PyProof.Rows

/-! ### an instance, its attributes a map -/
structure ObjM (h : Heap) (x dx C : Addr) (mA : Str → Option Value) : Prop where
  obj : h.get? x = some (PySem.W.instObj C dx)
  ns : h.Ns1 dx mA
  ne : dx ≠ x

theorem lookIn_ns {h : Heap} {dx : Addr} {mA : Str → Option Value} (n : h.Ns1 dx mA) : ∃ od, h.get? dx = some od ∧ ∀ name, PySem.W.lookIn name od = some (mA name) := by
  obtain ⟨o, es, ep, ho, hd, hk, _, hm⟩ := n
  refine ⟨o, ho, fun name => ?_⟩
  have e := hm name
  unfold nsFind findBy at e
  rw [← Array.find?_toList] at e
  unfold PySem.W.lookIn
  rw [hd]
  dsimp only
  split
  · rename_i y q
    rw [q] at e
    exact congrArg some e
  · rename_i q
    rw [q] at e
    have a : es.toList.any (·.refKey) = false := by
      rw [List.any_eq_false]
      intro y hy
      obtain ⟨z, t, hkey⟩ := hk y (Array.mem_toList_iff.mp hy)
      simp [DictEntry.refKey, hkey]
    have a' : ¬ es.toList.any (·.refKey) = true := by rw [a]; exact Bool.false_ne_true
    rw [if_neg a']
    exact congrArg some e

theorem ObjM.look {h : Heap} {x dx C : Addr} {mA : Str → Option Value} (I : ObjM h x dx C mA) : ∃ od, PySem.W.InstAt h x (PySem.W.instObj C dx) C (some od) ∧ ∀ name, PySem.W.lookIn name od = some (mA name) :=
  let ⟨od, ho, hl⟩ := lookIn_ns I.ns
  ⟨od, ⟨I.obj, rfl, rfl, ho⟩, hl⟩

section
variable {prog : Program} {w : World} {A : Around} {E : Value → Shared → Prop} {s : Shared} {K : PySem.W.Frag} {x dx C f : Addr} {mA : Str → Option Value} {name : Str} {v : Value}

theorem get_map {expr : Bool} {Q : Value → Shared → Prop} (X : K.In s.heap) (I : ObjM s.heap x dx C mA) (hg : PySem.W.plainGet K C name = true) (hh : PySem.W.hasDictIn K C = true)
    (ha : PySem.W.findIn K (.ref C) name = some none) (hv : mA name = some v) (hv' : PySem.W.handedIn v = true) (h : Q v { s with toks := s.toks + 1 }) :
    wpAny (model prog w) A (getAttr (.ref x) name expr) Q E s := by
  obtain ⟨od, J, hl⟩ := I.look
  exact PySem.W.get_value X J (PySem.W.plainGet_of hg).1 (PySem.W.findObj_own hh ha rfl (by rw [hl, hv])) hv' h

theorem get_const {expr : Bool} {a : Value} {Q : Value → Shared → Prop} (X : K.In s.heap) (I : ObjM s.heap x dx C mA) (hg : PySem.W.plainGet K C name = true) (hh : PySem.W.hasDictIn K C = true)
    (ha : PySem.W.findIn K (.ref C) name = some (some a)) (hn : PySem.W.specialIn K a "__get__" = some none) (hc : PySem.W.copiedNames.contains name = false) (hv : mA name = none) (hv' : PySem.W.handedIn a = true)
    (h : Q a { s with toks := s.toks + 1 }) : wpAny (model prog w) A (getAttr (.ref x) name expr) Q E s := by
  obtain ⟨od, J, hl⟩ := I.look
  exact PySem.W.get_value X J (PySem.W.plainGet_of hg).1 (PySem.W.findObj_cls hh ha hn hv' hc (by rw [hl, hv])) hv' h

theorem get_meth {pl : Sem Bool} {Q : Value × List Value → Shared → Prop} (X : K.In s.heap) (I : ObjM s.heap x dx C mA) (hg : PySem.W.plainGet K C name = true)
    (hf : PySem.W.findIn K (.ref C) name = some (some (.ref f))) (ht : PySem.W.isFn K (.ref f) = true) (hv : mA name = none) (h : Q (.ref f, [.ref x]) s) :
    wpAny (model prog w) A (getMethod (.ref x) name pl) Q E s := by
  obtain ⟨od, J, hl⟩ := I.look
  exact PySem.W.method_fn X J (PySem.W.plainGet_of hg).1 (PySem.W.plainGet_of hg).2 hf (beq_iff_eq.mp ht) (by show (PySem.W.lookIn name od).map (·.isSome) = some false; rw [hl, hv]; rfl) h

theorem set_map {ns : List Str} {Q : Unit → Shared → Prop} (X : K.In s.heap) (I : ObjM s.heap x dx C mA)
    (hs : PySem.W.findIn K (.ref C) "__setattr__" = some (some (.builtin "object.__setattr__"))) (hp : PySem.W.plainOver K C = true) (ht : PySem.W.takerIn K C name = some none) (hh : PySem.W.hasDictIn K C = true)
    (hw : PySem.Within mA ns) (hsz : ns.length ≤ sizeLine)
    (h : ∀ h', ObjM h' x dx C (fun y => if y = name then some v else mA y) → Heap.SameBut dx s.heap h' → Q () { s with heap := h', toks := s.toks + 2 }) :
    wpAny (model prog w) A (setAttr (.ref x) name v) Q E s := by
  obtain ⟨od, J, hl⟩ := I.look
  refine PySem.W.set_plain X J hs (PySem.W.osa_open (s := { s with toks := s.toks + 1 }) (r := none) X J hp ht fun b => ?_)
  obtain ⟨cd, hc, hd'⟩ := PySem.W.any_some hh
  have hx : s.heap.get? x = some ⟨.ref C, some dx, .plain, #[]⟩ := I.obj
  refine wpAny_bind (wpAny_pure (wpAny_bind (wpAny_bind (wpAny_loadPart hx (wpAny_bind (PySem.W.Looks.here (s := { s with toks := s.toks + 1 }) (PySem.W.looks_clsIn X hc) ?_))))))
  rw [hd']
  refine wpAny_pure (a := some dx) (wpAny_bind (wpAny_pure (wpAny_bind ?_)))
  refine wpAny_nsSet1 (s := { s with toks := s.toks + 1 }) I.ns fun h' hn2 hs2 => ?_
  obtain ⟨oD, esD, epD, hoD, hdD, hcD⟩ := hn2.count (PySem.Within.cons name v hw)
  refine wpAny_bind (wpAny_lookBehind hoD (by rw [hdD]; exact pastItsLine_dict (Nat.le_trans hcD (by rw [List.length_cons]; omega))) ?_)
  exact wpAny_pure (h _ ⟨(hs2.2 _ (Ne.symm I.ne)).trans I.obj, hn2, I.ne⟩ hs2)

/-- C(..): the dict at the heap's end, the instance behind it; then its __init__ -/
theorem make_map {R : Result → Shared → Prop} {vs : List Value} {kw : List (Str × Value)} (X : K.In s.heap) (hm : PySem.W.makesIn K C = true)
    (hi : PySem.W.findIn K (.ref C) "__init__" = some (some (.ref f))) (hf : PySem.W.typeIn K (.ref f) = some (.type "function"))
    (h : codeAny (model prog w) (A.under (.builtin "type.__call__" ⟨.ref C :: vs, kw⟩)) (.call (.ref f) ⟨.ref (s.heap.objs.size + 1) :: vs, kw⟩) (PySem.W.InitBack (s.heap.objs.size + 1) R)
      { s with heap := (s.heap.push PySem.W.emptyDict).push (PySem.W.instObj C s.heap.objs.size) }) :
    codeAny (model prog w) A (.call (.ref C) ⟨vs, kw⟩) R s := by
  obtain ⟨hh, g, d, t, os⟩ := s
  exact PySem.W.make_core (PySem.W.makes_of X hm) (PySem.W.looks_findIn X hi) (fun self => PySem.W.bind_fn X self hf) (.inl rfl) h
/-- C() where there is no __init__ but object's -/
theorem make_map0 {R : Result → Shared → Prop} (X : K.In s.heap) (hm : PySem.W.makesIn K C = true)
    (hi : PySem.W.findIn K (.ref C) "__init__" = some (some (.builtin "object.__init__")))
    (hb : ∀ self, PySem.W.Looks (model prog w) s.heap (bindSpecial (.builtin "object.__init__") self) (.builtin "object.__init__", [self]))
    (h : codeAny (model prog w) (A.under (.builtin "type.__call__" ⟨[.ref C], []⟩)) (.call (.builtin "object.__init__") ⟨[.ref (s.heap.objs.size + 1)], []⟩) (PySem.W.InitBack (s.heap.objs.size + 1) R)
      { s with heap := (s.heap.push PySem.W.emptyDict).push (PySem.W.instObj C s.heap.objs.size) }) :
    codeAny (model prog w) A (.call (.ref C) ⟨[], []⟩) R s := by
  obtain ⟨hh, g, d, t, os⟩ := s
  exact PySem.W.make_core (PySem.W.makes_of X hm) (PySem.W.looks_findIn X hi) hb (.inr ⟨rfl, rfl⟩) h
end

/-! ### the attributes as a list of pairs -/
def putF (f : Str) (v : V) : List (Str × V) → List (Str × V)
  | [] => [(f, v)]
  | (g, x) :: r => if g = f then (g, v) :: r else (g, x) :: putF f v r
theorem lookup_putF (f g : Str) (v : V) : ∀ fs : List (Str × V), (putF f v fs).lookup g = if g = f then some v else fs.lookup g
  | [] => by
    show List.lookup g [(f, v)] = _
    by_cases h : g = f
    · have hb : (g == f) = true := beq_iff_eq.mpr h
      simp only [List.lookup, hb, if_pos h]
    · have hb : (g == f) = false := beq_eq_false_iff_ne.mpr h
      simp only [List.lookup, hb, if_neg h]
  | (k, x) :: r => by
    have ih := lookup_putF f g v r
    rw [show putF f v ((k, x) :: r) = (if k = f then (k, v) :: r else (k, x) :: putF f v r) from rfl]
    by_cases hk : k = f
    · rw [if_pos hk]
      by_cases h : g = k
      · have hb : (g == k) = true := beq_iff_eq.mpr h
        simp only [List.lookup, hb, if_pos (h.trans hk)]
      · have hb : (g == k) = false := beq_eq_false_iff_ne.mpr h
        simp only [List.lookup, hb, if_neg (fun e : g = f => h (e.trans hk.symm))]
    · rw [if_neg hk]
      by_cases h : g = k
      · have hb : (g == k) = true := beq_iff_eq.mpr h
        simp only [List.lookup, hb, if_neg (fun e : g = f => hk (h.symm.trans e))]
      · have hb : (g == k) = false := beq_eq_false_iff_ne.mpr h
        simp only [List.lookup, hb]
        exact ih
theorem keys_putF (f : Str) (v : V) : ∀ fs : List (Str × V), f ∈ (putF f v fs).map (·.1) ∧ ∀ g, g ∈ fs.map (·.1) → g ∈ (putF f v fs).map (·.1)
  | [] => ⟨by simp [putF], fun g h => by simp at h⟩
  | (k, x) :: r => by
    obtain ⟨i1, i2⟩ := keys_putF f v r
    rw [show putF f v ((k, x) :: r) = (if k = f then (k, v) :: r else (k, x) :: putF f v r) from rfl]
    by_cases hk : k = f
    · rw [if_pos hk]
      subst hk
      exact ⟨by simp, fun g h => by simpa using h⟩
    · rw [if_neg hk]
      refine ⟨?_, fun g h => ?_⟩
      · rw [List.map_cons]
        exact List.mem_cons_of_mem _ i1
      · rw [List.map_cons] at h ⊢
        rcases List.mem_cons.mp h with e | e
        · exact List.mem_cons.mpr (.inl e)
        · exact List.mem_cons_of_mem _ (i2 g e)
theorem length_putF (f : Str) (v : V) : ∀ fs : List (Str × V), (putF f v fs).length ≤ fs.length + 1
  | [] => by simp [putF]
  | (k, x) :: r => by
    have ih := length_putF f v r
    rw [show putF f v ((k, x) :: r) = (if k = f then (k, v) :: r else (k, x) :: putF f v r) from rfl]
    by_cases hk : k = f
    · rw [if_pos hk, List.length_cons, List.length_cons]; omega
    · rw [if_neg hk, List.length_cons, List.length_cons]; omega

theorem RelO.some_of {v : V} {o : Option Value} (r : RelO (some v) o) : ∃ u, o = some u ∧ RelV v u := by
  cases o with
  | none => exact (show False from r).elim
  | some u => exact ⟨u, rfl, r⟩
theorem RelO.none_of {o : Option Value} (r : RelO none o) : o = none := by
  cases o with
  | none => rfl
  | some u => exact (show False from r).elim
theorem handed_of {v : V} {u : Value} (r : RelV v u) : PySem.W.handedIn u = true := by
  cases v with
  | non => cases (show u = Value.none from r); rfl
  | bl b => cases (show u = Value.bool b from r); rfl
  | int i => obtain ⟨t, e⟩ := (show ∃ t, u = Value.int i t from r); cases e; rfl
  | str x => obtain ⟨t, e⟩ := (show ∃ t, u = Value.str x t from r); cases e; rfl
  | byt b => obtain ⟨t, e⟩ := (show ∃ t, u = Value.bytes b t from r); cases e; rfl
  | flt b => obtain ⟨t, e⟩ := (show ∃ t, u = Value.float b t from r); cases e; rfl
  | ref a => cases (show u = Value.ref a from r); rfl
  | ty n => cases (show u = Value.type n from r); rfl

section
variable {P : Program} {w : World} {H H' : Hp} {h h' : Heap} {a C dx : Addr} {fs fs' : List (Str × V)}
theorem ins_get (hok : HOk P w H h) (e : H a = some (.ins C dx fs)) : ∃ mA, ObjM h a dx C mA ∧ (∀ f, RelO (fs.lookup f) (mA f)) ∧ PySem.Within mA (fs.map (·.1)) ∧ fs.length ≤ 1000 ∧ H dx = some (.own a) := by
  obtain ⟨d, z, ne, ob, mA, n, r, q⟩ := (show ObjOk P w H h a (.ins C dx fs) from hok a _ e)
  exact ⟨mA, ⟨ob, n, ne⟩, r, q, z, d⟩
end

/-! ### what of the text a class must have -/
structure Cls (K : PySem.W.Frag) (C : Addr) : Prop where
  pg : PySem.W.plainGet K C Str.empty = true
  hd : PySem.W.hasDictIn K C = true
  po : PySem.W.plainOver K C = true
  sa : PySem.W.findIn K (.ref C) "__setattr__" = some (some (.builtin "object.__setattr__"))
theorem Cls.get {K : PySem.W.Frag} {C : Addr} (c : Cls K C) (f : Str) : PySem.W.plainGet K C f = true := c.pg
/-- no class of it has the name -/
def NoAttr (K : PySem.W.Frag) (C : Addr) (f : Str) : Prop := PySem.W.findIn K (.ref C) f = some none
theorem NoAttr.taker {K : PySem.W.Frag} {C : Addr} {f : Str} (n : NoAttr K C f) : PySem.W.takerIn K C f = some none := by
  unfold PySem.W.takerIn
  rw [show PySem.W.findIn K (.ref C) f = some none from n]
  rfl
/-- a constant of the class -/
structure Con (K : PySem.W.Frag) (C : Addr) (f : Str) (v : V) (u : Value) : Prop where
  at_ : PySem.W.findIn K (.ref C) f = some (some u)
  rel : RelV v u
  get : PySem.W.specialIn K u "__get__" = some none
  cp : PySem.W.copiedNames.contains f = false
/-- a method: a plain def of the class or of one above it -/
structure Meth (K : PySem.W.Frag) (C : Addr) (m : Str) (f : Addr) : Prop where
  at_ : PySem.W.findIn K (.ref C) m = some (some (.ref f))
  fn : PySem.W.isFn K (.ref f) = true
  kp : PySem.W.keepIn K (.ref f) = true

section
variable {X : Cx} {pins : List (Addr × Obj)} {σ : St} {H : Hp} {s : Shared} {a C dx : Addr} {fs : List (Str × V)} {f : Str} {v : V} {A : Around} {E : Value → Shared → Prop}

theorem getattr_ok {b : Bool} {Q : Value → Shared → Prop} (I : Inv X pins σ H s) (e : H a = some (.ins C dx fs)) (c : Cls X.K C) (n : NoAttr X.K C f) (l : fs.lookup f = some v)
    (h : ∀ u s', Inv X pins σ H s' → RelV v u → Q u s') : wpAny (model X.prog X.w) A (getAttr (.ref a) f b) Q E s := by
  obtain ⟨mA, O, r, _, _, _⟩ := ins_get I.hok e
  obtain ⟨u, hu, ru⟩ := RelO.some_of (v := v) (o := mA f) (by rw [← l]; exact r f)
  exact get_map I.kIn O (c.get f) c.hd n hu (handed_of ru) (h u _ (I.tok _) ru)

theorem getcon_ok {b : Bool} {u : Value} {Q : Value → Shared → Prop} (I : Inv X pins σ H s) (e : H a = some (.ins C dx fs)) (c : Cls X.K C) (k : Con X.K C f v u) (l : fs.lookup f = none)
    (h : ∀ s', Inv X pins σ H s' → Q u s') : wpAny (model X.prog X.w) A (getAttr (.ref a) f b) Q E s := by
  obtain ⟨mA, O, r, _, _, _⟩ := ins_get I.hok e
  have hn : mA f = none := RelO.none_of (by rw [← l]; exact r f)
  exact get_const I.kIn O (c.get f) c.hd k.at_ k.get k.cp hn (handed_of k.rel) (h _ (I.tok _))

theorem getmeth_ok {m : Str} {g : Addr} {pl : Sem Bool} {Q : Value × List Value → Shared → Prop} (I : Inv X pins σ H s) (e : H a = some (.ins C dx fs)) (c : Cls X.K C) (k : Meth X.K C m g) (l : fs.lookup m = none)
    (h : Q (.ref g, [.ref a]) s) : wpAny (model X.prog X.w) A (getMethod (.ref a) m pl) Q E s := by
  obtain ⟨mA, O, r, _, _, _⟩ := ins_get I.hok e
  have hn : mA m = none := RelO.none_of (by rw [← l]; exact r m)
  exact get_meth I.kIn O (c.get m) k.at_ k.fn hn h

theorem setattr_ok {y : V} {u : Value} {Q : Unit → Shared → Prop} (I : Inv X pins σ H s) (e : H a = some (.ins C dx fs)) (c : Cls X.K C) (n : NoAttr X.K C f) (hl : fs.length < 1000) (ry : RelV y u)
    (h : ∀ s', Inv X pins σ (upd H a (.ins C dx (putF f y fs))) s' → Q () s') : wpAny (model X.prog X.w) A (setAttr (.ref a) f u) Q E s := by
  obtain ⟨mA, O, r, wi, _, ho⟩ := ins_get I.hok e
  have hz : (fs.map (·.1)).length ≤ sizeLine := by rw [List.length_map, sizeLine_eq]; omega
  refine set_map I.kIn O c.sa c.po n.taker c.hd wi hz fun h' O' sb => h _ ?_
  have hd : ∃ o, h'.get? dx = some o := let ⟨o, _, _, e', _⟩ := O'.ns; ⟨o, e'⟩
  refine I.write (x := a) (e := dx) (by rw [e]; exact True.intro) (.inr ho) (fun b q hb z => (sb.2 b hb).trans z) hd ?_
  refine ⟨by rw [upd_ne O.ne]; exact ho, ?_, O.ne, O'.obj, _, O'.ns, fun g => ?_, fun g hg => ?_⟩
  · have := length_putF f y fs; omega
  · show RelO ((putF f y fs).lookup g) (if g = f then some u else mA g)
    rw [lookup_putF]
    by_cases q : g = f
    · rw [if_pos q, if_pos q]; exact ry
    · rw [if_neg q, if_neg q]; exact r g
  · by_cases q : g = f
    · rw [q]; exact (keys_putF f y fs).1
    · refine (keys_putF f y fs).2 g (wi g fun z => hg ?_)
      show (if g = f then some u else mA g) = none
      rw [if_neg q]; exact z

/-- a new instance, tracked, without attributes -/
theorem Inv.made (I : Inv X pins σ H s) : Inv X pins σ (upd (upd H s.heap.objs.size (.own (s.heap.objs.size + 1))) (s.heap.objs.size + 1) (.ins C s.heap.objs.size []))
    { s with heap := (s.heap.push PySem.W.emptyDict).push (PySem.W.instObj C s.heap.objs.size) } := by
  have e1 : (s.heap.push PySem.W.emptyDict).get? s.heap.objs.size = some PySem.W.emptyDict := Heap.get?_push_size s.heap rfl
  have e2 : ((s.heap.push PySem.W.emptyDict).push (PySem.W.instObj C s.heap.objs.size)).get? (s.heap.objs.size + 1) = some (PySem.W.instObj C s.heap.objs.size) := by
    have := Heap.get?_push_size (s.heap.push PySem.W.emptyDict) (o := PySem.W.instObj C s.heap.objs.size) rfl
    rwa [Heap.size_push] at this
  have e3 : (s.heap.push PySem.W.emptyDict).Ns s.heap.objs.size (fun _ => none) := ⟨PySem.W.emptyDict, #[], _, e1, rfl, (fun e he => absurd he (by simp)), fun _ => rfl⟩
  have I1 := I.laid (a := s.heap.objs.size) (o := .own (s.heap.objs.size + 1)) (h' := s.heap.push PySem.W.emptyDict) (t' := s.toks) (fun b u q => Heap.get?_push_of_some _ q) (Nat.le_refl _) ⟨_, e1⟩
  refine I1.laid (a := s.heap.objs.size + 1) (o := .ins C s.heap.objs.size []) (t' := s.toks) (fun b u q => Heap.get?_push_of_some _ q) (Nat.le_of_eq (Heap.size_push _ _)) ?_
  have ne : s.heap.objs.size ≠ s.heap.objs.size + 1 := Nat.ne_of_lt (Nat.lt_succ_self _)
  refine ⟨by rw [upd_ne ne, upd_same], Nat.zero_le _, ne, e2, fun _ => none, (Heap.Ns1.of_empty e3).at fun o q => Heap.get?_push_of_some _ q, fun _ => True.intro, fun y hy => absurd rfl hy⟩

/-- e.f where nothing but the object is asked: through attributeBase (super) and the last hold -/
theorem attr_of {prog : Program} {w : World} {env : Env} {e : Expr} {f : Str} {pos : Pos} {s : Shared} {Q : Value → Shared → Prop} (hb : attributeBase e f env (eval e env) = eval e env)
    (h : wpAny (model prog w) A (eval e env) (fun o s₁ => wpAny (model prog w) A (getAttr o f true) Q E s₁) E s) : wpAny (model prog w) A (eval (.Attribute e f pos) env) Q E s :=
  Attribute_any_ h (by rw [arm_eval_Attribute, hb])
end

/-! ### readings and rules -/
/-- e.f, an attribute of the instance -/
def tFld (K : PySem.W.Frag) (ta : TE) (f : Str) : TE := fun σ H Q => ta σ H fun x H1 => ∃ a C dx fs v, x = .ref a ∧ H1 a = some (.ins C dx fs) ∧ Cls K C ∧ NoAttr K C f ∧ fs.lookup f = some v ∧ Q v H1
/-- e.f, a constant of the class -/
def tCon (K : PySem.W.Frag) (ta : TE) (f : Str) : TE := fun σ H Q => ta σ H fun x H1 => ∃ a C dx fs v u, x = .ref a ∧ H1 a = some (.ins C dx fs) ∧ Cls K C ∧ Con K C f v u ∧ fs.lookup f = none ∧ Q v H1
/-- e.f = value -/
def sFld (K : PySem.W.Frag) (ta tv : TE) (f : Str) : TS := fun D σ H => tv σ H fun y H1 => ta σ H1 fun x H2 => ∃ a C dx fs, x = .ref a ∧ H2 a = some (.ins C dx fs) ∧ Cls K C ∧ NoAttr K C f ∧ fs.length < 1000 ∧
  D.nx σ (upd H2 a (.ins C dx (putF f y fs)))
/-- an augmented operator on two values -/
def InOp (X : Cx) (op : Operator) (rd : V → V → Hp → VK → Prop) : Prop :=
  ∀ (pins : List (Addr × Obj)) (s : Shared) (σ : St) (H : Hp) (x y : V) (u v : Value) (Q : VK), Inv X pins σ H s → RelV x u → RelV y v → rd x y H Q → wpAny (model X.prog X.w) X.A (inplaceOp op u v) (EP X pins σ Q) X.xe s
/-- e.f op= value -/
def sFldAug (K : PySem.W.Frag) (ta tv : TE) (rd : V → V → Hp → VK → Prop) (f : Str) : TS := fun D σ H => ta σ H fun x H1 => ∃ a C dx fs v, x = .ref a ∧ H1 a = some (.ins C dx fs) ∧ Cls K C ∧ NoAttr K C f ∧ fs.lookup f = some v ∧
  tv σ H1 fun y H2 => rd v y H2 fun z H3 => ∃ dx' fs', H3 a = some (.ins C dx' fs') ∧ fs'.length < 1000 ∧ D.nx σ (upd H3 a (.ins C dx' (putF f z fs')))

section
variable {X : Cx} {o e value : Expr} {f : Str} {pos pos' tpos : Pos} {ta tv : TE}
theorem pe_fld (he : PE X e ta) (hb : attributeBase e f X.env (eval e X.env) = eval e X.env) : PE X (.Attribute e f pos) (tFld X.K ta f) := by
  intro pins s σ H Q I h
  refine attr_of hb (thn (he pins s σ H _ I h) fun u s1 ⟨x, H1, I1, rx, a, C, dx, fs, v, ex, ea, c, n, l, q⟩ => ?_)
  subst ex
  obtain rfl : u = Value.ref a := rx
  exact getattr_ok I1 ea c n l fun u' s2 I2 ru => ⟨v, H1, I2, ru, q⟩
theorem pe_con (he : PE X e ta) (hb : attributeBase e f X.env (eval e X.env) = eval e X.env) : PE X (.Attribute e f pos) (tCon X.K ta f) := by
  intro pins s σ H Q I h
  refine attr_of hb (thn (he pins s σ H _ I h) fun u s1 ⟨x, H1, I1, rx, a, C, dx, fs, v, u0, ex, ea, c, k, l, q⟩ => ?_)
  subst ex
  obtain rfl : u = Value.ref a := rx
  exact getcon_ok I1 ea c k l fun s2 I2 => ⟨v, H1, I2, k.rel, q⟩
theorem ps_fld (ha : PE X o ta) (hv : PE X value tv) (hs : swapsWith value (some (.Attribute o f pos')) pos.line X.env = pure false) : PS X (.Assign [.Attribute o f pos'] value pos) (sFld X.K ta tv f) := by
  intro pins s σ H D I h
  refine plainObj_wpAny_Assign_Attribute (thn (hv pins s σ H _ I h) fun u s1 ⟨y, H1, I1, ry, q⟩ => thn (ha pins s1 σ H1 _ I1 q) fun ov s2 ⟨x, H2, I2, rx, a, C, dx, fs, ex, ea, c, n, l, q2⟩ => ?_) hs
  subst ex
  obtain rfl : ov = Value.ref a := rx
  exact setattr_ok I2 ea c n l ry fun s3 I3 => ⟨σ, _, I3, q2⟩
theorem ps_fldaug {op : Operator} {rd : V → V → Hp → VK → Prop} (ha : PE X o ta) (hv : PE X value tv) (hop : InOp X op rd) : PS X (.AugAssign (.Attribute o f tpos) op value pos) (sFldAug X.K ta tv rd f) := by
  intro pins s σ H D I h
  refine wpAny_AugAssign_AttributeAny (thn (ha pins s σ H _ I h) fun ov s1 ⟨x, H1, I1, rx, a, C, dx, fs, v, ex, ea, c, n, l, q⟩ => ?_)
  subst ex
  obtain rfl : ov = Value.ref a := rx
  refine getattr_ok I1 ea c n l fun u s2 I2 ru => thn (hv pins s2 σ H1 _ I2 q) fun w3 s3 ⟨y, H2, I3, ry, q3⟩ => thn (hop pins s3 σ H2 v y u w3 _ I3 ru ry q3) fun w4 s4 ⟨z, H3, I4, rz, dx', fs', ea', l', q4⟩ => ?_
  exact setattr_ok I4 ea' c n l' rz fun s5 I5 => ⟨σ, _, I5, q4⟩
def rAdd : V → V → Hp → VK → Prop := fun x y H Q => ∃ i j, x = .int i ∧ y = .int j ∧ Q (.int (i + j)) H
def rSub : V → V → Hp → VK → Prop := fun x y H Q => ∃ i j, x = .int i ∧ y = .int j ∧ Q (.int (i - j)) H
theorem in_add : InOp X .Add rAdd := by
  rintro pins s σ H x y u v Q I rx ry ⟨i, j, rfl, rfl, q⟩
  obtain ⟨t, rfl⟩ := (show ∃ t, u = Value.int i t from rx)
  obtain ⟨t', rfl⟩ := (show ∃ t', v = Value.int j t' from ry)
  exact PyProof.Rows.iadd_int ⟨.int (i + j), H, I.tok _, ⟨_, rfl⟩, q⟩
theorem in_sub : InOp X .Sub rSub := by
  rintro pins s σ H x y u v Q I rx ry ⟨i, j, rfl, rfl, q⟩
  obtain ⟨t, rfl⟩ := (show ∃ t, u = Value.int i t from rx)
  obtain ⟨t', rfl⟩ := (show ∃ t', v = Value.int j t' from ry)
  exact PyProof.Rows.isub_int ⟨.int (i - j), H, I.tok _, ⟨_, rfl⟩, q⟩

/-- what is between an instance and its method: the tree of a method call -/
theorem methcall_of {pl : Sem Bool} {m : Str} {apos : Pos} {args : List Expr} {pins : List (Addr × Obj)} {s : Shared} {σ : St} {H : Hp} {Q : Value → Shared → Prop} {te : TE} (he : PE X e te) (I : Inv X pins σ H s)
    (h : te σ H fun x H1 => ∃ a C dx fs g, x = .ref a ∧ H1 a = some (.ins C dx fs) ∧ Cls X.K C ∧ Meth X.K C m g ∧ fs.lookup m = none ∧
      ∀ s1, Inv X pins σ H1 s1 → wpAny (model X.prog X.w) X.A (callWith pos (.ref g) [.ref a] (backTo pos (starEach args X.env)) (backToKw pos (keywordEach [] X.env))) Q X.xe s1)
    (ht : eval (.Call (.Attribute e m apos) args [] pos) X.env = (do
      let ov ← eval e X.env
      standAt apos.atName
      let (f, first) ← holding [ov] (getMethod ov m pl)
      callWith pos f first (backTo pos (starEach args X.env)) (backToKw pos (keywordEach [] X.env)))) :
    wpAny (model X.prog X.w) X.A (eval (.Call (.Attribute e m apos) args [] pos) X.env) Q X.xe s := by
  refine PySem.W.methodCall_KW (pl := pl) (thn (he pins s σ H _ I h) fun u s1 ⟨x, H1, I1, rx, a, C, dx, fs, g, ex, ea, c, k, l, q⟩ => ?_) ht
  subst ex
  obtain rfl : u = Value.ref a := rx
  exact getmeth_ok I1 ea c k l (q s1 I1)
end

/-! ### isinstance -/
section
variable {X : Cx} {pins : List (Addr × Obj)} {σ : St} {H : Hp} {s : Shared} {A : Around} {E : Value → Shared → Prop} {Q : Value → Shared → Prop} {c : Value} {b : Bool}
/-- the type of a value, as the fragment's deciders take it; for an instance its class -/
inductive TyOf (K : PySem.W.Frag) (H : Hp) : V → Value → Prop where
  | non : TyOf K H .non (.type "NoneType")
  | bl (x : Bool) : TyOf K H (.bl x) (.type "bool")
  | int (i : Int) : TyOf K H (.int i) (.type "int")
  | str (x : Str) : TyOf K H (.str x) (.type "str")
  | flt (x : UInt64) : TyOf K H (.flt x) (.type "float")
  | lst {a : Addr} {xs : List V} (e : H a = some (.lst xs)) : TyOf K H (.ref a) (.type "list")
  | frz {a : Addr} {o : Obj} {xs : List V} (e : H a = some (.frz o (.lst xs))) : TyOf K H (.ref a) (.type "list")
  | tup {a : Addr} {xs : List V} (e : H a = some (.tup xs)) : TyOf K H (.ref a) (.type "tuple")
  | dK {a : Addr} {kvs : List (Key × V)} (e : H a = some (.dK kvs)) : TyOf K H (.ref a) (.type "dict")
  | dT {a : Addr} {kvs : List (List Key × V)} (e : H a = some (.dT kvs)) : TyOf K H (.ref a) (.type "dict")
  | ins {a C dx : Addr} {fs : List (Str × V)} (e : H a = some (.ins C dx fs)) (cl : Cls K C) (ha : PySem.W.findIn K (.ref C) "__class__" = some (some (.builtin "object.__class__")))
      (hn : PySem.W.specialIn K (.builtin "object.__class__") "__get__" = some (some (.builtin "getset_descriptor.__get__"))) (htk : PySem.W.takesIn K (.builtin "object.__class__") = some true)
      (hm : PySem.W.mroIn K C (.type "object") = some true) : TyOf K H (.ref a) (.ref C)
/-- isinstance(x, c) for one class c, a built-in or an own one: kitOne's answer -/
theorem isinst_ok {x : V} {u t : Value} (I : Inv X pins σ H s) (rx : RelV x u) (ty : TyOf X.K H x t) (e : PySem.W.kitOne X.K t c = some b) (h : ∀ tk, Q (.bool b) { s with toks := tk }) :
    wpAny (model X.prog X.w) A (call (.builtin "isinstance") [u, c]) Q E s := by
  cases ty with
  | non => cases (show u = Value.none from rx); exact PySem.W.kia_one PySem.W.kitx_none I.kIn True.intro e (fun z => nomatch z) h
  | bl y => cases (show u = Value.bool y from rx); exact PySem.W.kia_one PySem.W.kitx_bool I.kIn True.intro e (fun z => nomatch z) h
  | int i => obtain ⟨t, q⟩ := (show ∃ t, u = Value.int i t from rx); cases q; exact PySem.W.kia_one PySem.W.kitx_int I.kIn True.intro e (fun z => nomatch z) h
  | str y => obtain ⟨t, q⟩ := (show ∃ t, u = Value.str y t from rx); cases q; exact PySem.W.kia_one PySem.W.kitx_str I.kIn True.intro e (fun z => nomatch z) h
  | flt y => obtain ⟨t, q⟩ := (show ∃ t, u = Value.float y t from rx); cases q; exact PySem.W.kia_one PySem.W.kitx_float I.kIn True.intro e (fun z => nomatch z) h
  | @lst a xs ea =>
    cases (show u = Value.ref a from rx)
    obtain ⟨_, _, n, _, h1⟩ := (show ObjOk X.prog X.w H s.heap a (.lst xs) from I.hok a _ ea)
    exact PySem.W.kia_one PySem.W.kitx_list I.kIn ⟨_, h1, rfl⟩ e (fun z => nomatch z) h
  | @frz a ob xs ea =>
    cases (show u = Value.ref a from rx)
    obtain ⟨_, _, _, n, _, h1⟩ := (show ObjOk X.prog X.w H s.heap a (.frz ob (.lst xs)) from I.hok a _ ea)
    exact PySem.W.kia_one PySem.W.kitx_list I.kIn ⟨_, h1, rfl⟩ e (fun z => nomatch z) h
  | @tup a xs ea =>
    cases (show u = Value.ref a from rx)
    obtain ⟨_, _, _, p⟩ := (show ObjOk X.prog X.w H s.heap a (.tup xs) from I.hok a _ ea)
    obtain ⟨o, h1, h2, _⟩ := p
    exact PySem.W.kia_one PySem.W.kitx_tuple I.kIn ⟨o, h1, h2⟩ e (fun z => nomatch z) h
  | @dK a kvs ea =>
    cases (show u = Value.ref a from rx)
    obtain ⟨_, _, vs, _, p⟩ := (show ObjOk X.prog X.w H s.heap a (.dK kvs) from I.hok a _ ea)
    obtain ⟨o, es, ep, h1, h2, _⟩ := p
    exact PySem.W.kia_one PySem.W.kitx_dict I.kIn ⟨o, h1, h2.1⟩ e (fun z => nomatch z) h
  | @dT a kvs ea =>
    cases (show u = Value.ref a from rx)
    obtain ⟨_, _, xs, _, o, es, ep, h1, h2, _⟩ := (show ObjOk X.prog X.w H s.heap a (.dT kvs) from I.hok a _ ea)
    exact PySem.W.kia_one PySem.W.kitx_dict I.kIn ⟨o, h1, h2.1⟩ e (fun z => nomatch z) h
  | @ins a C dx fs ea cl ha hn htk hm =>
    cases (show u = Value.ref a from rx)
    obtain ⟨mA, O, _⟩ := ins_get I.hok ea
    obtain ⟨od, J, _⟩ := O.look
    exact PySem.W.kia_one (PySem.W.kitx_own (cl.get _) cl.hd ha hn htk hm) I.kIn J e (fun z => nomatch z) h
end
end L2

namespace L2
open PySem PySem.Spec PyProof.Rows

/-! ### room -/
structure Room (k : Nat) (A : Around) : Prop where
  hd : A.handled = none
  dp : A.depth + 3 * k + 5 < recursionLimit
  un : A.units + 16 * k + 200 < cLine
theorem Room.mono {j k : Nat} {A : Around} (r : Room k A) (h : j ≤ k) : Room j A := ⟨r.hd, by have := r.dp; omega, by have := r.un; omega⟩
theorem Room.deeper {k : Nat} {A : Around} (r : Room (k + 1) A) (env : Env) : Room k (A.deeper env) :=
  ⟨r.hd, by have := r.dp; show A.depth + 1 + 3 * k + 5 < _; omega, by have := r.un; show A.units + 3 + 16 * k + 200 < _; omega⟩
theorem Room.in1 {k : Nat} {A : Around} (r : Room (k + 1) A) : Room k A.in1 :=
  ⟨r.hd, by have := r.dp; show A.depth + 3 * k + 5 < _; omega, by have := r.un; show A.units + 1 + 16 * k + 200 < _; omega⟩
theorem make_depth {A : Around} {C : Addr} {us : List Value} {kw : List (Str × Value)} : (A.under (.builtin "type.__call__" ⟨.ref C :: us, kw⟩)).depth = A.depth + 1 := by
  first | rfl | simp [Around.under, Code.weight, Code.isCreation, Code.isGuard, Code.isCaller, Code.frames, Code.isFrame, guardIds]
theorem make_units {A : Around} {C : Addr} {us : List Value} {kw : List (Str × Value)} : (A.under (.builtin "type.__call__" ⟨.ref C :: us, kw⟩)).units = A.units + 1 := by
  first | rfl | simp [Around.under, Code.cUnits, Code.frames, Code.isFrame]
theorem Room.make {k : Nat} {A : Around} (r : Room (k + 1) A) (C : Addr) (us : List Value) (kw : List (Str × Value)) : Room k (A.under (.builtin "type.__call__" ⟨.ref C :: us, kw⟩)) :=
  ⟨r.hd, by have := r.dp; rw [make_depth]; omega, by have := r.un; rw [make_units]; omega⟩
theorem Room.depth {k : Nat} {A : Around} (r : Room k A) : A.depth < recursionLimit := by have := r.dp; omega
theorem Room.units {k : Nat} {A : Around} (r : Room k A) : A.units + 64 < cLine := by have := r.un; omega
theorem Room.units0 {k : Nat} {A : Around} (r : Room k A) : A.units < cLine := by have := r.un; omega

/-! ### argument lists and displays -/
def tNil : TA := fun _ H Q => Q [] H
def tCons (ta : TE) (tr : TA) : TA := fun σ H Q => ta σ H fun x H1 => tr σ H1 fun xs H2 => Q (x :: xs) H2
section
variable {X : Cx} {e : Expr} {es : List Expr} {te : TE} {t : TA} {pos : Pos}
theorem pa_nil : PA X [] tNil := fun _ _ _ _ H Q I h => Calls.spliced_nil ⟨[], H, I, .nil, h⟩
theorem pa_cons (ha : PE X e te) (hr : PA X es t) (hs : starEach (e :: es) X.env = (false, eval e X.env) :: starEach es X.env := by rfl) : PA X (e :: es) (tCons te t) := by
  intro pos pins s σ H Q I h
  rw [hs]
  show wpAny _ _ (spliced ((false, eval e X.env) :: backTo pos (starEach es X.env))) _ _ s
  refine Calls.spliced_cons (thn (ha pins s σ H _ I h) fun u s1 ⟨x, H1, I1, r1, q1⟩ => ?_)
  exact thn (hr pos pins s1 σ H1 _ I1 q1) fun us s2 ⟨xs, H2, I2, r2, q2⟩ => ⟨x :: xs, H2, I2, .cons r1 r2, q2⟩

/-- a tuple, a list of written items -/
def tTup (t : TA) : TE := fun σ H Q => t σ H fun xs H1 => xs.length ≤ sizeLine ∧ ∀ p, H1 p = none → Q (.ref p) (upd H1 p (.tup xs))
def tLst (t : TA) : TE := fun σ H Q => t σ H fun xs H1 => xs.length ≤ sizeLine ∧ ∀ p, H1 p = none → Q (.ref p) (upd H1 p (.lst xs))
theorem pe_tup {x1} (h : PA X es t) : PE X (.Tuple es x1 pos) (tTup t) := by
  intro pins s σ H Q I hq
  refine wpAny_Tuple_spliced (thn (h pos pins s σ H _ I hq) fun us s1 ⟨xs, H1, I1, r, z, q⟩ => ⟨by rw [← r.length]; exact z, ?_⟩)
  have hf : H1 s1.heap.objs.size = none := I1.hok.fresh (Nat.le_refl _)
  refine ⟨.ref s1.heap.objs.size, upd H1 s1.heap.objs.size (.tup xs), I1.laid (t' := s1.toks) (fun b u e => Heap.get?_push_of_some _ e) (Nat.le_refl _) ?_, rfl, q _ hf⟩
  exact ⟨z, us, r, ⟨_, Heap.get?_push_size _ rfl, rfl, _, rfl⟩⟩
theorem pe_lst (h : PA X es t) : PE X (.List es pos) (tLst t) := by
  intro pins s σ H Q I hq
  refine wpAny_List_spliced (thn (h pos pins s σ H _ I hq) fun us s1 ⟨xs, H1, I1, r, z, q⟩ => ⟨by rw [← r.length]; exact z, ?_⟩)
  have hf : H1 s1.heap.objs.size = none := I1.hok.fresh (Nat.le_refl _)
  refine ⟨.ref s1.heap.objs.size, upd H1 s1.heap.objs.size (.lst xs), I1.laid (t' := s1.toks) (fun b u e => Heap.get?_push_of_some _ e) (Nat.le_refl _) ?_, rfl, q _ hf⟩
  exact ⟨z, us, 0, r, Heap.get?_push_size _ rfl⟩
end

/-! ### what a def promises -/
/-- a def's promise: the bound arguments in the parameters' order, the heap, the wanted end, the wanted exception -/
abbrev Sp := List V → Hp → VK → XK → Prop
/-- how an exception lies behind a call (file 08 gives it): the callers' frames, abstract heap and state ahead of the call, the wish, the exception, the state -/
abbrev CXT := List Env → Hp → Shared → XK → Value → Shared → Prop

/-- the state at a call -/
structure Env0 (P : Program) (w : World) (K : PySem.W.Frag) (mg : Str → Option Value) (base : Heap) (A : Around) (outer : List Env) (s : Shared) (H : Hp) : Prop where
  frames : A.frames = some outer
  mod : Mod K mg base
  bs : ∀ b o, base.get? b = some o → s.heap.get? b = some o ∧ H b = none
  bsz : base.objs.size ≤ s.heap.objs.size
  funs : s.heap.FunFrames base outer
  frf : ∀ b ∈ frs outer, H b = none
  hok : HOk P w H s.heap
  bare : AllBare s.gens
/-- a call's end -/
def CE (outer : List Env) (P : Program) (w : World) (H : Hp) (s : Shared) (Q : VK) (u : Value) (s' : Shared) : Prop :=
  ∃ v H', s'.os = s.os ∧ AllBare s'.gens ∧ Un (frs outer) [] H H' s.heap s'.heap ∧ HOk P w H' s'.heap ∧ RelV v u ∧ Q v H'
def CR (CX : CXT) (outer : List Env) (P : Program) (w : World) (H : Hp) (s : Shared) (Q : VK) (E : XK) (r : Result) (s' : Shared) : Prop :=
  match r with
  | .ok (.ret u) => CE outer P w H s Q u s'
  | .ok _ => False
  | .error e => CX outer H s E e s'
structure FnOk (P : Program) (w : World) (K : PySem.W.Frag) (mg : Str → Option Value) (base : Heap) (CX : CXT) (k : Nat) (f : Addr) (fd : FuncData) (ps : List Str) (sp : Sp) : Prop where
  len : ∀ vs H Q E, sp vs H Q E → vs.length = ps.length
  run : ∀ (A : Around) (outer : List Env) (s : Shared) (H : Hp) (args : Args) (us : List Value) (vs : List V) (Q : VK) (E : XK), Room k A → Env0 P w K mg base A outer s H → BindsTo s fd args (ps.zip us) → Vals vs us → sp vs H Q E →
    codeAny (model P w) A (.call (.ref f) args) (CR CX outer P w H s Q E) s
theorem FnOk.mono {P : Program} {w : World} {K : PySem.W.Frag} {mg : Str → Option Value} {base : Heap} {CX : CXT} {j k : Nat} {f : Addr} {fd : FuncData} {ps : List Str} {sp : Sp} (F : FnOk P w K mg base CX j f fd ps sp) (h : j ≤ k) :
    FnOk P w K mg base CX k f fd ps sp := ⟨F.len, fun A outer s H args us vs Q E hr => F.run A outer s H args us vs Q E (hr.mono h)⟩
/-- a weaker promise -/
theorem FnOk.imp {P : Program} {w : World} {K : PySem.W.Frag} {mg : Str → Option Value} {base : Heap} {CX : CXT} {k : Nat} {f : Addr} {fd : FuncData} {ps : List Str} {sp sp' : Sp} (F : FnOk P w K mg base CX k f fd ps sp)
    (h : ∀ vs H Q E, sp' vs H Q E → sp vs H Q E) : FnOk P w K mg base CX k f fd ps sp' :=
  ⟨fun vs H Q E q => F.len vs H Q E (h _ _ _ _ q), fun A outer s H args us vs Q E hr he hb hv hs => F.run A outer s H args us vs Q E hr he hb hv (h _ _ _ _ hs)⟩

theorem Env0.make {P : Program} {w : World} {K : PySem.W.Frag} {mg : Str → Option Value} {base : Heap} {A : Around} {outer : List Env} {s : Shared} {H : Hp} (e : Env0 P w K mg base A outer s H) (C : Addr) (us : List Value) (kw : List (Str × Value)) :
    Env0 P w K mg base (A.under (.builtin "type.__call__" ⟨.ref C :: us, kw⟩)) outer s H := ⟨by first | exact e.frames | (simpa [Around.under, Code.envs, Code.isFrame, pushEnvs] using e.frames), e.mod, e.bs, e.bsz, e.funs, e.frf, e.hok, e.bare⟩
theorem Env0.in1 {P : Program} {w : World} {K : PySem.W.Frag} {mg : Str → Option Value} {base : Heap} {A : Around} {outer : List Env} {s : Shared} {H : Hp} (e : Env0 P w K mg base A outer s H) :
    Env0 P w K mg base A.in1 outer s H := ⟨e.frames, e.mod, e.bs, e.bsz, e.funs, e.frf, e.hok, e.bare⟩

section
variable {X : Cx} {pins : List (Addr × Obj)} {σ : St} {H : Hp} {s s' : Shared}
/-- from a body: what a callee wants -/
theorem Inv.env0 (I : Inv X pins σ H s) : Env0 X.prog X.w X.K X.mg X.base X.A X.stack s H :=
  ⟨I.ok.frames, I.ok.mod, I.bs, Nat.le_trans I.ok.bsz I.sz, I.stack, I.stkFree, I.hok, I.bare⟩
/-- behind a call -/
theorem Inv.after {Q : VK} {u : Value} (I : Inv X pins σ H s) (h : CE X.stack X.prog X.w H s Q u s') : EP X pins σ Q u s' := by
  obtain ⟨v, H', os, bare, un, hok, r, q⟩ := h
  obtain ⟨hh, g, d, t, os'⟩ := s'
  obtain rfl : os' = s.os := os
  exact ⟨v, H', I.call (h' := hh) (g' := g) (d' := d) (t' := t) (ch := []) un hok bare (fun b z => absurd z (by simp)), r, q⟩
end

/-! ### calls -/
/-- f(..): the written arguments, then the defaults dvs; E: what is wanted of an exception -/
def tCall (sp : Sp) (dvs : List V) (E : XK) (t : TA) : TE := fun σ H Q => t σ H fun vs H1 => sp (vs ++ dvs) H1 Q E
/-- o.m(..) of an instance of the class at C -/
def tMeth (C : Addr) (m : Str) (sp : Sp) (dvs : List V) (E : XK) (ta : TE) (t : TA) : TE := fun σ H Q => ta σ H fun x H1 => ∃ a dx fs, x = .ref a ∧ H1 a = some (.ins C dx fs) ∧ fs.lookup m = none ∧
  t σ H1 fun vs H2 => sp (x :: (vs ++ dvs)) H2 Q E
/-- C(..): a new instance and its dict, then __init__ -/
def tMake (C : Addr) (sp : Sp) (dvs : List V) (E : XK) (t : TA) : TE := fun σ H Q => t σ H fun vs H1 => ∀ x dx, H1 x = none → H1 dx = none → dx ≠ x →
  sp (.ref x :: (vs ++ dvs)) (upd (upd H1 dx (.own x)) x (.ins C dx [])) (fun v H2 => v = .non ∧ Q (.ref x) H2) E

/-- how the parameters are bound: us the positional arguments, kw the keywords' values by name, ds the defaults that fill up -/
def Binds (K : PySem.W.Frag) (fd : FuncData) (ps : List Str) (ds : List Value) : Prop :=
  ∀ (s : Shared) (us : List Value), K.In s.heap → (us ++ ds).length = ps.length → BindsTo s fd ⟨us, []⟩ (ps.zip (us ++ ds))
/-- every parameter is given -/
theorem Binds.all {K : PySem.W.Frag} {fd : FuncData} {ps : List Str} (h : ∀ us : List Value, us.length = ps.length → bindArgs fd ⟨us, []⟩ = pure (ps.zip us)) : Binds K fd ps [] := fun s us _ hl => by
  rw [List.append_nil] at hl ⊢
  exact .of_eq (h us hl)

/-- an exception of a callee reaches what this body wants of exceptions -/
def Passes (CX : CXT) (X : Cx) (E : XK) : Prop := ∀ (pins : List (Addr × Obj)) (σ : St) (H : Hp) (s : Shared) (e : Value) (s' : Shared), Inv X pins σ H s → CX X.stack H s E e s' → X.xe e s'

section
variable {X : Cx} {CX : CXT} {k : Nat} {f C : Addr} {fd : FuncData} {ps : List Str} {sp : Sp} {dvs : List V} {ds : List Value} {E : XK} {x m : Str} {p pos apos : Pos} {e o : Expr} {es : List Expr} {ta : TE} {t : TA}

/-- the callee runs -/
theorem run_fn {pins : List (Addr × Obj)} {σ : St} {H : Hp} {s : Shared} {Q : VK} {us : List Value} {vs : List V} (F : FnOk X.prog X.w X.K X.mg X.base CX k f fd ps sp) (hr : Room k X.A) (hb : Binds X.K fd ps ds) (hd : Vals dvs ds) (hx : Passes CX X E)
    (I : Inv X pins σ H s) (r : Vals vs us) (h : sp (vs ++ dvs) H Q E) : wpAny (model X.prog X.w) X.A (call (.ref f) us) (EP X pins σ Q) X.xe s := by
  have r2 : Vals (vs ++ dvs) (us ++ ds) := r.append hd
  have hl : (us ++ ds).length = ps.length := by rw [← r2.length]; exact F.len _ _ _ _ h
  refine wpAny_call (codeAny_mono (F.run X.A X.stack s H ⟨us, []⟩ (us ++ ds) (vs ++ dvs) Q E hr I.env0 (hb s us I.kIn hl) r2 h) fun r s' hq => ?_)
  cases r with
  | error e => exact hx pins σ H s e s' I hq
  | ok fl =>
    cases fl with
    | ret u => exact I.after hq
    | next => exact False.elim hq
    | brk => exact False.elim hq
    | cont => exact False.elim hq

theorem pe_call (F : FnOk X.prog X.w X.K X.mg X.base CX k f fd ps sp) (hr : Room k X.A) (hg : Gl X x) (hm : X.mg x = some (.ref f)) (hk : PySem.W.keepIn X.K (.ref f) = true) (hb : Binds X.K fd ps ds) (hd : Vals dvs ds) (hx : Passes CX X E)
    (ha : PA X (e :: es) t) (hdb : (x == ("__debug__" : Str)) = false := by decide) (he : starEach (e :: es) X.env = (false, eval e X.env) :: starEach es X.env := by rfl) (hpl : (backTo pos (starEach es X.env)).any (·.1) = false := by rfl) :
    PE X (.Call (.Name x p) (e :: es) [] pos) (tCall sp dvs E t) := by
  intro pins s σ H Q I h
  refine wpAny_Call_Name_kw (ld_glob I hg hm ?_ hdb)
  refine PySem.W.callWith_K (h₀ := X.base) I.ok.mod.kin hk (thn (ha pos pins s σ H _ I h) fun us s1 ⟨vs, H1, I1, r, q⟩ => ⟨I1.kIn, ?_⟩) he hpl
  exact run_fn F hr hb hd hx I1 r q
theorem pe_call0 (F : FnOk X.prog X.w X.K X.mg X.base CX k f fd ps sp) (hr : Room k X.A) (hg : Gl X x) (hm : X.mg x = some (.ref f)) (hk : PySem.W.keepIn X.K (.ref f) = true) (hb : Binds X.K fd ps ds) (hd : Vals dvs ds) (hx : Passes CX X E)
    (hdb : (x == ("__debug__" : Str)) = false := by decide) : PE X (.Call (.Name x p) [] [] pos) (tCall sp dvs E tNil) := by
  intro pins s σ H Q I h
  refine wpAny_Call_Name_kw (ld_glob I hg hm ?_ hdb)
  exact PySem.W.callWith_K0 I.kIn hk (run_fn (us := []) F hr hb hd hx I .nil h)

/-- o.m(e, ..) -/
theorem pe_meth {pl : Sem Bool} (he : PE X o ta) (c : Cls X.K C) (hm : Meth X.K C m f) (F : FnOk X.prog X.w X.K X.mg X.base CX k f fd ps sp) (hr : Room k X.A) (hb : Binds X.K fd ps ds) (hd : Vals dvs ds) (hx : Passes CX X E) (ha : PA X (e :: es) t)
    (hst : starEach (e :: es) X.env = (false, eval e X.env) :: starEach es X.env := by rfl) (hpl : (backTo pos (starEach es X.env)).any (·.1) = false := by rfl)
    (ht : eval (.Call (.Attribute o m apos) (e :: es) [] pos) X.env = (do
      let ov ← eval o X.env
      standAt apos.atName
      let (f, first) ← holding [ov] (getMethod ov m pl)
      callWith pos f first (backTo pos (starEach (e :: es) X.env)) (backToKw pos (keywordEach [] X.env))) := by rfl) :
    PE X (.Call (.Attribute o m apos) (e :: es) [] pos) (tMeth C m sp dvs E ta t) := by
  intro pins s σ H Q I h
  refine PySem.W.methodCall_KW (pl := pl) (thn (he pins s σ H _ I h) fun u s1 ⟨x, H1, I1, rx, a, dx, fs, ex, ea, l, q⟩ => ?_) ht
  subst ex
  obtain rfl : u = Value.ref a := rx
  refine getmeth_ok I1 ea c hm l ?_
  refine PySem.W.callWith_K (first := [.ref a]) (h₀ := X.base) I.ok.mod.kin hm.kp (thn (ha pos pins s1 σ H1 _ I1 q) fun us s2 ⟨vs, H2, I2, r, q2⟩ => ⟨I2.kIn, ?_⟩) hst hpl
  exact run_fn (us := .ref a :: us) (vs := .ref a :: vs) F hr hb hd hx I2 (.cons rfl r) q2
/-- o.m() -/
theorem pe_meth0 {pl : Sem Bool} (he : PE X o ta) (c : Cls X.K C) (hm : Meth X.K C m f) (F : FnOk X.prog X.w X.K X.mg X.base CX k f fd ps sp) (hr : Room k X.A) (hb : Binds X.K fd ps ds) (hd : Vals dvs ds) (hx : Passes CX X E)
    (ht : eval (.Call (.Attribute o m apos) [] [] pos) X.env = (do
      let ov ← eval o X.env
      standAt apos.atName
      let (f, first) ← holding [ov] (getMethod ov m pl)
      callWith pos f first (backTo pos (starEach [] X.env)) (backToKw pos (keywordEach [] X.env))) := by rfl) :
    PE X (.Call (.Attribute o m apos) [] [] pos) (tMeth C m sp dvs E ta tNil) := by
  intro pins s σ H Q I h
  refine PySem.W.methodCall_KW (pl := pl) (thn (he pins s σ H _ I h) fun u s1 ⟨x, H1, I1, rx, a, dx, fs, ex, ea, l, q⟩ => ?_) ht
  subst ex
  obtain rfl : u = Value.ref a := rx
  refine getmeth_ok I1 ea c hm l ?_
  exact PySem.W.callWith_K0 (first := [.ref a]) I1.kIn hm.kp (run_fn (us := [.ref a]) (vs := [.ref a]) F hr hb hd hx I1 (.cons rfl .nil) q)

/-- what a class must have to be made -/
structure Mk (K : PySem.W.Frag) (C f : Addr) : Prop where
  makes : PySem.W.makesIn K C = true
  init : PySem.W.findIn K (.ref C) "__init__" = some (some (.ref f))
  fn : PySem.W.isFn K (.ref f) = true
  kp : PySem.W.keepIn K (.ref C) = true

theorem run_make {pins : List (Addr × Obj)} {σ : St} {H : Hp} {s : Shared} {Q : VK} {us : List Value} {vs : List V} (M : Mk X.K C f) (F : FnOk X.prog X.w X.K X.mg X.base CX k f fd ps sp) (hr : Room (k + 1) X.A) (hb : Binds X.K fd ps ds) (hd : Vals dvs ds)
    (hx : Passes CX X E) (I : Inv X pins σ H s) (r : Vals vs us)
    (h : ∀ x dx, H x = none → H dx = none → dx ≠ x → sp (.ref x :: (vs ++ dvs)) (upd (upd H dx (.own x)) x (.ins C dx [])) (fun v H2 => v = .non ∧ Q (.ref x) H2) E) :
    wpAny (model X.prog X.w) X.A (call (.ref C) us) (EP X pins σ Q) X.xe s := by
  have hq := h (s.heap.objs.size + 1) s.heap.objs.size (I.hok.fresh (Nat.le_succ _)) (I.hok.fresh (Nat.le_refl _)) (Nat.ne_of_lt (Nat.lt_succ_self _))
  have I2 := Inv.made (C := C) I
  have r2 : Vals (V.ref (s.heap.objs.size + 1) :: (vs ++ dvs)) (Value.ref (s.heap.objs.size + 1) :: (us ++ ds)) := .cons rfl (r.append hd)
  have hl : (Value.ref (s.heap.objs.size + 1) :: us ++ ds).length = ps.length := by
    have e := r2.length
    rw [F.len _ _ _ _ hq] at e
    exact e.symm
  refine wpAny_call (make_map (f := f) I.kIn M.makes M.init (beq_iff_eq.mp M.fn) (codeAny_mono (F.run _ X.stack _ _ ⟨Value.ref (s.heap.objs.size + 1) :: us, []⟩ (Value.ref (s.heap.objs.size + 1) :: (us ++ ds)) _ _ E (hr.make C us [])
    (I2.env0.make C us []) (hb _ (Value.ref (s.heap.objs.size + 1) :: us) I2.kIn hl) r2 hq) fun r s' hq' => ?_))
  cases r with
  | error e => exact hx pins σ _ _ e s' I2 hq'
  | ok fl =>
    cases fl with
    | ret u =>
      obtain ⟨v, H', I3, rv, ev, q3⟩ := I2.after hq'
      subst ev
      exact ⟨rv, ⟨V.ref (s.heap.objs.size + 1), H', I3, rfl, q3⟩⟩
    | next => exact False.elim hq'
    | brk => exact False.elim hq'
    | cont => exact False.elim hq'
theorem pe_make (M : Mk X.K C f) (F : FnOk X.prog X.w X.K X.mg X.base CX k f fd ps sp) (hr : Room (k + 1) X.A) (hg : Gl X x) (hm : X.mg x = some (.ref C)) (hb : Binds X.K fd ps ds) (hd : Vals dvs ds) (hx : Passes CX X E)
    (ha : PA X (e :: es) t) (hdb : (x == ("__debug__" : Str)) = false := by decide) (he : starEach (e :: es) X.env = (false, eval e X.env) :: starEach es X.env := by rfl) (hpl : (backTo pos (starEach es X.env)).any (·.1) = false := by rfl) :
    PE X (.Call (.Name x p) (e :: es) [] pos) (tMake C sp dvs E t) := by
  intro pins s σ H Q I h
  refine wpAny_Call_Name_kw (ld_glob I hg hm ?_ hdb)
  refine PySem.W.callWith_K (h₀ := X.base) I.ok.mod.kin M.kp (thn (ha pos pins s σ H _ I h) fun us s1 ⟨vs, H1, I1, r, q⟩ => ⟨I1.kIn, ?_⟩) he hpl
  exact run_make M F hr hb hd hx I1 r q
theorem pe_make0 (M : Mk X.K C f) (F : FnOk X.prog X.w X.K X.mg X.base CX k f fd ps sp) (hr : Room (k + 1) X.A) (hg : Gl X x) (hm : X.mg x = some (.ref C)) (hb : Binds X.K fd ps ds) (hd : Vals dvs ds) (hx : Passes CX X E)
    (hdb : (x == ("__debug__" : Str)) = false := by decide) : PE X (.Call (.Name x p) [] [] pos) (tMake C sp dvs E tNil) := by
  intro pins s σ H Q I h
  refine wpAny_Call_Name_kw (ld_glob I hg hm ?_ hdb)
  exact PySem.W.callWith_K0 I.kIn M.kp (run_make (us := []) M F hr hb hd hx I .nil h)
end

/-! ### keywords -/
/-- the values of the keywords, from the left -/
def PK (X : Cx) (kws : List Keyword) (t : TA) : Prop :=
  ∀ (pos : Pos) (pins : List (Addr × Obj)) (s : Shared) (σ : St) (H : Hp) (Q : List V → Hp → Prop), Inv X pins σ H s → t σ H Q → wpAny (model X.prog X.w) X.A (evalAll ((backToKw pos (keywordEach kws X.env)).map (·.2))) (AP X pins σ Q) X.xe s
section
variable {X : Cx} {CX : CXT} {k : Nat} {f C : Addr} {fd : FuncData} {ps ks : List Str} {sp : Sp} {E : XK} {x m : Str} {p pos apos kpos : Pos} {e o : Expr} {es : List Expr} {kws : List Keyword} {te ta : TE} {t tk : TA} {nm : Option Str}
theorem pk_nil : PK X [] tNil := fun _ _ _ _ H Q I h => wpAny_evalAll_nil ⟨[], H, I, .nil, h⟩
theorem pk_cons (ha : PE X e te) (hr : PK X kws t) : PK X (⟨nm, e, kpos⟩ :: kws) (tCons te t) := by
  intro pos pins s σ H Q I h
  show wpAny _ _ (evalAll ((do let v ← eval e X.env; standAt pos; pure v) :: (backToKw pos (keywordEach kws X.env)).map (·.2))) _ _ s
  refine wpAny_evalAll_cons (wpAny_bind (thn (ha pins s σ H _ I h) fun u s1 ⟨x, H1, I1, r1, q1⟩ => wpAny_bind (wpAny_standAt (wpAny_pure ?_))))
  exact thn (hr pos pins s1 σ H1 _ I1 q1) fun us s2 ⟨xs, H2, I2, r2, q2⟩ => ⟨x :: xs, H2, I2, .cons r1 r2, q2⟩

/-- how a call with keywords binds: g puts the positional values us and the keywords' values ws (names ks) in the parameters' order, defaults among them -/
structure KBinds (K : PySem.W.Frag) (fd : FuncData) (ps ks : List Str) (g : List Value → List Value → List Value) (gV : List V → List V → List V) : Prop where
  to : ∀ (s : Shared) (us ws : List Value), K.In s.heap → (g us ws).length = ps.length → BindsTo s fd ⟨us, ks.zip ws⟩ (ps.zip (g us ws))
  rel : ∀ {vs : List V} {us : List Value} {zs : List V} {ws : List Value}, Vals vs us → Vals zs ws → Vals (gV vs zs) (g us ws)
def tCallK (sp : Sp) (gV : List V → List V → List V) (E : XK) (t tk : TA) : TE := fun σ H Q => t σ H fun vs H1 => tk σ H1 fun zs H2 => sp (gV vs zs) H2 Q E
variable {g : List Value → List Value → List Value} {gV : List V → List V → List V}
theorem run_fnk {pins : List (Addr × Obj)} {σ : St} {H : Hp} {s : Shared} {Q : VK} {us ws : List Value} {vs zs : List V} (F : FnOk X.prog X.w X.K X.mg X.base CX k f fd ps sp) (hr : Room k X.A) (hb : KBinds X.K fd ps ks g gV) (hx : Passes CX X E)
    (I : Inv X pins σ H s) (r : Vals vs us) (rz : Vals zs ws) (h : sp (gV vs zs) H Q E) : wpAny (model X.prog X.w) X.A (call (.ref f) us (ks.zip ws)) (EP X pins σ Q) X.xe s := by
  have r2 := hb.rel r rz
  have hl : (g us ws).length = ps.length := by rw [← r2.length]; exact F.len _ _ _ _ h
  refine wpAny_call (codeAny_mono (F.run X.A X.stack s H ⟨us, ks.zip ws⟩ (g us ws) (gV vs zs) Q E hr I.env0 (hb.to s us ws I.kIn hl) r2 h) fun r s' hq => ?_)
  cases r with
  | error e => exact hx pins σ H s e s' I hq
  | ok fl =>
    cases fl with
    | ret u => exact I.after hq
    | next => exact False.elim hq
    | brk => exact False.elim hq
    | cont => exact False.elim hq
/-- f(e, .., k = v, ..) -/
theorem pe_callK (F : FnOk X.prog X.w X.K X.mg X.base CX k f fd ps sp) (hr : Room k X.A) (hg : Gl X x) (hm : X.mg x = some (.ref f)) (hk : PySem.W.keepIn X.K (.ref f) = true) (hb : KBinds X.K fd ps ks g gV) (hx : Passes CX X E)
    (ha : PA X (e :: es) t) (hkw : PK X kws tk) (hall : (backToKw pos (keywordEach kws X.env)).all (·.1.isSome) = true := by rfl) (hks : (backToKw pos (keywordEach kws X.env)).filterMap (·.1) = ks := by rfl)
    (hdb : (x == ("__debug__" : Str)) = false := by decide) (he : starEach (e :: es) X.env = (false, eval e X.env) :: starEach es X.env := by rfl)
    (hpl : ((backTo pos (starEach (e :: es) X.env)).any (·.1) || (backToKw pos (keywordEach kws X.env)).any (·.1.isNone)) = false := by rfl) :
    PE X (.Call (.Name x p) (e :: es) kws pos) (tCallK sp gV E t tk) := by
  intro pins s σ H Q I h
  refine wpAny_Call_Name_kw (ld_glob I hg hm ?_ hdb)
  refine PySem.W.callWith_KW (h₀ := X.base) I.ok.mod.kin hk hall (thn (ha pos pins s σ H _ I h) fun us s1 ⟨vs, H1, I1, r, q⟩ => ?_) hpl he
  refine thn (hkw pos pins s1 σ H1 _ I1 q) fun ws s2 ⟨zs, H2, I2, rz, q2⟩ => ⟨I2.kIn, ?_⟩
  rw [hks]
  exact run_fnk F hr hb hx I2 r rz q2
end

/-! ### a def's body keeps its promise -/
/-- names: the parameters first -/
structure FnScope (N P : List Str) (sc : Scope) : Prop where
  kind : sc.kind = .function
  co : sc.isCoroutine = false
  gen : sc.isGenerator = false
  nd : N.Nodup
  pre : N.take P.length = P
  par : ∀ x ∈ P, sc.names.lookup x = some .local ∨ sc.names.lookup x = some .cell
  nofree : ∀ y ∈ sc.names, y.2 ≠ .free

theorem bindL_out {kindOf : Str → Option NameKind} {x : Str} : ∀ {binds : List (Str × Value)} {m : Str → Option Value}, (∀ v, (x, v) ∉ binds) → bindL kindOf binds m x = m x
  | [], _, _ => rfl
  | (n, v) :: r, m, h => by
    unfold bindL
    rw [bindL_out fun w hw => h w (List.mem_cons_of_mem _ hw)]
    split
    · have : x ≠ n := by rintro rfl; exact h v List.mem_cons_self
      simp [this]
    · rfl
theorem bindC_out {kindOf : Str → Option NameKind} {x : Str} : ∀ {binds : List (Str × Value)} {m : Str → Option Value}, (∀ v, (x, v) ∉ binds) → bindC kindOf binds m x = m x
  | [], _, _ => rfl
  | (n, v) :: r, m, h => by
    unfold bindC
    rw [bindC_out fun w hw => h w (List.mem_cons_of_mem _ hw)]
    split
    · rfl
    · have : x ≠ n := by rintro rfl; exact h v List.mem_cons_self
      simp [this]
theorem bindL_get {kindOf : Str → Option NameKind} {x : Str} {v : Value} : ∀ {P : List Str} {vs : List Value} {i : Nat} {m : Str → Option Value}, P.Nodup → P[i]? = some x → vs[i]? = some v → kindOf x = some .local →
    bindL kindOf (P.zip vs) m x = some v
  | [], _, _, _, _, h, _, _ => by simp at h
  | _ :: _, [], _, _, _, _, h, _ => by simp at h
  | p :: P, w :: vs, 0, m, nd, h1, h2, hk => by
    simp at h1 h2; subst h1; subst h2
    show bindL kindOf ((p, w) :: P.zip vs) m p = _
    unfold bindL
    rw [bindL_out fun v hv => (List.nodup_cons.mp nd).1 (List.of_mem_zip hv).1, if_pos hk]
    simp
  | p :: P, w :: vs, i + 1, m, nd, h1, h2, hk => by
    show bindL kindOf ((p, w) :: P.zip vs) m x = _
    unfold bindL
    exact bindL_get (i := i) (List.nodup_cons.mp nd).2 (by simpa using h1) (by simpa using h2) hk
theorem bindC_get {kindOf : Str → Option NameKind} {x : Str} {v : Value} : ∀ {P : List Str} {vs : List Value} {i : Nat} {m : Str → Option Value}, P.Nodup → P[i]? = some x → vs[i]? = some v → kindOf x ≠ some .local →
    bindC kindOf (P.zip vs) m x = some v
  | [], _, _, _, _, h, _, _ => by simp at h
  | _ :: _, [], _, _, _, _, h, _ => by simp at h
  | p :: P, w :: vs, 0, m, nd, h1, h2, hk => by
    simp at h1 h2; subst h1; subst h2
    show bindC kindOf ((p, w) :: P.zip vs) m p = _
    unfold bindC
    rw [bindC_out fun v hv => (List.nodup_cons.mp nd).1 (List.of_mem_zip hv).1, if_neg hk]
    simp
  | p :: P, w :: vs, i + 1, m, nd, h1, h2, hk => by
    show bindC kindOf ((p, w) :: P.zip vs) m x = _
    unfold bindC
    exact bindC_get (i := i) (List.nodup_cons.mp nd).2 (by simpa using h1) (by simpa using h2) hk

/-- the names' values at the entry -/
def start (N : List Str) (vs : List V) : St := vs.map some ++ List.replicate (N.length - vs.length) none

/-- the context of a def's body, at its entry; an exception leaves the frame, then lies as CX says -/
def cxOf (CX : CXT) (P : Program) (w : World) (K : PySem.W.Frag) (mg : Str → Option Value) (base : Heap) (N : List Str) (qual : Str) (scope : Scope) (f : Addr) (cd : Value) (A : Around) (outer : List Env) (s : Shared) (H : Hp) (E : XK) : Cx where
  prog := P
  w := w
  K := K
  mg := mg
  base := base
  A := A.deeper (envOfC qual scope s.heap.objs.size f cd)
  N := N
  s₀ := s
  H₀ := H
  env := envOfC qual scope s.heap.objs.size f cd
  outer := outer
  stack := envOfC qual scope s.heap.objs.size f cd :: outer
  ex := []
  calm := true
  fn := fun _ => true
  pn := []
  xe := fun e s' => wpAny (model P w) (A.deeper (envOfC qual scope s.heap.objs.size f cd)) («leaving» (envOfC qual scope s.heap.objs.size f cd) e) (fun _ s'' => CX outer H s E e s'') (fun e' s'' => CX outer H s E e' s'') s'

theorem cell_has {sc : Scope} {n : Nat} {x : Str} (h : sc.names.lookup x = some .cell) : ∃ c, (cellsFrom n sc.names []).lookup x = some c := by
  have q := PySem.W.cellsFrom_some sc.names n [] (.inl h)
  exact Option.isSome_iff_exists.mp q

theorem inv_start {CX : CXT} {P : Program} {w : World} {K : PySem.W.Frag} {mg : Str → Option Value} {base : Heap} {N ps : List Str} {qual : Str} {scope : Scope} {f : Addr} {cd : Value} {A : Around} {outer : List Env} {s s1 : Shared} {H : Hp} {E : XK} {us : List Value} {vs : List V}
    (S : FnScope N ps scope) (hd : A.handled = none) (e0 : Env0 P w K mg base A outer s H) (hl : vs.length = ps.length) (r : Vals vs us)
    (x : InCallC s s.heap.objs.size (bindL (envOfC qual scope s.heap.objs.size f cd).kindOf (ps.zip us) fun _ => none) (cellsFrom (s.heap.objs.size + 1) scope.names []) (bindC (envOfC qual scope s.heap.objs.size f cd).kindOf (ps.zip us) fun _ => none) s1) :
    Inv (cxOf CX P w K mg base N qual scope f cd A outer s H E) [] (start N vs) H s1 := by
  have hpl : ps.length ≤ N.length := by have := congrArg List.length S.pre; rw [List.length_take] at this; omega
  obtain ⟨h1, tk, rfl, hk⟩ := x.done
  have noA : ∀ b : Addr, b ∉ (cxOf CX P w K mg base N qual scope f cd A outer s H E).ex := fun b z => absurd (show b ∈ ([] : List Addr) from z) (by simp)
  refine ⟨⟨e0.mod, S.kind, rfl, rfl, Nat.le_refl _, fun y z c h1 h2 => ?_, fun y hy => ?_, fun y c _ h => ?_, fun _ => hd, Around.frames_deeper e0.frames, .inr ⟨rfl, rfl⟩, fun b z => absurd z (noA b), e0.bs, e0.bsz, fun b _ _ => noA b, fun b z => absurd z (noA b), e0.funs, e0.frf⟩,
    rfl, e0.bare, Un.kept hk, ⟨_, x.toInCall.ns, fun i y v h1 h2 h3 => ?_⟩, fun y c h => ⟨_, x.cell y c h⟩, e0.hok.fresh (Nat.le_refl _), fun y c h => ?_, fun p hp => absurd (show p ∈ ([] : List (Addr × Obj)) from hp) (by simp), e0.hok.kept hk, ?_⟩
  · exact name_of_addr x.apart (PySem.mem_of_lookup h1) (PySem.mem_of_lookup h2)
  · have hy : scope.names.lookup y = some .cell ∨ scope.names.lookup y = some .free := hy
    rcases hy with hy | hy
    · exact cell_has hy
    · exact absurd rfl (S.nofree _ (PySem.mem_of_lookup hy))
  · exact Nat.le_of_lt (x.above y c (PySem.mem_of_lookup h))
  · have hi : i < vs.length := by
      unfold start at h2
      by_cases hi : i < vs.length
      · exact hi
      · rw [List.getElem?_append_right (by simpa using hi)] at h2
        rw [List.getElem?_replicate] at h2
        split at h2 <;> cases h2
    have ha : vs[i]? = some v := by
      unfold start at h2
      rw [List.getElem?_append_left (by simpa using hi), List.getElem?_map] at h2
      cases e : vs[i]? with
      | none => rw [e] at h2; cases h2
      | some a => rw [e] at h2; cases h2; rfl
    obtain ⟨u, hu, rv⟩ := r.get ha
    have hp : ps[i]? = some y := by
      rw [← S.pre, List.getElem?_take_of_lt (by omega)]; exact h1
    have ndP : ps.Nodup := by rw [← S.pre]; exact S.nd.sublist (List.take_sublist _ _)
    refine ⟨u, rv, ?_⟩
    rcases S.par y (List.mem_of_getElem? hp) with k | k
    · exact .inl ⟨k, bindL_get ndP hp hu k⟩
    · obtain ⟨c, e⟩ := cell_has (n := s.heap.objs.size + 1) k
      refine .inr ⟨.inl k, c, e, ?_⟩
      have q := x.cell y c e
      rw [bindC_get ndP hp hu (by show scope.names.lookup y ≠ _; rw [k]; decide)] at q
      exact q
  · exact e0.hok.fresh (Nat.le_of_lt (x.above y c (PySem.mem_of_lookup h)))
  · unfold start
    show _ = N.length
    rw [List.length_append, List.length_map, List.length_replicate]
    omega

/-- THE RULE: a def (or a method) of the text, by its body. The body's reading t is chosen for each entry; it is run at the parameters' values -/
theorem fn_of {CX : CXT} {P : Program} {w : World} {K : PySem.W.Frag} {mg : Str → Option Value} {base : Heap} {k : Nat} {f : Addr} {name qual : Str} {params : Arguments} {body : List Stmt} {scope : Scope} {dV kV doc pm cdv ct oc : Value} {an od : Option Addr}
    {osl : Array (Option Value)} {N ps : List Str} {sp : Sp} (lk : K.lookup f = some ⟨oc, od, .func (PySem.W.fnOf name qual params body scope dV kV doc pm an cdv ct), osl⟩) (hcd : PySem.W.codeIn K cdv qual = true) (S : FnScope N ps scope)
    (len : ∀ vs H Q E, sp vs H Q E → vs.length = ps.length)
    (hbody : ∀ (A : Around) (outer : List Env) (s : Shared) (H : Hp) (vs : List V) (Q : VK) (E : XK), Room k (A.deeper (envOfC qual scope s.heap.objs.size f cdv)) → sp vs H Q E →
      ∃ t, PSs (cxOf CX P w K mg base N qual scope f cdv A outer s H E) body t ∧ t { nx := fun _ H' => Q .non H', rt := Q } (start N vs) H) :
    FnOk P w K mg base CX (k + 1) f (PySem.W.fnOf name qual params body scope dV kV doc pm an cdv ct) ps sp := by
  refine ⟨len, fun A outer s H args us vs Q E hr e0 hb r hsp => ?_⟩
  have hl := len _ _ _ _ hsp
  have KX : K.In s.heap := e0.mod.kin.keeps fun b o e => (e0.bs b o e).1
  have lim : s.heap.NoLimit := e0.mod.nolimit.keeps fun b o e => (e0.bs b o e).1
  have hkind : ∀ y ∈ ps.zip us, scope.names.lookup y.1 = some .local ∨ (scope.names.lookup y.1 = some .cell ∧ ((cellsFrom (s.heap.objs.size + 1) scope.names []).lookup y.1).isSome = true) := fun ⟨n, v⟩ hy => by
    rcases S.par n (List.of_mem_zip hy).1 with q | q
    · exact .inl q
    · exact .inr ⟨q, PySem.W.cellsFrom_some _ _ _ (.inl q)⟩
  refine codeAny_call_function hr.depth (KX _ _ lk) rfl S.co S.gen rfl (PySem.W.codeRec_of KX hcd) (hb _ _ _ _ ?_)
  refine wpAny_newFunctionEnv_cells S.kind hkind fun env he s1 x => ?_
  subst he
  refine ⟨lim.keeps x.toInCall.keep, codeAny_func ?_⟩
  obtain ⟨t, ht, hq⟩ := hbody A outer s H vs Q E (hr.deeper _) hsp
  have I : Inv (cxOf CX P w K mg base N qual scope f cdv A outer s H E) [] (start N vs) H s1 := inv_start S hr.hd e0 hl r x
  refine wpAny_mono (ht [] s1 (start N vs) H _ I hq) (fun fl s' hs => ?_) fun e s' hs => hs
  have fin : ∀ {σ' : St} {H' : Hp} {v : V} {u : Value}, Inv (cxOf CX P w K mg base N qual scope f cdv A outer s H E) [] σ' H' s' → RelV v u → Q v H' → CE outer P w H s Q u s' :=
    fun {σ' H' v u} J rv q => ⟨v, H', J.os, J.bare, J.base, J.hok, rv, q⟩
  cases fl with
  | ret u =>
    obtain ⟨v, σ', H', J, rv, q⟩ := hs
    exact fin J rv q
  | next =>
    obtain ⟨σ', H', J, q⟩ := hs
    exact fin (v := V.non) (u := Value.none) J rfl q
  | brk =>
    obtain ⟨_, _, _, q⟩ := hs
    exact False.elim q
  | cont =>
    obtain ⟨_, _, _, q⟩ := hs
    exact False.elim q
end L2

namespace L2
open PySem PySem.Spec PyProof.Rows
section
variable {X : Cx} {x : Str} {p pos : Pos} {e : Expr} {es : List Expr} {t : TA} {id T : String} {r : List V → Hp → VK → Prop}

def tCB (r : List V → Hp → VK → Prop) (t : TA) : TE := fun σ H Q => t σ H fun vs H1 => r vs H1 Q
/-- f(e, ..), f a built-in function -/
theorem pe_callB (hc : CallR X (.builtin id) r) (hg : Gl X x) (hm : X.mg x = none) (hv : bootBuiltins x = some (.builtin id)) (ha : PA X (e :: es) t) (hn : x ≠ "__name__" := by decide) (hdb : (x == ("__debug__" : Str)) = false := by decide)
    (he : starEach (e :: es) X.env = (false, eval e X.env) :: starEach es X.env := by rfl) (hpl : (backTo pos (starEach es X.env)).any (·.1) = false := by rfl) : PE X (.Call (.Name x p) (e :: es) [] pos) (tCB r t) := by
  intro pins s σ H Q I h
  refine wpAny_Call_Name_kw (ld_blt I hg hm hv ?_ hn hdb)
  exact PyProof.Rows.callWith_builtin1 (thn (ha pos pins s σ H _ I h) fun us s1 ⟨vs, H1, I1, r1, q1⟩ => hc pins s1 σ H1 vs us Q I1 r1 q1) he hpl
/-- T(e, ..), T a built-in type -/
theorem pe_callTy (hc : CallR X (.type T) r) (hg : Gl X x) (hm : X.mg x = none) (hv : bootBuiltins x = some (.type T)) (ha : PA X (e :: es) t) (hn : x ≠ "__name__" := by decide) (hdb : (x == ("__debug__" : Str)) = false := by decide)
    (he : starEach (e :: es) X.env = (false, eval e X.env) :: starEach es X.env := by rfl) (hpl : (backTo pos (starEach es X.env)).any (·.1) = false := by rfl) : PE X (.Call (.Name x p) (e :: es) [] pos) (tCB r t) := by
  intro pins s σ H Q I h
  refine wpAny_Call_Name_kw (ld_blt I hg hm hv ?_ hn hdb)
  exact PyProof.Rows.callWith_type1 (thn (ha pos pins s σ H _ I h) fun us s1 ⟨vs, H1, I1, r1, q1⟩ => hc pins s1 σ H1 vs us Q I1 r1 q1) he hpl
/-- T() -/
theorem pe_callTy0 (hc : CallR X (.type T) r) (hg : Gl X x) (hm : X.mg x = none) (hv : bootBuiltins x = some (.type T)) (hn : x ≠ "__name__" := by decide) (hdb : (x == ("__debug__" : Str)) = false := by decide) :
    PE X (.Call (.Name x p) [] [] pos) (tCB r tNil) := by
  intro pins s σ H Q I h
  refine wpAny_Call_Name_kw (ld_blt I hg hm hv ?_ hn hdb)
  exact PyProof.Rows.callWith_type0 (hc pins s σ H [] [] Q I .nil h)
end
end L2

namespace HT
open PySem PyProof.Rows

/-- t < u of tuples of ints -/
def lexLt : List Int → List Int → Bool
  | [], [] => false
  | [], _ :: _ => true
  | _ :: _, [] => false
  | x :: xs, y :: ys => if x = y then lexLt xs ys else decide (x < y)
theorem lexLt_cons (x y : Int) (xs ys : List Int) : lexLt (x :: xs) (y :: ys) = if x = y then lexLt xs ys else decide (x < y) := rfl
theorem lexLt_nil_nil : lexLt [] [] = false := rfl
theorem lexLt_nil_cons (y : Int) (ys : List Int) : lexLt [] (y :: ys) = true := rfl
theorem lexLt_cons_nil (x : Int) (xs : List Int) : lexLt (x :: xs) [] = false := rfl

theorem eqAt_int (A : Around) (s : Shared) (a : Int) (t : Tok) (c : Int) (u : Tok) : ∃ e, SeqAt.EqAt A s (.int a t) (.int c u) e ∧ (e = true ↔ a = c) :=
  ⟨(a == c), SeqAt.EqAt.int_int a t c u, by simp⟩
theorem rcLt_int (A : Around) (s : Shared) (a : Int) (t : Tok) (c : Int) (u : Tok) (prog : Program) (w : World) (E : Value → Shared → Prop) (Q : Value → Shared → Prop) (h : Q (.bool (decide (a < c))) s) :
    wpAny (model prog w) A (richCompare .Lt (.int a t) (.int c u)) Q E s :=
  (PyProof.Rows.lt_int h : wpAny (model prog w) A (compareOp .Lt (.int a t) (.int c u)) Q E s)

section
open PySem.SeqAt
open PySem.AutoSeq1 (wpAny_loadPart')
open PySem.MeetsSeq PySem.MeetsSeq2 PySem.MeetsSeq3

theorem tuple_lt_ints (l b : Addr) (items items2 : Array Value) (n n2 : Nat) (dd dd2 : Option Addr) (sl sl2 : Array (Option Value)) (ns ms : List Int) (hi : IntsAre items.toList ns) (hj : IntsAre items2.toList ms) :
    Meets (Builtin.«tuple.__lt__» ⟨[.ref l, .ref b], []⟩)
      (fun _ R s => s.heap.get? l = some { cls := .type "tuple", dict := dd, data := .seq items n, slots := sl } ∧ s.heap.get? b = some { cls := .type "tuple", dict := dd2, data := .seq items2 n2, slots := sl2 } ∧
        R (.ok (.ret (.bool (lexLt ns ms)))) s) :=
  .of_wp fun prog w A R s h => by
    obtain ⟨hp, g, d, tk, os⟩ := s; obtain ⟨hl, hb, h⟩ := h
    have f2 := AutoSeq1.sub_tuple_tuple
    have z1 : items.size = ns.length := by rw [← hi.length]; simp
    have z2 : items2.size = ms.length := by rw [← hj.length]; simp
    wp_walk using wpAny_loadPart' hl, wpAny_loadPart' hb, wpAny_forIn_list _ (fun rest b s' => b.1 = none ∧ s' = ⟨hp, g, d, tk, os⟩ ∧ ∃ (vs ws : List Value) (ns' ms' : List Int), rest = vs.zip ws ∧
      IntsAre vs ns' ∧ IntsAre ws ms' ∧ ns'.length + items2.size = ms'.length + items.size ∧ R (.ok (.ret (.bool (lexLt ns' ms')))) ⟨hp, g, d, tk, os⟩) _
    case turn =>
      rintro ⟨y, x⟩ rest b s' ⟨hb', rfl, vs, ws, ns', ms', hz, hvi, hwi, hlen, hR⟩
      cases hvi with
      | nil => rw [List.zip_nil_left] at hz; cases hz
      | cons a t hvi' =>
        cases hwi with
        | nil => rw [List.zip_nil_right] at hz; cases hz
        | cons c u hwi' =>
          rw [List.zip_cons_cons] at hz
          injection hz with hyx hrest
          injection hyx with hy hx
          subst hy hx
          rw [lexLt_cons] at hR
          simp only [List.length_cons] at hlen
          obtain ⟨e, he, hiff⟩ := eqAt_int A.in1 ⟨hp, g, d, tk, os⟩ a t c u
          refine wpAny_bind (he prog w _ _ ?_)
          cases e with
          | true =>
            rw [if_pos (hiff.mp rfl)] at hR
            wp_walk
            exact ⟨rfl, rfl, _, _, _, _, hrest, hvi', hwi', by omega, hR⟩
          | false =>
            rw [if_neg (fun q => absurd (hiff.mpr q) Bool.false_ne_true)] at hR
            have hri := rcLt_int A.in1 ⟨hp, g, d, tk, os⟩ a t c u prog w
            wp_walk using hri
            exact ⟨_, rfl, by simpa using hR⟩
    case fin =>
      rintro ⟨b1, b2⟩ s' ⟨hb', rfl, vs, ws, ns', ms', hz, hvi, hwi, hlen, hR⟩
      simp only at hb'
      subst hb'
      have hv : lexLt ns' ms' = decide (items.size < items2.size) := by
        cases hvi with
        | nil =>
          cases hwi with
          | nil =>
            simp only [List.length_nil] at hlen
            rw [lexLt_nil_nil]
            exact (decide_eq_false (by omega)).symm
          | cons c u hw =>
            simp only [List.length_nil, List.length_cons] at hlen
            rw [lexLt_nil_cons]
            exact (decide_eq_true (by omega)).symm
        | cons a t hv =>
          cases hwi with
          | nil =>
            simp only [List.length_nil, List.length_cons] at hlen
            rw [lexLt_cons_nil]
            exact (decide_eq_false (by omega)).symm
          | cons c u hw =>
            rw [List.zip_cons_cons] at hz
            cases hz
      rw [hv] at hR
      wp_walk
      exact ⟨_, rfl, by simpa [Builtin.Tuple.tupleCompareSizes] using hR⟩
    case h =>
      exact ⟨rfl, rfl, items.toList, items2.toList, ns, ms, rfl, hi, hj, by omega, h⟩
end

section
variable {prog : Program} {w : World} {A : Around} {E : Value → Shared → Prop} {s : Shared}

theorem lt_tupInts {l b : Addr} {items items2 : Array Value} {ns ms : List Int} {Q : Value → Shared → Prop} (hl : IsTup s.heap l items) (hb : IsTup s.heap b items2) (hi : IntsAre items.toList ns) (hj : IntsAre items2.toList ms)
    (hu : A.units < cLine) (h : Q (.bool (lexLt ns ms)) s) : wpAny (model prog w) A (compareOp .Lt (.ref l) (.ref b)) Q E s := by
  obtain ⟨⟨cls, dd, data, sl⟩, ho, hc, n, hd⟩ := id hl
  obtain ⟨⟨cls2, dd2, data2, sl2⟩, ho2, hc2, n2, hd2⟩ := id hb
  simp only at hc hd hc2 hd2
  subst hc hd hc2 hd2
  exact richCompare_meets_room (op := .Lt) ⟨_, ho, rfl⟩ ⟨_, ho2, rfl⟩ PySem.F.slot_tuple_lt PySem.F.entry_tuple_lt (PySem.F.args_tuple_lt_2 _ _) (tuple_lt_ints l b items items2 n n2 dd dd2 sl sl2 ns ms hi hj)
    ⟨ho, ho2, show Value.bool (lexLt ns ms) ≠ Value.notImplemented ∧ Q (.bool (lexLt ns ms)) s from ⟨(fun x => nomatch x), h⟩⟩ hu

/-- t + u, t not empty -/
theorem cat_tup {t b : Addr} {vs ws : List Value} {Q : Value → Shared → Prop} (ht : IsTup s.heap t vs.toArray) (hb : IsTup s.heap b ws.toArray) (hv : vs ≠ [])
    (h1 : ws = [] → Q (.ref t) s) (h2 : ws ≠ [] → Q (.ref s.heap.objs.size) { s with heap := s.heap.push { cls := .type "tuple", data := .seq (vs ++ ws).toArray } })
    (hsz : vs.length + ws.length ≤ sizeLine) : wpAny (model prog w) A (binaryOp .Add (.ref t) (.ref b)) Q E s := by
  obtain ⟨⟨cls, dd, data, sl⟩, ho, hc, n, hd⟩ := id ht
  obtain ⟨⟨cls2, dd2, data2, sl2⟩, ho2, hc2, n2, hd2⟩ := id hb
  simp only at hc hd hc2 hd2
  subst hc hd hc2 hd2
  have e : vs.toArray ++ ws.toArray = (vs ++ ws).toArray := by simp
  by_cases hw : ws = []
  · exact concat_meets ⟨_, ho, rfl⟩ ⟨_, ho2, rfl⟩ noFill_tuple_add seq_tuple_add PySem.F.slot_tuple_add PySem.F.entry_tuple_add (PySem.F.args_tuple_add_2 _ _)
      (tuple_addW1 t b vs.toArray ws.toArray n n2 dd dd2 sl sl2 (by simpa using hv) (by simp [hw])) ⟨ho, ho2, h1 hw⟩
  · refine concat_meets ⟨_, ho, rfl⟩ ⟨_, ho2, rfl⟩ noFill_tuple_add seq_tuple_add PySem.F.slot_tuple_add PySem.F.entry_tuple_add (PySem.F.args_tuple_add_2 _ _)
      (tuple_addW2 t b vs.toArray ws.toArray n n2 dd dd2 sl sl2 (by simpa using hv) (by simpa using hw) (by rw [List.size_toArray, List.size_toArray]; exact hsz)) ⟨ho, ho2, ?_⟩
    rw [e]
    exact h2 hw

/-! ### t[a:b], not the whole -/
/-- a slice's bound as a place among n (d where it is left out) -/
def sIx (n d : Nat) : Option Int → Nat
  | none => d
  | some v => if v < 0 then (v + (n : Int)).toNat else min v.toNat n
theorem sIx_none (n d : Nat) : sIx n d none = d := rfl
theorem sIx_nat (n d k : Nat) : sIx n d (some (k : Int)) = min k n := by
  show (if (k : Int) < 0 then ((k : Int) + (n : Int)).toNat else min (k : Int).toNat n) = min k n
  rw [if_neg (by omega), Int.toNat_natCast]
theorem sIx_le (n d : Nat) (hd : d ≤ n) (o : Option Int) : sIx n d o ≤ n := by
  cases o with
  | none => exact hd
  | some v =>
    show (if v < 0 then (v + (n : Int)).toNat else min v.toNat n) ≤ n
    by_cases hv : v < 0
    · rw [if_pos hv]; omega
    · rw [if_neg hv]; exact Nat.min_le_right _ _
theorem clip_eq (v : Int) (n d : Nat) : (if v < 0 then max (v + (n : Int)) 0 else min v (n : Int)) = ((sIx n d (some v) : Nat) : Int) := by
  show (if v < 0 then max (v + (n : Int)) 0 else min v (n : Int)) = (((if v < 0 then (v + (n : Int)).toNat else min v.toNat n) : Nat) : Int)
  by_cases hv : v < 0
  · simp only [if_pos hv]; omega
  · simp only [if_neg hv]; omega
theorem adjust_gen (lo hi : Option Int) (n : Nat) : Builtin.Slice.sliceAdjust lo hi 1 (n : Int) = (((sIx n 0 lo : Nat) : Int), ((sIx n n hi : Nat) : Int)) := by
  have h1 : ¬ ((1 : Int) < 0) := by omega
  unfold Builtin.Slice.sliceAdjust
  simp only [h1, if_false]
  refine Prod.ext ?_ ?_
  · cases lo with
    | none => rfl
    | some v => exact clip_eq v n 0
  · cases hi with
    | none => rfl
    | some v => exact clip_eq v n n
theorem places_gen (i j : Nat) : Builtin.Slice.slicePlaces (i : Int) (j : Int) 1 = j - i := by
  unfold Builtin.Slice.slicePlaces
  have h1 : (1 : Int) > 0 := by omega
  simp only [h1, if_true, Int.ediv_one]
  split <;> omega
theorem slicePart_ {v : Value} {o : Option Int} {Q : Option Int → Shared → Prop} (p : IsPart v o) (h : Q o s) : wpAny (model prog w) A (Builtin.Slice.slicePartIndex v) Q E s := by
  cases p with
  | none => exact slicePart_none h
  | int i t => exact slicePart_int h
theorem sliceApplied_gen {sl : Addr} {vl vu : Value} {lo hi : Option Int} {n : Nat} {Q : Int × Int × Nat → Shared → Prop} (hs : s.heap.IsSliceOf sl vl vu .none) (pl : IsPart vl lo) (pu : IsPart vu hi)
    (h : Q (((sIx n 0 lo : Nat) : Int), 1, sIx n n hi - sIx n 0 lo) s) : wpAny (model prog w) A (Builtin.Slice.sliceApplied (.ref sl) (pure (n : Int))) Q E s := by
  obtain ⟨os, hos, hcs, hds⟩ := id hs
  unfold Builtin.Slice.sliceApplied Builtin.Slice.sliceFields
  refine wpAny_bind (wpAny_bind (wpAny_field hos hds (x := vl) rfl (wpAny_bind (wpAny_field hos hds (x := vu) rfl (wpAny_bind (wpAny_field hos hds (x := .none) rfl (wpAny_pure ?_)))))))
  refine wpAny_bind (slicePart_none ?_)
  show wpAny _ _ (if ((1 : Int) == 0) = true then _ else _) _ _ s
  rw [if_neg (by decide)]
  refine wpAny_bind (slicePart_ pl (wpAny_bind (slicePart_ pu (wpAny_bind (wpAny_pure ?_)))))
  show wpAny _ _ (match Builtin.Slice.sliceAdjust lo hi 1 (n : Int) with | (lo, hi) => pure (lo, (1 : Int), Builtin.Slice.slicePlaces lo hi 1)) _ _ s
  rw [adjust_gen lo hi n]
  show wpAny _ _ (pure (((sIx n 0 lo : Nat) : Int), (1 : Int), Builtin.Slice.slicePlaces ((sIx n 0 lo : Nat) : Int) ((sIx n n hi : Nat) : Int) 1)) _ _ s
  rw [places_gen]
  exact wpAny_pure h
theorem pick_gen (xs : Array Value) (i k : Nat) : ((List.range k).filterMap fun (m : Nat) => xs[((i : Int) + (m : Int) * 1).toNat]?).toArray = ((xs.toList.drop i).take k).toArray := by
  have e : (fun (m : Nat) => xs[((i : Int) + (m : Int) * 1).toNat]?) = fun m => xs[i + m]? := by
    funext m
    have : ((i : Int) + (m : Int) * 1).toNat = i + m := by omega
    rw [this]
  rw [e]
  have := pick_run xs i k
  rw [List.filterMap_map] at this
  have e2 : ((fun x => xs[x]?) ∘ fun x => i + x) = fun m => xs[i + m]? := rfl
  rw [e2] at this
  rw [this]

theorem getItem_tuple_cut {t sl : Addr} {items : Array Value} {vl vu : Value} {lo hi : Option Int} {Q : Value → Shared → Prop} (ht : IsTup s.heap t items) (hs : s.heap.IsSliceOf sl vl vu .none) (pl : IsPart vl lo) (pu : IsPart vu hi)
    (hw : ¬ (sIx items.size 0 lo = 0 ∧ sIx items.size items.size hi = items.size))
    (h : Q (.ref s.heap.objs.size) { s with heap := s.heap.push { cls := .type "tuple", data := .seq ((items.toList.drop (sIx items.size 0 lo)).take (sIx items.size items.size hi - sIx items.size 0 lo)).toArray } })
    (hsz : items.size ≤ sizeLine) : wpAny (model prog w) A (getItem (.ref t) (.ref sl)) Q E s := by
  have htake : sizeOk (.seq ((items.toList.drop (sIx items.size 0 lo)).take (sIx items.size items.size hi - sIx items.size 0 lo)).toArray) := by
    show ((items.toList.drop (sIx items.size 0 lo)).take (sIx items.size items.size hi - sIx items.size 0 lo)).toArray.size ≤ sizeLine
    rw [List.size_toArray, List.length_take, List.length_drop, Array.length_toList]
    omega
  have hj : sIx items.size items.size hi ≤ items.size := sIx_le _ _ (Nat.le_refl _) hi
  obtain ⟨os, hos, hcs, hds⟩ := id hs
  have hTs : s.TypeIs (.ref sl) "slice" := ⟨os, hos, hcs⟩
  unfold getItem
  try with_reducible refine wpAny_holding ?_
  first | refine wpAny_bind (wpAny_pure ?_) | skip
  refine wpAny_bind (wpAny_sequenceKey ht.typeIs (by decide) ?_)
  refine wpAny_bind (wpAny_callSpecial?_slot (name := Str.ofString "__getitem__") ht.typeIs PyProof.Rows.slot_tuple_getitem
    (wpAny_call_entry PyProof.Rows.slot_tuple_getitem ht.typeIs entry_tuple_getitem ?_ (args_tuple_getitem _ _)))
  show wpAny _ _ (Builtin.Tuple.tupleItemsOf (.ref t) >>= _) _ _ s
  refine wpAny_bind (tupleItemsOf_ ht ?_)
  refine wpAny_bind (wpAny_typeOf hTs ?_)
  rw [if_pos (by decide)]
  refine wpAny_bind (sliceApplied_gen hs pl pu ?_)
  have hno : ¬ ((((sIx items.size 0 lo : Nat) : Int) == 0 && (1 : Int) == 1 && (sIx items.size items.size hi - sIx items.size 0 lo) == items.size) = true) := by
    intro q
    rw [Bool.and_eq_true, Bool.and_eq_true] at q
    have q1 : ((sIx items.size 0 lo : Nat) : Int) = 0 := eq_of_beq q.1.1
    have q2 : sIx items.size items.size hi - sIx items.size 0 lo = items.size := eq_of_beq q.2
    exact hw ⟨by omega, by omega⟩
  show wpAny _ _ (if (((sIx items.size 0 lo : Nat) : Int) == 0 && (1 : Int) == 1 && (sIx items.size items.size hi - sIx items.size 0 lo) == items.size) = true then _ else _) _ _ s
  rw [if_neg hno, pick_gen]
  first
    | exact wpAny_bind (m := Builtin.Tuple.tupleExact _) (wpAny_newObj_type (wpAny_pure ⟨_, rfl, wpAny_pure h⟩) htake)
    | exact wpAny_bind (m := Builtin.Tuple.tupleExact _) (wpAny_newObj_type (wpAny_bind (wpAny_pure (wpAny_pure ⟨_, rfl, wpAny_pure h⟩))) htake)
    | exact wpAny_bind (wpAny_bind (m := Builtin.Tuple.tupleExact _) (wpAny_newObj_type (wpAny_pure (wpAny_pure ⟨_, rfl, wpAny_pure h⟩)) htake))
    | exact wpAny_bind (wpAny_bind (m := Builtin.Tuple.tupleExact _) (wpAny_newObj_type (wpAny_pure ⟨_, rfl, wpAny_pure h⟩) htake))
end
end HT

namespace L2
open PySem PySem.Spec PyProof.Rows

/-! ### the parts of a slice -/
abbrev TO := St → Hp → (Option Int → Hp → Prop) → Prop
/-- a slice's part (left out, or an int) -/
def PO (X : Cx) (e : Option Expr) (t : TO) : Prop :=
  ∀ (pins : List (Addr × Obj)) (s : Shared) (σ : St) (H : Hp) (Q : Option Int → Hp → Prop), Inv X pins σ H s → t σ H Q →
    wpAny (model X.prog X.w) X.A (evalPart e X.env) (fun u s' => ∃ o H', Inv X pins σ H' s' ∧ IsPart u o ∧ Q o H') X.xe s
def tNoPart : TO := fun _ H Q => Q none H
def tPart (t : TE) : TO := fun σ H Q => t σ H fun x H1 => ∃ i, x = .int i ∧ Q (some i) H1

theorem intsAre_of {ns : List Int} : ∀ {us : List Value}, Vals (ns.map V.int) us → IntsAre us ns := by
  induction ns with
  | nil => intro us r; rw [List.map_nil] at r; cases r; exact .nil
  | cons n ns ih =>
    intro us r
    rw [List.map_cons] at r
    cases r with
    | cons r1 r2 =>
      obtain ⟨t, e⟩ := r1
      subst e
      exact .cons n t (ih r2)

section
variable {X : Cx} {e : Expr} {te : TE} {lo hi : Option Expr} {tl th : TO} {pos p2 : Pos}

theorem po_none : PO X none tNoPart := by
  intro pins s σ H Q I h
  rw [evalPart_none]
  exact wpAny_pure ⟨none, H, I, .none, h⟩
theorem po_some (h : PE X e te) : PO X (some e) (tPart te) := by
  intro pins s σ H Q I hw
  rw [evalPart_some]
  refine thn (h pins s σ H _ I hw) fun u s1 ⟨x, H1, I1, r1, q1⟩ => ?_
  obtain ⟨i, rfl, q⟩ := q1
  obtain ⟨t, rfl⟩ := r1
  exact ⟨some i, H1, I1, .int i t, q⟩

/-- what a slice of a value is, by values: the slice object stands at sl -/
def SlR (X : Cx) (r : V → Option Int → Option Int → Hp → VK → Prop) : Prop :=
  ∀ (pins : List (Addr × Obj)) (s : Shared) (σ : St) (H : Hp) (x : V) (v vl vu : Value) (lo hi : Option Int) (sl : Addr) (Q : VK), Inv X pins σ H s → RelV x v → s.heap.IsSliceOf sl vl vu .none → IsPart vl lo → IsPart vu hi → r x lo hi H Q →
    ∃ T id, typeLookup (.type T) "__getitem__" = pure (some (.builtin id)) ∧ s.TypeIs v T ∧ wpAny (model X.prog X.w) X.A (getItem v (.ref sl)) (EP X pins σ Q) X.xe s
theorem SlR.or {r r' : V → Option Int → Option Int → Hp → VK → Prop} (h : SlR X r) (h' : SlR X r') : SlR X (fun x lo hi H Q => r x lo hi H Q ∨ r' x lo hi H Q) := by
  intro pins s σ H x v vl vu lo hi sl Q I rx hs pl pu q
  rcases q with q | q
  · exact h pins s σ H x v vl vu lo hi sl Q I rx hs pl pu q
  · exact h' pins s σ H x v vl vu lo hi sl Q I rx hs pl pu q
def tSl (r : V → Option Int → Option Int → Hp → VK → Prop) (te : TE) (tl th : TO) : TE := fun σ H Q => te σ H fun x H1 => tl σ H1 fun l H2 => th σ H2 fun u H3 => r x l u H3 Q
/-- a[lo:hi], any a -/
theorem pe_slice {r : V → Option Int → Option Int → Hp → VK → Prop} (hr : SlR X r) (he : PE X e te) (hl : PO X lo tl) (hu : PO X hi th) : PE X (.Subscript e (.Slice lo hi none p2) pos) (tSl r te tl th) := by
  intro pins s σ H Q I h
  refine Subscript_ (thn (he pins s σ H _ I h) fun v s1 ⟨x, H1, I1, r1, q1⟩ => ?_)
  refine wpAny_Slice (thn (hl pins s1 σ H1 _ I1 q1) fun vl s2 ⟨l, H2, I2, pl, q2⟩ => thn (hu pins s2 σ H2 _ I2 q2) fun vu s3 ⟨u, H3, I3, pu, q3⟩ => ?_)
  rw [evalPart_none]
  refine wpAny_pure ?_
  have I4 : Inv X pins σ H3 { s3 with heap := s3.heap.push { cls := .type "slice", data := .fields #[vl, vu, .none] } } := I3.kept (t' := s3.toks) fun b ob q => Heap.get?_push_of_some _ q
  obtain ⟨T, id, hT, ht, hg⟩ := hr pins { s3 with heap := s3.heap.push { cls := .type "slice", data := .fields #[vl, vu, .none] } } σ H3 x v vl vu l u s3.heap.objs.size Q I4 r1 (Heap.IsSliceOf.new ..) pl pu q3
  show wpAny (model X.prog X.w) X.A (subscriptTail e (.Slice lo hi none p2) v (.ref s3.heap.objs.size)) (EP X pins σ Q) X.xe { s3 with heap := s3.heap.push { cls := .type "slice", data := .fields #[vl, vu, .none] } }
  exact tail_any (ops := [.ref s3.heap.objs.size, v]) ht hT hg (by with_unfolding_all rfl)

/-- the items of xs[lo:hi] -/
def cutV (xs : List V) (lo hi : Option Int) : List V := (xs.drop (HT.sIx xs.length 0 lo)).take (HT.sIx xs.length xs.length hi - HT.sIx xs.length 0 lo)
theorem cutV_length (xs : List V) (lo hi : Option Int) : (cutV xs lo hi).length ≤ xs.length := by
  unfold cutV
  rw [List.length_take, List.length_drop]
  omega
/-- t[lo:hi], not the whole of it (the whole would be t itself) -/
def rSlT (K : PySem.W.Frag) : V → Option Int → Option Int → Hp → VK → Prop := fun x lo hi H Q => ∃ a xs, x = .ref a ∧ SqT K H a xs ∧
  ¬ (HT.sIx xs.length 0 lo = 0 ∧ HT.sIx xs.length xs.length hi = xs.length) ∧ ∀ p, H p = none → Q (.ref p) (upd H p (.tup (cutV xs lo hi)))
theorem sl_tup : SlR X (rSlT X.K) := by
  intro pins s σ H x v vl vu lo hi sl Q I rx hs pl pu h
  obtain ⟨a, xs, rfl, hx, hw, q⟩ := h
  cases rx
  obtain ⟨its, r, ht, hz⟩ := I.tuple hx
  have hlen : its.toArray.size = xs.length := by rw [List.size_toArray]; exact r.length.symm
  refine ⟨"tuple", _, PyProof.Rows.slot_tuple_getitem.lookup, ht.typeIs, ?_⟩
  refine HT.getItem_tuple_cut ht hs pl pu (by rw [hlen]; exact hw) ?_ (by rw [hlen]; exact hz)
  rw [hlen]
  refine ⟨.ref s.heap.objs.size, _, I.laid (t' := s.toks) (o := .tup (cutV xs lo hi)) (fun b ob q => Heap.get?_push_of_some _ q) (Nat.le_refl _) ?_, rfl, q _ (I.hok.fresh (Nat.le_refl _))⟩
  exact ⟨Nat.le_trans (cutV_length xs lo hi) hz, _, (r.drop (HT.sIx xs.length 0 lo)).take (HT.sIx xs.length xs.length hi - HT.sIx xs.length 0 lo), IsTup.new _ _⟩

/-! ### t < u, t + u -/
def rLtT (K : PySem.W.Frag) : R2 := fun x y H Q => ∃ a b ns ms, x = .ref a ∧ y = .ref b ∧ SqT K H a (ns.map V.int) ∧ SqT K H b (ms.map V.int) ∧ Q (.bl (HT.lexLt ns ms)) H
theorem op_ltT (hu : X.A.units < cLine) : OpR X (compareOp .Lt) (rLtT X.K) := by
  intro pins s σ H x y v u Q I rx ry h
  obtain ⟨a, b, ns, ms, rfl, rfl, ha, hb, q⟩ := h
  cases rx
  cases ry
  obtain ⟨its, r1, p1, _⟩ := I.tuple ha
  obtain ⟨its2, r2, p2, _⟩ := I.tuple hb
  have i1 : IntsAre its.toArray.toList ns := intsAre_of r1
  have i2 : IntsAre its2.toArray.toList ms := intsAre_of r2
  exact HT.lt_tupInts p1 p2 i1 i2 hu ⟨.bl (HT.lexLt ns ms), H, I, rfl, q⟩
/-- t + u, t not empty: u empty gives t itself -/
def rCatT (K : PySem.W.Frag) : R2 := fun x y H Q => ∃ a b xs ys, x = .ref a ∧ y = .ref b ∧ SqT K H a xs ∧ SqT K H b ys ∧ xs ≠ [] ∧ xs.length + ys.length ≤ sizeLine ∧
  (ys = [] → Q (.ref a) H) ∧ (ys ≠ [] → ∀ p, H p = none → Q (.ref p) (upd H p (.tup (xs ++ ys))))
theorem Vals.nil_iff {xs : List V} {us : List Value} (r : Vals xs us) : us = [] ↔ xs = [] := by
  cases r with
  | nil => simp
  | cons _ _ => simp
theorem op_catT : OpR X (binaryOp .Add) (rCatT X.K) := by
  intro pins s σ H x y v u Q I rx ry h
  obtain ⟨a, b, xs, ys, rfl, rfl, ha, hb, hx, hz, q1, q2⟩ := h
  cases rx
  cases ry
  obtain ⟨its, r1, p1, _⟩ := I.tuple ha
  obtain ⟨its2, r2, p2, _⟩ := I.tuple hb
  refine HT.cat_tup p1 p2 (fun z => hx (r1.nil_iff.mp z)) (fun z => ⟨.ref a, H, I, rfl, q1 (r2.nil_iff.mp z)⟩) (fun z => ?_) (by rw [← r1.length, ← r2.length]; exact hz)
  refine ⟨.ref s.heap.objs.size, _, I.laid (t' := s.toks) (o := .tup (xs ++ ys)) (fun b ob q => Heap.get?_push_of_some _ q) (Nat.le_refl _) ?_, rfl, q2 (fun w => z (r2.nil_iff.mpr w)) _ (I.hok.fresh (Nat.le_refl _))⟩
  exact ⟨by rw [List.length_append]; exact hz, _, r1.append r2, IsTup.new _ _⟩
/-- tuple(t) -/
theorem call_tupleT : CallR X (.type "tuple") (fun xs H Q => ∃ a ys, xs = [.ref a] ∧ SqT X.K H a ys ∧ Q (.ref a) H) := by
  intro pins s σ H xs us Q I r h
  obtain ⟨a, ys, rfl, ha, q⟩ := h
  obtain ⟨u, rfl, ru⟩ := vals1 r
  cases ru
  obtain ⟨its, _, p1, _⟩ := I.tuple ha
  exact call_tuple_same (items := its.toArray) p1 ⟨.ref a, H, I, rfl, q⟩
end
end L2

namespace L2
open PySem PySem.Spec PyProof.Rows

/-! ### places -/
/-- the place that an index of any sign means -/
def ixN (n : Nat) (i : Int) : Option Nat := if 0 ≤ i then (if i < n then some i.toNat else none) else if -(n : Int) ≤ i then some (i + n).toNat else none
def atI {α : Type} (xs : List α) (i : Int) : Option α := (ixN xs.length i).bind fun j => xs[j]?
theorem ixN_seq {n : Nat} {i : Int} {j : Nat} (h : ixN n i = some j) : seqIndex? i n = some j ∧ j < n ∧ -(n : Int) ≤ i ∧ i < n := by
  unfold ixN at h
  by_cases h0 : 0 ≤ i
  · rw [if_pos h0] at h
    by_cases h1 : i < n
    · rw [if_pos h1] at h
      have e : i.toNat = j := Option.some.inj h
      exact ⟨by rw [seqIndex_of h0 h1, e], by omega, by omega, h1⟩
    · rw [if_neg h1] at h; cases h
  · rw [if_neg h0] at h
    by_cases h1 : -(n : Int) ≤ i
    · rw [if_pos h1] at h
      have e : (i + n).toNat = j := Option.some.inj h
      exact ⟨by rw [seqIndex_neg (by omega) h1, e], by omega, h1, by omega⟩
    · rw [if_neg h1] at h; cases h
theorem atI_get {α : Type} {xs : List α} {i : Int} {v : α} (h : atI xs i = some v) : ∃ j, seqIndex? i xs.length = some j ∧ xs[j]? = some v ∧ j < xs.length ∧ -(xs.length : Int) ≤ i ∧ i < xs.length := by
  unfold atI at h
  cases e : ixN xs.length i with
  | none => rw [e] at h; cases h
  | some j =>
    rw [e] at h
    obtain ⟨h1, h2, h3, h4⟩ := ixN_seq e
    exact ⟨j, h1, h, h2, h3, h4⟩
theorem atI_nat {α : Type} {xs : List α} {j : Nat} {v : α} (h : xs[j]? = some v) : atI xs (j : Int) = some v := by
  have hj : j < xs.length := (List.getElem?_eq_some_iff.mp h).1
  have e : ixN xs.length (j : Int) = some j := by
    unfold ixN
    rw [if_pos (by omega), if_pos (by omega)]; simp
  unfold atI; rw [e]; exact h
theorem atI_last {α : Type} (xs : List α) (v : α) : atI (xs ++ [v]) (-1) = some v := by
  have hl : (xs ++ [v]).length = xs.length + 1 := by simp
  have e : ixN (xs ++ [v]).length (-1) = some xs.length := by
    unfold ixN
    rw [hl, if_neg (by decide), if_pos (by omega)]
    congr 1
    omega
  unfold atI
  rw [e]
  show (xs ++ [v])[xs.length]? = some v
  simp

/-! ### what may be subscripted -/
/-- what stands as an index of a plain subscript -/
def PlainIx (b : Expr) : Prop := ∀ o i, subscripted b false o i = operate [o, i] (getItem o i)
/-- a subscript by values -/
def IxR (X : Cx) (r : R2) : Prop :=
  ∀ (value slice : Expr) (pins : List (Addr × Obj)) (s : Shared) (σ : St) (H : Hp) (x y : V) (v u : Value) (Q : VK), Inv X pins σ H s → RelV x v → RelV y u → r x y H Q →
    subscripted slice false v u = operate [v, u] (getItem v u) → wpAny (model X.prog X.w) X.A (subscriptTail value slice v u) (EP X pins σ Q) X.xe s
/-- a call of a builtin's method by values: the receiver, the arguments -/
def MtR (X : Cx) (id : String) (r : V → List V → Hp → VK → Prop) : Prop :=
  ∀ (pins : List (Addr × Obj)) (s : Shared) (σ : St) (H : Hp) (x : V) (xs : List V) (v : Value) (us : List Value) (Q : VK), Inv X pins σ H s → RelV x v → Vals xs us → r x xs H Q →
    wpAny (model X.prog X.w) X.A (call (.builtin id) (v :: us)) (EP X pins σ Q) X.xe s
section
variable {X : Cx} {a b : Expr} {ta tb : TE} {pos : Pos}
theorem IxR.or {r r' : R2} (h : IxR X r) (h' : IxR X r') : IxR X (fun x y H Q => r x y H Q ∨ r' x y H Q) := by
  intro value slice pins s σ H x y v u Q I rx ry q hs
  rcases q with q | q
  · exact h value slice pins s σ H x y v u Q I rx ry q hs
  · exact h' value slice pins s σ H x y v u Q I rx ry q hs
theorem MtR.or {id : String} {r r' : V → List V → Hp → VK → Prop} (h : MtR X id r) (h' : MtR X id r') : MtR X id (fun x xs H Q => r x xs H Q ∨ r' x xs H Q) := by
  intro pins s σ H x xs v us Q I rx rs q
  rcases q with q | q
  · exact h pins s σ H x xs v us Q I rx rs q
  · exact h' pins s σ H x xs v us Q I rx rs q
/-- a[b] -/
theorem pe_ix {r : R2} (hr : IxR X r) (ha : PE X a ta) (hb : PE X b tb) (hs : PlainIx b) : PE X (.Subscript a b pos) (tOp r ta tb) := by
  intro pins s σ H Q I h
  exact Subscript_ (binT ha hb I h fun v u s2 x y H2 I2 rx ry q => hr a b pins s2 σ H2 x y v u Q I2 rx ry q (hs _ _))

def rIxL (K : PySem.W.Frag) : R2 := fun x y H Q => ∃ p xs i v, x = .ref p ∧ y = .int i ∧ SqL K H p xs ∧ atI xs i = some v ∧ Q v H
def rIxT (K : PySem.W.Frag) : R2 := fun x y H Q => ∃ p xs i v, x = .ref p ∧ y = .int i ∧ SqT K H p xs ∧ atI xs i = some v ∧ Q v H
def rIxS : R2 := fun x y H Q => ∃ z i c, x = .str z ∧ y = .int i ∧ z.length ≤ sizeLine ∧ atI z.cps.toList i = some c ∧ Q (.str ⟨#[c]⟩) H
theorem ix_list : IxR X (rIxL X.K) := by
  intro value slice pins s σ H x y v u Q I rx ry h hs
  obtain ⟨p, xs, i, z, rfl, rfl, hq, he, q⟩ := h
  cases rx
  obtain ⟨t, rfl⟩ := ry
  obtain ⟨its, r, pl, hz⟩ := I.list hq
  obtain ⟨j, h1, h2, h3, h4, h5⟩ := atI_get he
  obtain ⟨w, ew, rw'⟩ := r.get h2
  have hl := r.length
  have hn := line63
  have fin : EP X pins σ Q w s := ⟨z, H, I, rw', q⟩
  by_cases h0 : 0 ≤ i
  · have hj : i.toNat = j := by
      rw [seqIndex_of h0 h5] at h1
      exact Option.some.inj h1
    exact item_listR pl.isList h0 (by omega) (by rw [hj]; simpa using ew) fin hs
  · have hj : (i + (its.toArray.size : Int)).toNat = j := by
      rw [seqIndex_neg (by omega) h4] at h1
      rw [List.size_toArray, ← hl]
      exact Option.some.inj h1
    exact subscriptTail_builtinR (x := w) pl.isList.typeIs slot_list_getitem.lookup
      (wpAny_getItem_list_neg (Q := fun r s' => r = w ∧ EP X pins σ Q r s') pl.isList (by omega) (by rw [List.size_toArray] <;> omega) (by omega) (by rw [hj]; simpa using ew) ⟨rfl, fin⟩) hs
theorem ix_tup : IxR X (rIxT X.K) := by
  intro value slice pins s σ H x y v u Q I rx ry h hs
  obtain ⟨p, xs, i, z, rfl, rfl, hq, he, q⟩ := h
  cases rx
  obtain ⟨t, rfl⟩ := ry
  obtain ⟨its, r, pl, hz⟩ := I.tuple hq
  obtain ⟨j, h1, h2, h3, h4, h5⟩ := atI_get he
  obtain ⟨w, ew, rw'⟩ := r.get h2
  have hl := r.length
  have hn := line63
  have fin : EP X pins σ Q w s := ⟨z, H, I, rw', q⟩
  exact subscriptTail_builtinR (x := w) pl.typeIs slot_tuple_getitem.lookup
    (getItem_tuple (j := j) (Q := fun r s' => r = w ∧ EP X pins σ Q r s') pl (by omega) (by omega) (by rw [List.size_toArray, ← hl]; exact h1) (by simpa using ew) ⟨rfl, fin⟩) hs
theorem ix_str : IxR X rIxS := by
  intro value slice pins s σ H x y v u Q I rx ry h hs
  obtain ⟨z, i, c, rfl, rfl, hz, he, q⟩ := h
  obtain ⟨t, rfl⟩ := rx
  obtain ⟨t', rfl⟩ := ry
  obtain ⟨j, h1, h2, h3, h4, h5⟩ := atI_get he
  have hl : z.cps.toList.length = z.length := by simp [Str.length]
  rw [hl] at h1 h4 h5
  have hn := line63
  exact tail_any (typeIs_str s z t) slot_str_getitem.lookup (getItem_str (c := c) (by
    have e1 : decide (i < -(2 ^ 63 : Int)) = false := decide_eq_false (by omega)
    have e2 : decide (i ≥ 2 ^ 63) = false := decide_eq_false (by omega)
    rw [e1, e2, Bool.or_false]) (by rw [h1]; simpa using h2) ⟨.str ⟨#[c]⟩, H, I.tok _, ⟨_, rfl⟩, q⟩) hs
/-- list, tuple or str -/
def rIx (K : PySem.W.Frag) : R2 := fun x y H Q => rIxL K x y H Q ∨ rIxT K x y H Q ∨ rIxS x y H Q
theorem ix_seq : IxR X (rIx X.K) := ix_list.or (ix_tup.or ix_str)

/-! ### xs[i] = v, any sign -/
/-- the list's object behind a store -/
theorem mapSeq_set (its : List Value) (n j : Nat) (u : Value) : Obj.mapSeq (·.setIfInBounds j u) { cls := .type "list", data := .seq its.toArray n } = { cls := .type "list", data := .seq (its.set j u).toArray n } := by
  simp [Obj.mapSeq]
theorem Inv.lst {pins : List (Addr × Obj)} {σ : St} {H : Hp} {s : Shared} {p : Addr} {xs : List V} (I : Inv X pins σ H s) (h : H p = some (.lst xs)) :
    ∃ (its : List Value) (n : Nat), Vals xs its ∧ s.heap.get? p = some { cls := .type "list", data := .seq its.toArray n } ∧ xs.length ≤ sizeLine := by
  obtain ⟨z, its, n, r, e⟩ := I.hok p _ h
  exact ⟨its, n, r, e, z⟩
/-- the list at p is written by an update of its object -/
theorem Inv.lstUpd {pins : List (Addr × Obj)} {σ : St} {H : Hp} {s : Shared} {p : Addr} {xs ys : List V} {its its' : List Value} {n n' : Nat} {f : Obj → Obj} (I : Inv X pins σ H s) (h : H p = some (.lst xs))
    (ho : s.heap.get? p = some { cls := .type "list", data := .seq its.toArray n }) (hf : f { cls := .type "list", data := .seq its.toArray n } = { cls := .type "list", data := .seq its'.toArray n' }) (r : Vals ys its') (hz : ys.length ≤ sizeLine) (t : Nat) :
    Inv X pins σ (upd H p (.lst ys)) { s with heap := s.heap.update p f, toks := t } := by
  have e : (s.heap.update p f).get? p = some { cls := .type "list", data := .seq its'.toArray n' } := by
    rw [Heap.get?_update_self f ho (by rw [hf] <;> rfl), hf]
  refine I.write (x := p) (e := p) (by rw [h]; trivial) (.inl rfl) (fun b u hb q => (Heap.get?_update_other _ _ (Ne.symm hb)).trans q) ⟨_, e⟩ ?_
  exact ⟨hz, its', n', r, e⟩
def rSetL : V → V → V → Hp → (Hp → Prop) → Prop := fun o i v H Q => ∃ p xs k j, o = .ref p ∧ i = .int k ∧ H p = some (.lst xs) ∧ ixN xs.length k = some j ∧ Q (upd H p (.lst (xs.set j v)))
theorem set_list : PSet X rSetL := by
  intro pins s σ H o i v ov iv u Q I ro ri rv h
  obtain ⟨p, xs, k, j, rfl, rfl, hp, hj, q⟩ := h
  cases ro
  obtain ⟨t, rfl⟩ := ri
  obtain ⟨its, n, r, ho, hz⟩ := I.lst hp
  obtain ⟨h1, h2, h3, h4⟩ := ixN_seq hj
  have hl := r.length
  have hn := line63
  have I' : Inv X pins σ (upd H p (.lst (xs.set j v))) { s with heap := s.heap.update p (Obj.mapSeq (·.setIfInBounds j u)) } :=
    I.lstUpd hp ho (mapSeq_set its n j u) (r.set rv j) (by rw [List.length_set]; exact hz) s.toks
  by_cases h0 : 0 ≤ k
  · have hk : k.toNat = j := by
      rw [seqIndex_of h0 h4] at h1
      exact Option.some.inj h1
    exact PySem.W.ki_setAt ho h0 (by omega) (by rw [List.size_toArray, ← hl]; exact h4) (by rw [hk]; exact ⟨_, I', q⟩)
  · have hk : (k + (its.toArray.size : Int)).toNat = j := by
      rw [seqIndex_neg (by omega) h3] at h1
      rw [List.size_toArray, ← hl]
      exact Option.some.inj h1
    exact PySem.W.ki_setBack ho (by omega) (by rw [List.size_toArray, ← hl]; exact h3) (by omega) (by rw [hk]; exact ⟨_, I', q⟩)

/-! ### slices -/
theorem slice_bounds (lo hi : Option Int) (n : Nat) : (sliceBounds lo hi none n).1 = ((HT.sIx n 0 lo : Nat) : Int) ∧ (sliceBounds lo hi none n).2.1 = ((HT.sIx n n hi : Nat) : Int) ∧ (sliceBounds lo hi none n).2.2 = 1 := by
  refine ⟨?_, ?_, rfl⟩
  · cases lo with
    | none => simp [sliceBounds, HT.sIx]
    | some i =>
      simp only [sliceBounds, HT.sIx, Option.getD_none, show (1 : Int) > 0 by decide, if_true]
      by_cases h : i < 0
      · simp only [h, if_true] <;> omega
      · simp only [h, if_false] <;> omega
  · cases hi with
    | none => simp [sliceBounds, HT.sIx]
    | some i =>
      simp only [sliceBounds, HT.sIx, Option.getD_none, show (1 : Int) > 0 by decide, if_true]
      by_cases h : i < 0
      · simp only [h, if_true] <;> omega
      · simp only [h, if_false] <;> omega
theorem slicePick_cut (its : List Value) (lo hi : Option Int) : slicePick its.toArray lo hi none = ((its.drop (HT.sIx its.length 0 lo)).take (HT.sIx its.length its.length hi - HT.sIx its.length 0 lo)).toArray := by
  obtain ⟨h1, h2, h3⟩ := slice_bounds lo hi its.toArray.size
  unfold slicePick
  rw [h1, h2, h3]
  simp only [sliceRange_one, pick_run, List.size_toArray] <;> rfl
/-- xs[lo:hi] of a list: a new list -/
def rSlL (K : PySem.W.Frag) : V → Option Int → Option Int → Hp → VK → Prop := fun x lo hi H Q => ∃ a xs, x = .ref a ∧ SqL K H a xs ∧ ∀ p, H p = none → Q (.ref p) (upd H p (.lst (cutV xs lo hi)))
theorem sl_list : SlR X (rSlL X.K) := by
  intro pins s σ H x v vl vu lo hi sl Q I rx hs pl pu h
  obtain ⟨a, xs, rfl, hx, q⟩ := h
  cases rx
  obtain ⟨its, r, ht, hz⟩ := I.list hx
  have hlen := r.length
  refine ⟨"list", _, slot_list_getitem.lookup, ht.isList.typeIs, ?_⟩
  refine wpAny_getItem_list_slice ht.isList hs pl pu .none (by simp) ?_ (by rw [List.size_toArray] <;> omega)
  rw [slicePick_cut, ← hlen]
  refine ⟨.ref s.heap.objs.size, _, I.laid (t' := s.toks) (o := .lst (cutV xs lo hi)) (fun b ob q => Heap.get?_push_of_some _ q) (Nat.le_refl _) ?_, rfl, q _ (I.hok.fresh (Nat.le_refl _))⟩
  exact ⟨Nat.le_trans (cutV_length xs lo hi) hz, _, 0, (r.drop (HT.sIx xs.length 0 lo)).take (HT.sIx xs.length xs.length hi - HT.sIx xs.length 0 lo), Heap.get?_push_size _ rfl⟩

/-! ### in, not in: flat items -/
def flatV : V → Bool
  | .non => true
  | .bl _ => true
  | .int _ => true
  | .str _ => true
  | _ => false
/-- == of flat values -/
def eqV : V → V → Bool
  | .non, .non => true
  | .bl a, .bl b => a == b
  | .bl a, .int b => (if a then 1 else 0) == b
  | .int a, .bl b => a == (if b then 1 else 0)
  | .int a, .int b => a == b
  | .str a, .str b => a == b
  | _, _ => false
theorem eqAt_V {A : Around} {s : Shared} {y x : V} {u v : Value} (ry : RelV y u) (rx : RelV x v) (fy : flatV y = true) (fx : flatV x = true) : SeqAt.EqAt A s u v (eqV y x) := by
  cases y with
  | non =>
    cases ry
    cases x with
    | non => cases rx; exact SeqAt.EqAt.same _
    | bl b => cases rx; exact SeqAt.EqAt.none_bool b
    | int b => obtain ⟨t, rfl⟩ := rx; exact SeqAt.EqAt.none_int b t
    | str b => obtain ⟨t, rfl⟩ := rx; exact SeqAt.EqAt.none_str b t
    | _ => exact absurd (show false = true from fx) Bool.false_ne_true
  | bl a =>
    cases ry
    cases x with
    | non => cases rx; exact SeqAt.EqAt.bool_none a
    | bl b => cases rx; exact SeqAt.EqAt.bool_bool a b
    | int b => obtain ⟨t, rfl⟩ := rx; exact SeqAt.EqAt.bool_int a b t
    | str b => obtain ⟨t, rfl⟩ := rx; exact SeqAt.EqAt.bool_str a b t
    | _ => exact absurd (show false = true from fx) Bool.false_ne_true
  | int a =>
    obtain ⟨t', rfl⟩ := ry
    cases x with
    | non => cases rx; exact SeqAt.EqAt.int_none a t'
    | bl b => cases rx; exact SeqAt.EqAt.int_bool a t' b
    | int b => obtain ⟨t, rfl⟩ := rx; exact SeqAt.EqAt.int_int a t' b t
    | str b => obtain ⟨t, rfl⟩ := rx; exact SeqAt.EqAt.int_str a t' b t
    | _ => exact absurd (show false = true from fx) Bool.false_ne_true
  | str a =>
    obtain ⟨t', rfl⟩ := ry
    cases x with
    | non => cases rx; exact SeqAt.EqAt.str_none a t'
    | bl b => cases rx; exact SeqAt.EqAt.str_bool a t' b
    | int b => obtain ⟨t, rfl⟩ := rx; exact SeqAt.EqAt.str_int a t' b t
    | str b => obtain ⟨t, rfl⟩ := rx; exact SeqAt.EqAt.str_str a t' b t
    | _ => exact absurd (show false = true from fx) Bool.false_ne_true
  | _ => exact absurd (show false = true from fy) Bool.false_ne_true
/-- the items' answers, read off the values (a value's own answer does not lean on its token) -/
def eqU (x : V) (u : Value) : Bool := match u with
  | .none => eqV .non x
  | .bool b => eqV (.bl b) x
  | .int i _ => eqV (.int i) x
  | .str z _ => eqV (.str z) x
  | _ => false
theorem eqU_of {x y : V} {u : Value} (r : RelV y u) (f : flatV y = true) : eqU x u = eqV y x := by
  cases y with
  | non => cases r; rfl
  | bl b => cases r; rfl
  | int i => obtain ⟨t, rfl⟩ := r; rfl
  | str z => obtain ⟨t, rfl⟩ := r; rfl
  | _ => exact absurd (show false = true from f) Bool.false_ne_true
theorem any_eqU {x : V} : ∀ {xs : List V} {us : List Value}, Vals xs us → xs.all flatV = true → us.any (eqU x) = xs.any fun y => eqV y x
  | _, _, .nil, _ => rfl
  | y :: xs, u :: us, .cons r t, f => by
    rw [List.all_cons, Bool.and_eq_true] at f
    rw [List.any_cons, List.any_cons, eqU_of r f.1, any_eqU t f.2]
theorem mem_eqAt {A : Around} {s : Shared} {x : V} {v : Value} (rx : RelV x v) (fx : flatV x = true) : ∀ {xs : List V} {us : List Value}, Vals xs us → xs.all flatV = true → ∀ u ∈ us, SeqAt.EqAt A s u v (eqU x u)
  | _, _, .nil, _ => fun u hu => by cases hu
  | y :: xs, u :: us, .cons r t, f => fun u' hu => by
    rw [List.all_cons, Bool.and_eq_true] at f
    rcases List.mem_cons.mp hu with rfl | hu
    · rw [eqU_of r f.1]; exact eqAt_V r rx f.1 fx
    · exact mem_eqAt rx fx t f.2 u' hu
def inV (x : V) (xs : List V) : Bool := xs.any fun y => eqV y x
/-- x in a list or tuple of flat items -/
def rIn (K : PySem.W.Frag) (neg : Bool) : R2 := fun x y H Q => ∃ p xs, y = .ref p ∧ (SqL K H p xs ∨ SqT K H p xs) ∧ flatV x = true ∧ xs.all flatV = true ∧ Q (.bl (if neg then !inV x xs else inV x xs)) H
theorem op_in_seq : OpR X (compareOp .In) (rIn X.K false) := by
  intro pins s σ H x y v u Q I rx ry h
  obtain ⟨p, xs, rfl, hq, fx, fs, q⟩ := h
  cases ry
  rcases hq with hq | hq
  · obtain ⟨its, r, pl, hz⟩ := I.list hq
    refine SeqAt.in_listAt (eqU x) pl.isList (fun w hw => mem_eqAt rx fx r fs w (by simpa using hw)) ⟨.bl _, H, I, rfl, ?_⟩
    rw [show its.toArray.any (eqU x) = its.any (eqU x) by simp, any_eqU r fs]
    exact q
  · obtain ⟨its, r, pl, hz⟩ := I.tuple hq
    refine SeqAt.in_tupleAt (eqU x) pl (fun w hw => mem_eqAt rx fx r fs w (by simpa using hw)) ⟨.bl _, H, I, rfl, ?_⟩
    rw [show its.toArray.any (eqU x) = its.any (eqU x) by simp, any_eqU r fs]
    exact q
theorem op_notIn_seq : OpR X (compareOp .NotIn) (rIn X.K true) := by
  intro pins s σ H x y v u Q I rx ry h
  obtain ⟨p, xs, rfl, hq, fx, fs, q⟩ := h
  cases ry
  rcases hq with hq | hq
  · obtain ⟨its, r, pl, hz⟩ := I.list hq
    refine SeqAt.notIn_listAt (eqU x) pl.isList (fun w hw => mem_eqAt rx fx r fs w (by simpa using hw)) ⟨.bl _, H, I, rfl, ?_⟩
    rw [show its.toArray.any (eqU x) = its.any (eqU x) by simp, any_eqU r fs]
    exact q
  · obtain ⟨its, r, pl, hz⟩ := I.tuple hq
    refine SeqAt.notIn_tupleAt (eqU x) pl (fun w hw => mem_eqAt rx fx r fs w (by simpa using hw)) ⟨.bl _, H, I, rfl, ?_⟩
    rw [show its.toArray.any (eqU x) = its.any (eqU x) by simp, any_eqU r fs]
    exact q
theorem op_notIn_str : OpR X (compareOp .NotIn) (fun x y H Q => ∃ i j, x = .str i ∧ y = .str j ∧ Q (.bl (!(!(Builtin.Str.occurrences j i 0 j.length 1).isEmpty))) H) := by
  intro pins s σ H x y v u Q I rx ry h
  obtain ⟨i, j, rfl, rfl, q⟩ := h
  obtain ⟨t, rfl⟩ := rx
  obtain ⟨t', rfl⟩ := ry
  exact notIn_str ⟨.bl _, H, I, rfl, q⟩

/-! ### len, list(x), tuple(x) of any list or tuple that is read -/
theorem call_len_seq : CallR X (.builtin "len") (fun xs H Q => ∃ p ys, xs = [.ref p] ∧ (SqL X.K H p ys ∨ SqT X.K H p ys) ∧ Q (.int ys.length) H) := by
  intro pins s σ H xs us Q I r h
  obtain ⟨p, ys, rfl, hq, q⟩ := h
  obtain ⟨u, rfl, rx⟩ := vals1 r
  cases rx
  have hn := line63
  rcases hq with hq | hq
  · obtain ⟨its, r', pl, hz⟩ := I.list hq
    have hlen := r'.length
    exact Calls.call_len_list pl.isList (by simp only [List.size_toArray] <;> omega) ⟨.int ys.length, H, I.tok _, ⟨s.toks + 1, by rw [List.size_toArray, hlen]⟩, q⟩
  · obtain ⟨its, r', pl, hz⟩ := I.tuple hq
    have hlen := r'.length
    exact len_tuple pl (by simp only [List.size_toArray] <;> omega) ⟨.int ys.length, H, I.tok _, ⟨s.toks + 1, by rw [List.size_toArray, hlen]⟩, q⟩
theorem call_len_str : CallR X (.builtin "len") (fun xs H Q => ∃ z, xs = [.str z] ∧ z.length ≤ sizeLine ∧ Q (.int z.length) H) := by
  intro pins s σ H xs us Q I r h
  obtain ⟨z, rfl, hz, q⟩ := h
  obtain ⟨u, rfl, t, rfl⟩ := vals1 r
  have hn := line63
  exact len_str (by omega) ⟨.int z.length, H, I.tok _, ⟨_, rfl⟩, q⟩
theorem CallR.or {f : Value} {r r' : List V → Hp → VK → Prop} (h : CallR X f r) (h' : CallR X f r') : CallR X f (fun xs H Q => r xs H Q ∨ r' xs H Q) := by
  intro pins s σ H xs us Q I rs q
  rcases q with q | q
  · exact h pins s σ H xs us Q I rs q
  · exact h' pins s σ H xs us Q I rs q
theorem call_list_of : CallR X (.type "list") (fun xs H Q => ∃ p ys, xs = [.ref p] ∧ (SqL X.K H p ys ∨ SqT X.K H p ys) ∧ ∀ l, H l = none → Q (.ref l) (upd H l (.lst ys))) := by
  intro pins s σ H xs us Q I r h
  obtain ⟨p, ys, rfl, hq, q⟩ := h
  obtain ⟨u, rfl, rx⟩ := vals1 r
  cases rx
  have fin : ∀ (its : List Value), Vals ys its → ys.length ≤ sizeLine → ∀ (h' : Heap) (c' : Nat), (∀ b o', s.heap.get? b = some o' → h'.get? b = some o') →
      h'.get? s.heap.objs.size = some { cls := .type "list", dict := none, data := .seq its.toArray c', slots := #[] } → EP X pins σ Q (.ref s.heap.objs.size) { s with heap := h' } := fun its r' hz h' c' kp e =>
    ⟨.ref s.heap.objs.size, _, I.laid (t' := s.toks) kp (Nat.le_refl _) (show ObjOk X.prog X.w _ h' _ (.lst ys) from ⟨hz, its, c', r', e⟩), rfl, q _ (I.hok.fresh (Nat.le_refl _))⟩
  rcases hq with hq | hq
  · obtain ⟨its, r', pl, hz⟩ := I.list hq
    have hlen := r'.length
    obtain ⟨o, ho, hc, n, hd⟩ := pl.isList
    exact call_list_seq p (.inl rfl) ho hc hd (fun h' c' kp e => fin its r' hz h' c' kp e) (by simp only [List.size_toArray] <;> omega)
  · obtain ⟨its, r', pl, hz⟩ := I.tuple hq
    have hlen := r'.length
    obtain ⟨o, ho, hc, n, hd⟩ := pl
    exact call_list_seq p (.inr rfl) ho hc hd (fun h' c' kp e => fin its r' hz h' c' kp e) (by simp only [List.size_toArray] <;> omega)
theorem call_tuple_of : CallR X (.type "tuple") (fun xs H Q => ∃ p ys, xs = [.ref p] ∧ ((SqL X.K H p ys ∧ ∀ l, H l = none → Q (.ref l) (upd H l (.tup ys))) ∨ (SqT X.K H p ys ∧ Q (.ref p) H))) := by
  intro pins s σ H xs us Q I r h
  obtain ⟨p, ys, rfl, h⟩ := h
  obtain ⟨u, rfl, rx⟩ := vals1 r
  cases rx
  rcases h with ⟨hq, q⟩ | ⟨hq, q⟩
  · obtain ⟨its, r', pl, hz⟩ := I.list hq
    have hlen := r'.length
    refine call_tuple_list pl.isList (fun h' kp => ?_) (by simp only [List.size_toArray] <;> omega)
    have I1 : Inv X pins σ H { s with heap := h' } := I.kept (t' := s.toks) kp
    have I2 : Inv X pins σ (upd H h'.objs.size (.tup ys)) { s with heap := h'.push { cls := .type "tuple", data := .seq its.toArray } } :=
      I1.laid (t' := s.toks) (fun b o e => Heap.get?_push_of_some _ e) (Nat.le_refl _) (show ObjOk X.prog X.w _ _ _ (.tup ys) from ⟨hz, its, r', IsTup.new _ _⟩)
    exact ⟨.ref h'.objs.size, _, I2, rfl, q _ (I1.hok.fresh (Nat.le_refl _))⟩
  · obtain ⟨its, r', pl, hz⟩ := I.tuple hq
    exact call_tuple_same pl ⟨.ref p, H, I, rfl, q⟩

/-! ### the call of a builtin's method: o.m(..) -/
/-- the value is of that builtin type -/
def tyV (K : PySem.W.Frag) (T : String) (x : V) (H : Hp) : Prop := match x with
  | .str _ => T = "str"
  | .int _ => T = "int"
  | .ref p => (T = "list" ∧ ∃ xs, SqL K H p xs) ∨ (T = "tuple" ∧ ∃ o, K.lookup p = some o ∧ o.cls = .type "tuple" ∧ o.dict = none) ∨
      (T = "dict" ∧ ((∃ kvs, H p = some (.dK kvs)) ∨ ∃ kvs, H p = some (.dT kvs))) ∨ (T = "set" ∧ ∃ S n, H p = some (.set S n))
  | _ => False
theorem tyV_is {pins : List (Addr × Obj)} {σ : St} {H : Hp} {s : Shared} {T : String} {x : V} {v : Value} (I : Inv X pins σ H s) (r : RelV x v) (ty : tyV X.K T x H) :
    s.TypeIs v T ∧ ∀ a, v = .ref a → ∃ ob, s.heap.get? a = some ob ∧ ob.dict = none := by
  cases x with
  | str z =>
    obtain ⟨t, rfl⟩ := r
    cases (show T = "str" from ty)
    exact ⟨typeIs_str s z t, fun _ e => nomatch e⟩
  | int i =>
    obtain ⟨t, rfl⟩ := r
    cases (show T = "int" from ty)
    exact ⟨typeIs_int s i t, fun _ e => nomatch e⟩
  | ref p =>
    cases r
    rcases ty with ⟨rfl, xs, hq⟩ | ⟨rfl, o, hk, hc, hd⟩ | ⟨rfl, hk⟩ | ⟨rfl, S, n, hk⟩
    · obtain ⟨its, _, pl, _⟩ := I.list hq
      refine ⟨pl.isList.typeIs, fun a e => ?_⟩
      cases e
      obtain ⟨o, n, e, c, hd, _⟩ := pl
      exact ⟨o, e, hd⟩
    · refine ⟨⟨o, I.kIn p o hk, hc⟩, fun a e => ?_⟩
      cases e
      exact ⟨o, I.kIn _ o hk, hd⟩
    · have z : ∃ o, s.heap.get? p = some o ∧ o.ExactDict := by
        rcases hk with ⟨kvs, hk⟩ | ⟨kvs, hk⟩
        · obtain ⟨_, _, _, _, o, _, _, e, ex, _⟩ := I.hok p _ hk
          exact ⟨o, e, ex⟩
        · obtain ⟨_, _, _, _, o, _, _, e, ex, _⟩ := I.hok p _ hk
          exact ⟨o, e, ex⟩
      obtain ⟨o, e, ex⟩ := z
      refine ⟨⟨o, e, ex.1⟩, fun a e2 => ?_⟩
      cases e2
      exact ⟨o, e, ex.2.1⟩
    · obtain ⟨o, _, _, _, e, ex, _⟩ := I.hok p _ hk
      refine ⟨⟨o, e, ex.1⟩, fun a e2 => ?_⟩
      cases e2
      exact ⟨o, e, ex.2.1⟩
  | _ => exact False.elim ty
def tBM0 (K : PySem.W.Frag) (T : String) (r : V → List V → Hp → VK → Prop) (to : TE) : TE := fun σ H Q => to σ H fun x H1 => tyV K T x H1 ∧ r x [] H1 Q
def tBM (K : PySem.W.Frag) (T : String) (r : V → List V → Hp → VK → Prop) (to : TE) (t : TA) : TE := fun σ H Q => to σ H fun x H1 => tyV K T x H1 ∧ t σ H1 fun xs H2 => r x xs H2 Q
variable {o e : Expr} {es : List Expr} {to : TE} {t : TA} {name : Str} {apos cpos : Pos} {T id : String} {r : V → List V → Hp → VK → Prop}
theorem pe_bm0 (pa : PlainAttrs T) (slot : Slot T name id) (hty : typeOf (.builtin id) = pure (.type "method_descriptor")) (hm : MtR X id r) (ho : PE X o to)
    (hbase : attributeBase o name X.env (eval o X.env) = eval o X.env := by rfl) (hline : (apos.endLine == cpos.line) = true := by rfl) : PE X (.Call (.Attribute o name apos) [] [] cpos) (tBM0 X.K T r to) := by
  intro pins s σ H Q I h
  refine wpAny_Call_method0_late hbase hline (thn (ho pins s σ H _ I h) fun v s1 ⟨x, H1, I1, r1, ty, q1⟩ => ?_)
  obtain ⟨h1, h2⟩ := tyV_is I1 r1 ty
  exact ⟨T, id, pa, slot, hty, h1, h2, Calls.callWith_builtin rfl (PySem.evalArgs_none (hm pins s1 σ H1 x [] v [] Q I1 r1 .nil q1))⟩
theorem pe_bm (pa : PlainAttrs T) (slot : Slot T name id) (hty : typeOf (.builtin id) = pure (.type "method_descriptor")) (hm : MtR X id r) (ho : PE X o to) (ha : PA X (e :: es) t)
    (hbase : attributeBase o name X.env (eval o X.env) = eval o X.env := by rfl)
    (hfew : ((backTo cpos (starEach (e :: es) X.env)).all (fun x => !x.1) && (backToKw cpos (keywordEach [] X.env)).all (fun x => x.1.isSome)
      && decide ((e :: es).length + ([] : List Keyword).length + (if ([] : List Keyword).isEmpty then 0 else 1) < 30)) = true := by rfl)
    (hline : (apos.endLine == cpos.line) = true := by rfl) (hs : starEach (e :: es) X.env = (false, eval e X.env) :: starEach es X.env := by rfl) (hplain : (backTo cpos (starEach es X.env)).any (·.1) = false := by rfl) :
    PE X (.Call (.Attribute o name apos) (e :: es) [] cpos) (tBM X.K T r to t) := by
  intro pins s σ H Q I h
  refine wpAny_Call_method_late hbase hfew hline rfl (thn (ho pins s σ H _ I h) fun v s1 ⟨x, H1, I1, r1, ty, q1⟩ => ?_)
  obtain ⟨h1, h2⟩ := tyV_is I1 r1 ty
  refine ⟨T, id, pa, slot, hty, h1, h2, ?_⟩
  have hA := ha cpos pins s1 σ H1 _ I1 q1
  rw [hs] at hA ⊢
  refine Calls.callWith_builtin (by show (false || (backTo cpos (starEach es X.env)).any (·.1)) = false; rw [hplain] <;> rfl) (Calls.evalArgs_plain ?_)
  exact thn hA fun us s2 ⟨vs, H2, I2, r2, q2⟩ => hm pins s2 σ H2 x vs v us Q I2 r1 r2 q2
/- xs.append(e), list.index on a module's tuple .. are MtR facts of 06m -/
end
end L2

namespace L2
open PySem PySem.Spec PyProof.Rows

def MtM (X : Cx) (id : String) (r : V → List V → Hp → VK → Prop) : Prop :=
  ∀ (pins : List (Addr × Obj)) (s : Shared) (σ : St) (H : Hp) (x : V) (xs : List V) (v : Value) (us : List Value) (Q : VK), Inv X pins σ H s → RelV x v → Vals xs us → r x xs H Q →
    wpAny (model X.prog X.w) X.A (call (.builtin id) (v :: us)) (EP X pins σ Q) X.xe s

/-! ### lists of values -/
theorem Vals.one : ∀ {x : V} {us : List Value}, Vals [x] us → ∃ u, us = [u] ∧ RelV x u
  | _, _, .cons r .nil => ⟨_, rfl, r⟩
theorem Vals.two : ∀ {x y : V} {us : List Value}, Vals [x, y] us → ∃ u v, us = [u, v] ∧ RelV x u ∧ RelV y v
  | _, _, _, .cons r (.cons q .nil) => ⟨_, _, rfl, r, q⟩
theorem Vals.zero : ∀ {us : List Value}, Vals [] us → us = []
  | _, .nil => rfl
theorem Vals.dropLast {xs : List V} {us : List Value} (h : Vals xs us) : Vals xs.dropLast us.dropLast := by
  induction h with
  | nil => exact .nil
  | cons r t ih =>
    cases t with
    | nil => exact .nil
    | cons q t' => exact .cons r ih
theorem Vals.eraseIdx : ∀ {xs : List V} {us : List Value} (i : Nat), Vals xs us → Vals (xs.eraseIdx i) (us.eraseIdx i)
  | _, _, _, .nil => .nil
  | _, _, 0, .cons _ t => t
  | _, _, i + 1, .cons r t => .cons r (Vals.eraseIdx i t)
theorem Vals.reverse {xs : List V} {us : List Value} (h : Vals xs us) : Vals xs.reverse us.reverse := by
  induction h with
  | nil => exact .nil
  | cons r t ih => rw [List.reverse_cons, List.reverse_cons]; exact Vals.append ih (.cons r .nil)
theorem Vals.rep {xs : List V} {us : List Value} (h : Vals xs us) : ∀ k : Nat, Vals (List.replicate k xs).flatten (List.replicate k us).flatten
  | 0 => .nil
  | k + 1 => by
    rw [List.replicate_succ, List.replicate_succ, List.flatten_cons, List.flatten_cons]
    exact Vals.append h (Vals.rep h k)
theorem erase_last {α : Type} (l : List α) : l.eraseIdx (l.length - 1) = l.dropLast := by
  induction l with
  | nil => rfl
  | cons a r ih =>
    cases r with
    | nil => rfl
    | cons b r =>
      have e : (a :: b :: r).length - 1 = ((b :: r).length - 1) + 1 := by
        have h1 : (a :: b :: r).length = r.length + 2 := rfl
        have h2 : (b :: r).length = r.length + 1 := rfl
        omega
      rw [e, List.eraseIdx_cons_succ, ih]
      all_goals rfl
theorem len_erase {α : Type} : ∀ (l : List α) (i : Nat), (l.eraseIdx i).length ≤ l.length
  | [], _ => Nat.le_refl _
  | _ :: _, 0 => Nat.le_succ _
  | _ :: r, i + 1 => Nat.succ_le_succ (len_erase r i)
theorem foldl_rep (its : List Value) : ∀ (k : Nat) (acc : List Value),
    List.foldl (fun x1 x2 => x1 ++ x2) acc.toArray (List.replicate k its.toArray) = (acc ++ (List.replicate k its).flatten).toArray
  | 0, acc => by simp
  | k + 1, acc => by
    have e : acc.toArray ++ its.toArray = (acc ++ its).toArray := by simp
    have e2 : (acc ++ its) ++ (List.replicate k its).flatten = acc ++ (List.replicate (k + 1) its).flatten := by
      rw [List.replicate_succ, List.flatten_cons, List.append_assoc]
    rw [← e2, ← foldl_rep its k (acc ++ its), ← e, List.replicate_succ, List.foldl_cons]

section
variable {X : Cx} {pins : List (Addr × Obj)} {σ : St} {H : Hp} {s : Shared} {l b : Addr} {xs ys zs : List V}

/-! ### the two steps: a tracked list is rewritten, a new list is laid -/
theorem Inv.lset {its its' : List Value} {n : Nat} {f : Array Value → Array Value} {t' : Nat} (I : Inv X pins σ H s) (hH : H l = some (.lst xs))
    (e : s.heap.get? l = some { cls := .type "list", data := .seq its.toArray n }) (hf : f its.toArray = its'.toArray) (hv : Vals ys its') (hz : ys.length ≤ sizeLine) :
    Inv X pins σ (upd H l (.lst ys)) { s with heap := s.heap.update l (Obj.mapSeq f), toks := t' } := by
  have q := PySem.IsL.update e f
  rw [hf] at q
  refine I.write (x := l) (e := l) (by rw [hH]; exact trivial) (.inl rfl) (fun b' u hb hu => (Heap.get?_update_other s.heap (Obj.mapSeq f) (Ne.symm hb)).trans hu) ⟨_, q⟩ ?_
  exact ⟨hz, its', _, hv, q⟩
theorem Inv.lnew {its : List Value} {t' : Nat} (I : Inv X pins σ H s) (hv : Vals ys its) (hz : ys.length ≤ sizeLine) :
    Inv X pins σ (upd H s.heap.objs.size (.lst ys)) { s with heap := s.heap.push { cls := .type "list", data := .seq its.toArray }, toks := t' } :=
  I.laid (fun _ _ q => Heap.get?_push_of_some _ q) (Nat.le_refl _) ⟨hz, its, 0, hv, Heap.get?_push_size _ rfl⟩
theorem Inv.fresh (I : Inv X pins σ H s) : H s.heap.objs.size = none := I.hok.fresh (Nat.le_refl _)
theorem Inv.lstM (I : Inv X pins σ H s) (hH : H l = some (.lst xs)) : xs.length ≤ sizeLine ∧ ∃ (its : List Value) (n : Nat), Vals xs its ∧ xs.length = its.length ∧ s.heap.get? l = some { cls := .type "list", data := .seq its.toArray n } := by
  obtain ⟨z, its, n, r, e⟩ := I.hok l _ hH
  exact ⟨z, its, n, r, r.length, e⟩

theorem notLongL {n : Nat} (h : n ≤ sizeLine) : Builtin.List.listTooLong n = false := by
  unfold Builtin.List.listTooLong
  exact decide_eq_false (by omega)
end

section
variable {X : Cx}

/-! ### methods -/
def rAppend : V → List V → Hp → VK → Prop := fun x vs H Q => ∃ l xs y, x = .ref l ∧ vs = [y] ∧ H l = some (.lst xs) ∧ xs.length < sizeLine ∧ Q .non (upd H l (.lst (xs ++ [y])))
theorem mt_append : MtM X "list.append" rAppend := by
  intro pins s σ H x vs v us Q I rx rv h
  obtain ⟨l, xs, y, rfl, rfl, hH, hz, q⟩ := h
  cases rx
  obtain ⟨u, rfl, ru⟩ := rv.one
  obtain ⟨z, its, n, r, hl, e⟩ := I.lstM hH
  refine call_meets F.slot_list_append ⟨_, e, rfl⟩ F.entry_list_append (F.args_list_append_2 _ _) (PySem.list_append l its.toArray n u (by rw [List.size_toArray]; omega)) ⟨e, ?_⟩
  refine ⟨.non, _, I.lset (its' := its ++ [u]) hH e (by simp) (r.append (.cons ru .nil)) ?_, rfl, q⟩
  rw [List.length_append, List.length_singleton]
  omega

def rExtend : V → List V → Hp → VK → Prop := fun x vs H Q => ∃ l b xs zs, x = .ref l ∧ vs = [.ref b] ∧ H l = some (.lst xs) ∧ H b = some (.lst zs) ∧ xs.length + zs.length ≤ sizeLine ∧ Q .non (upd H l (.lst (xs ++ zs)))
theorem mt_extend : MtM X "list.extend" rExtend := by
  intro pins s σ H x vs v us Q I rx rv h
  obtain ⟨l, b, xs, zs, rfl, rfl, hH, hB, hz, q⟩ := h
  cases rx
  obtain ⟨u, rfl, ru⟩ := rv.one
  cases ru
  obtain ⟨z, its, n, r, hl, e⟩ := I.lstM hH
  obtain ⟨z2, its2, n2, r2, hl2, e2⟩ := I.lstM hB
  have hsz : its.toArray.size + its2.toArray.size ≤ sizeLine := by rw [List.size_toArray, List.size_toArray]; omega
  have hlong : ¬ (!its.toArray.isEmpty && Builtin.List.listTooLong (its.toArray.size + its2.toArray.size)) = true := by
    rw [notLongL hsz, Bool.and_false]
    exact Bool.false_ne_true
  refine call_meets F.slot_list_extend ⟨_, e, rfl⟩ F.entry_list_extend (F.args_list_extend_2 _ _)
    (AutoSeq1.list_extend_list_list_0 l its.toArray n b its2.toArray n2 hlong (by rw [List.size_toArray]; omega) (by omega)) ⟨e, e2, ?_⟩
  refine ⟨.non, _, I.lset (its' := its ++ its2) hH e (by simp) (r.append r2) ?_, rfl, q⟩
  rw [List.length_append]
  omega

def rPop : V → List V → Hp → VK → Prop := fun x vs H Q => ∃ l xs y, x = .ref l ∧ vs = [] ∧ H l = some (.lst xs) ∧ xs[xs.length - 1]? = some y ∧ Q y (upd H l (.lst xs.dropLast))
theorem mt_pop : MtM X "list.pop" rPop := by
  intro pins s σ H x vs v us Q I rx rv h
  obtain ⟨l, xs, y, rfl, rfl, hH, hy, q⟩ := h
  cases rx
  have hus := rv.zero
  subst hus
  obtain ⟨z, its, n, r, hl, e⟩ := I.lstM hH
  obtain ⟨u, hu, ru⟩ := r.get hy
  have hy' : its.toArray[its.toArray.size - 1]? = some u := by
    show its.toArray[its.length - 1]? = some u
    rw [← Array.getElem?_toList, ← hl]
    exact hu
  refine call_meets F.slot_list_pop ⟨_, e, rfl⟩ F.entry_list_pop (F.args_list_pop_1 _) (MeetsSeq.list_pop_last l its.toArray n u hy' (by rw [List.size_toArray]; omega)) ⟨e, ?_⟩
  refine ⟨y, _, I.lset (its' := its.dropLast) hH e ?_ r.dropLast ?_, ru, q⟩
  · show its.toArray.eraseIdxIfInBounds (its.toArray.size - 1) = its.dropLast.toArray
    rw [List.size_toArray, List.eraseIdxIfInBounds_toArray, erase_last]
  · rw [List.length_dropLast]
    omega

def rPopAt : V → List V → Hp → VK → Prop := fun x vs H Q => ∃ l xs i k y, x = .ref l ∧ vs = [.int i] ∧ H l = some (.lst xs) ∧ -(2 ^ 63) ≤ i ∧ i < 2 ^ 63 ∧ seqIndex? i xs.length = some k ∧ xs[k]? = some y ∧ Q y (upd H l (.lst (xs.eraseIdx k)))
theorem mt_popAt : MtM X "list.pop" rPopAt := by
  intro pins s σ H x vs v us Q I rx rv h
  obtain ⟨l, xs, i, k, y, rfl, rfl, hH, h1, h2, hk, hy, q⟩ := h
  cases rx
  obtain ⟨u, rfl, ru⟩ := rv.one
  obtain ⟨t, rfl⟩ := ru
  obtain ⟨z, its, n, r, hl, e⟩ := I.lstM hH
  obtain ⟨w, hw, rw'⟩ := r.get hy
  refine call_meets F.slot_list_pop ⟨_, e, rfl⟩ F.entry_list_pop (F.args_list_pop_2 _ _)
    (MeetsSeq.list_pop_at l its.toArray n i t k w (fitsIndex_both h1 h2) (by rw [List.size_toArray, ← hl]; exact hk) (by rw [← Array.getElem?_toList]; exact hw) (by rw [List.size_toArray]; omega)) ⟨e, ?_⟩
  refine ⟨y, _, I.lset (its' := its.eraseIdx k) hH e ?_ (r.eraseIdx k) ?_, rw', q⟩
  · show its.toArray.eraseIdxIfInBounds k = (its.eraseIdx k).toArray
    rw [List.eraseIdxIfInBounds_toArray]
  · have := len_erase xs k
    omega

def rReverse : V → List V → Hp → VK → Prop := fun x vs H Q => ∃ l xs, x = .ref l ∧ vs = [] ∧ H l = some (.lst xs) ∧ Q .non (upd H l (.lst xs.reverse))
theorem mt_reverse : MtM X "list.reverse" rReverse := by
  intro pins s σ H x vs v us Q I rx rv h
  obtain ⟨l, xs, rfl, rfl, hH, q⟩ := h
  cases rx
  have hus := rv.zero
  subst hus
  obtain ⟨z, its, n, r, hl, e⟩ := I.lstM hH
  refine call_meets F.slot_list_reverse ⟨_, e, rfl⟩ F.entry_list_reverse (F.args_list_reverse_1 _) (AutoSeq1.list_reverse_list_0 l its.toArray n (by rw [List.size_toArray]; omega)) ⟨e, ?_⟩
  refine ⟨.non, _, I.lset (its' := its.reverse) hH e (by simp) r.reverse ?_, rfl, q⟩
  rw [List.length_reverse]
  omega

def rClear : V → List V → Hp → VK → Prop := fun x vs H Q => ∃ l xs, x = .ref l ∧ vs = [] ∧ H l = some (.lst xs) ∧ Q .non (upd H l (.lst []))
theorem mt_clear : MtM X "list.clear" rClear := by
  intro pins s σ H x vs v us Q I rx rv h
  obtain ⟨l, xs, rfl, rfl, hH, q⟩ := h
  cases rx
  have hus := rv.zero
  subst hus
  obtain ⟨z, its, n, r, hl, e⟩ := I.lstM hH
  refine call_meets F.slot_list_clear ⟨_, e, rfl⟩ F.entry_list_clear (F.args_list_clear_1 _) (AutoSeq1.list_clear_list_0 l its.toArray n (by rw [List.size_toArray]; omega)) ⟨e, ?_⟩
  exact ⟨.non, _, I.lset (its' := []) (ys := []) hH e rfl .nil (Nat.zero_le _), rfl, q⟩

/-! ### list + list, list += list, list * int -/
def rCat : R2 := fun x y H Q => ∃ l b xs zs, x = .ref l ∧ y = .ref b ∧ H l = some (.lst xs) ∧ H b = some (.lst zs) ∧ xs.length + zs.length ≤ sizeLine ∧ ∀ p, H p = none → Q (.ref p) (upd H p (.lst (xs ++ zs)))
theorem op_cat : OpR X (binaryOp .Add) rCat := by
  intro pins s σ H x y v u Q I rx ry h
  obtain ⟨l, b, xs, zs, rfl, rfl, hH, hB, hz, q⟩ := h
  cases rx
  cases ry
  obtain ⟨z, its, n, r, hl, e⟩ := I.lstM hH
  obtain ⟨z2, its2, n2, r2, hl2, e2⟩ := I.lstM hB
  refine PySem.P.add_list e e2 ?_ (by rw [List.size_toArray, List.size_toArray]; omega)
  have ea : its.toArray ++ its2.toArray = (its ++ its2).toArray := by simp
  rw [ea]
  exact ⟨.ref _, _, I.lnew (t' := s.toks) (r.append r2) (by rw [List.length_append]; omega), rfl, q _ I.fresh⟩
/-- a list times an int (a negative one is nothing) -/
def rRep : R2 := fun x y H Q => ∃ l k xs, x = .ref l ∧ y = .int k ∧ H l = some (.lst xs) ∧ -(2 ^ 63) ≤ k ∧ k < 2 ^ 63 ∧ xs.length * k.toNat ≤ sizeLine ∧
  ∀ p, H p = none → Q (.ref p) (upd H p (.lst (List.replicate k.toNat xs).flatten))
theorem len_rep {α : Type} (xs : List α) (k : Nat) : (List.replicate k xs).flatten.length = k * xs.length := by
  induction k with
  | zero => simp
  | succ k ih => rw [List.replicate_succ, List.flatten_cons, List.length_append, ih, Nat.succ_mul, Nat.add_comm]
theorem op_rep : OpR X (binaryOp .Mult) rRep := by
  intro pins s σ H x y v u Q I rx ry h
  obtain ⟨l, k, xs, rfl, rfl, hH, h1, h2, hz, q⟩ := h
  cases rx
  obtain ⟨t, rfl⟩ := ry
  obtain ⟨z, its, n, r, hl, e⟩ := I.lstM hH
  have hlen : its.toArray.size * k.toNat ≤ sizeLine := by rw [List.size_toArray, ← hl]; exact hz
  have hcap : ¬ its.toArray.size * k.toNat > (2 ^ 63 - 1) / 8 := by
    have : (sizeLine : Nat) ≤ (2 ^ 63 - 1) / 8 := by decide
    omega
  have hfit : ¬ (!Builtin.List.listFitsIndex k) = true := by
    rw [fitsIndex_both h1 h2]
    exact Bool.false_ne_true
  have hlong : ¬ Builtin.List.listTooLong (its.toArray.size * k.toNat) = true := by
    rw [notLongL hlen]
    exact Bool.false_ne_true
  have hnew : List.foldl (fun x1 x2 => x1 ++ x2) #[] (List.replicate (if its.toArray.isEmpty = true then 0 else k.toNat) its.toArray) = (List.replicate k.toNat its).flatten.toArray := by
    have f0 : ∀ m : Nat, List.foldl (fun x1 x2 => x1 ++ x2) #[] (List.replicate m its.toArray) = (List.replicate m its).flatten.toArray := fun m => by
      have := foldl_rep its m []
      rw [List.nil_append] at this
      exact this
    rw [f0]
    cases its with
    | nil => simp
    | cons a r' => rw [if_neg (by simp)]
  refine wpAny_binaryOp_repeat_ref (T := "list") (U := "int") (by decide) ⟨_, e, rfl⟩ (fun s' => typeIs_int s' k t) noFill_list_mul F.fills_int_mul F.slot_int_rmul repeat_list F.slot_int_index.lookup
    (call_meets F.slot_int_rmul (typeIs_int s k t) F.entry_int_rmul (F.args_int_rmul_2 _ _) (int___rmul___int_list k t l its.toArray n)
      ⟨e, rfl, ⟨_, e, rfl⟩, call_meets F.slot_list_mul ⟨_, e, rfl⟩ F.entry_list_mul (F.args_list_mul_2 _ _) (AutoListH.list___mul___list_int_3 l its.toArray n k t hfit hcap hlong) ⟨e, ?_⟩⟩)
  rw [hnew]
  exact ⟨.ref _, _, I.lnew (t' := s.toks) (r.rep k.toNat) (by rw [len_rep, Nat.mul_comm]; exact hz), rfl, q _ I.fresh⟩

/-! ### del xs[i] -/
theorem del_list {pins : List (Addr × Obj)} {s : Shared} {σ : St} {H : Hp} {l : Addr} {xs : List V} {i : Int} {t : Tok} {k : Nat} {Q : Unit → Shared → Prop} (I : Inv X pins σ H s) (hH : H l = some (.lst xs))
    (h1 : -(2 ^ 63) ≤ i) (h2 : i < 2 ^ 63) (hk : seqIndex? i xs.length = some k) (h : ∀ s', Inv X pins σ (upd H l (.lst (xs.eraseIdx k))) s' → Q () s') :
    wpAny (model X.prog X.w) X.A (delItem (.ref l) (.int i t)) Q X.xe s := by
  obtain ⟨z, its, n, r, hl, e⟩ := I.lstM hH
  refine PySem.P.delItem_list (k := k) e (fitsIndex_both h1 h2) (by rw [List.size_toArray, ← hl]; exact hk) (h _ ?_) (by rw [List.size_toArray]; omega)
  refine I.lset (its' := its.eraseIdx k) (t' := s.toks) hH e ?_ (r.eraseIdx k) ?_
  · show its.toArray.eraseIdxIfInBounds k = (its.eraseIdx k).toArray
    rw [List.eraseIdxIfInBounds_toArray]
  · have := len_erase xs k
    omega
end

/-! ### xs[a:b] = ys -/
section
variable {prog : Program} {w : World} {A : Around} {E : Value → Shared → Prop} {s : Shared}
theorem splice_eq (its its2 : List Value) (a c : Nat) : its.toArray.extract 0 a ++ its2.toArray ++ its.toArray.extract c its.toArray.size = (its.take a ++ its2 ++ its.drop c).toArray := by
  apply Array.toList_inj.mp
  first
    | (simp
       exact List.take_of_length_le (by simp))
    | simp [List.take_of_length_le]
    | simp
theorem bounds_run {a c n : Nat} (hac : a ≤ c) (hc : c ≤ n) : sliceBounds (some (a : Int)) (some (c : Int)) none n = ((a : Int), (c : Int), 1) := by
  simp only [sliceBounds, Option.getD_none]
  have h1 : ¬ ((a : Int) < 0) := by omega
  have h2 : ¬ ((c : Int) < 0) := by omega
  simp only [h1, h2, if_false, show (1 : Int) > 0 by decide, if_true]
  congr 1
  · omega
  · congr 1; omega
set_option maxRecDepth 100000 in
/-- list.__setitem__ with a slice of step one and another list -/
theorem setItem_slice {l b sl : Addr} {items new : Array Value} {n n2 : Nat} {vl vu : Value} {a c : Nat} {Q : Unit → Shared → Prop}
    (e : s.heap.get? l = some { cls := .type "list", data := .seq items n }) (e2 : s.heap.get? b = some { cls := .type "list", data := .seq new n2 }) (hne : l ≠ b)
    (hs : s.heap.IsSliceOf sl vl vu .none) (pl : IsPart vl (some (a : Int))) (pu : IsPart vu (some (c : Int))) (hac : a ≤ c) (hc : c ≤ items.size)
    (hsz : items.size + new.size ≤ sizeLine) (h : Q () { s with heap := s.heap.update l (Obj.mapSeq fun xs => xs.extract 0 a ++ new ++ xs.extract c xs.size) }) :
    wpAny (model prog w) A (setItem (.ref l) (.ref sl) (.ref b)) Q E s := by
  have hl : s.heap.IsList l items := PySem.IsL.isList e
  have hb : s.heap.IsList b new := PySem.IsL.isList e2
  obtain ⟨os, hos, hcs, hds⟩ := id hs
  have hTs : s.TypeIs (.ref sl) "slice" := ⟨os, hos, hcs⟩
  have hstep : ¬ ((rawPart none == rawInt 0) = true) := Bool.false_ne_true
  have hsame : Builtin.List.listSameRef (.ref l) (.ref b) = false := by
    unfold Builtin.List.listSameRef
    exact beq_eq_false_iff_ne.mpr hne
  have hmax : (max (a : Int) (c : Int)).toNat = c := by omega
  have hz' : ((fun xs : Array Value => xs.extract 0 a ++ new ++ xs.extract c xs.size) items).size ≤ sizeLine + 1 := by
    simp only [Array.size_append, Array.size_extract]
    omega
  unfold setItem
  try with_reducible refine wpAny_holding ?_
  first | refine wpAny_bind (wpAny_pure ?_) | skip
  refine wpAny_bind (wpAny_sequenceKey hl.typeIs (by decide) ?_)
  refine wpAny_bind (wpAny_callSpecial?_slot (name := Str.ofString "__setitem__") hl.typeIs slot_list_setitem
    (wpAny_call_entry slot_list_setitem hl.typeIs entry_list_setitem ?_ (args_list_setitem _ _ _)))
  show wpAny _ _ (Builtin.List.listSubscript? (.ref sl) >>= _) _ _ s
  refine wpAny_bind ?_
  unfold Builtin.List.listSubscript?
  refine wpAny_bind (wpAny_specialOf hTs slice_no_index ?_)
  simp only [Option.isNone_none, if_true]
  refine wpAny_pure ?_
  show wpAny _ _ (typeOf (.ref sl) >>= _) _ _ s
  refine wpAny_bind (wpAny_typeOf hTs ?_)
  first
    | rw [if_neg (by decide)]
    | refine PySem.W.KFB.if_not (by decide) ?_
  rw [listSliceParts_eq]
  refine wpAny_bind (wpAny_bind (wpAny_field hos hds (x := .none) rfl (wpAny_bind (wpAny_listPart .none ?_))))
  rw [if_neg hstep]
  refine wpAny_bind (wpAny_field hos hds (x := vl) rfl (wpAny_bind (wpAny_listPart pl ?_)))
  refine wpAny_bind (wpAny_field hos hds (x := vu) rfl (wpAny_bind (wpAny_listPart pu (wpAny_pure ?_))))
  first
    | simp only [hsame, Bool.false_eq_true, if_false]
    | refine PySem.W.KFB.if_not hsame ?_
    | (dsimp only
       rw [if_neg (by rw [hsame]; exact Bool.false_ne_true)])
  refine wpAny_bind (m := Builtin.List.listAllItems (.ref b) "must assign iterable to extended slice") ?_
  unfold Builtin.List.listAllItems
  refine wpAny_bind (wpAny_typeOf hb.typeIs ?_)
  first
    | refine PySem.W.KFB.if_so (by decide) ?_
    | rw [if_pos (by decide)]
    | simp only [beq_self_eq_true, Bool.true_or, if_true]
  unfold Builtin.List.listItems
  refine wpAny_bind (wpAny_seqItems e2 rfl (wpAny_pure ?_))
  refine wpAny_bind (wpAny_bind (wpAny_seqItems e rfl (wpAny_pure ?_)))
  refine wpAny_bind (wpAny_of_eq ((sliceIndices_raw (some (a : Int)) (some (c : Int)) none items.size (by simp)).trans (congrArg (pure : Int × Int × Int → Sem (Int × Int × Int)) (bounds_run hac hc))) ?_)
  show wpAny _ _ (if ((1 : Int) == 1) = true then _ else _) _ _ s
  rw [if_pos (by decide)]
  refine wpAny_bind (wpAny_rule ?_)
  first
    | simp only [notLongL hsz, Bool.false_eq_true, if_false]
    | refine PySem.W.KFB.if_not (notLongL hsz) ?_
  first | refine wpAny_bind (wpAny_pure ?_) | skip
  show wpAny _ _ (updateSeq l (fun xs => xs.extract 0 ((a : Int)).toNat ++ new ++ xs.extract (max (a : Int) (c : Int)).toNat xs.size) >>= _) _ _ s
  rw [hmax, Int.toNat_natCast]
  refine wpAny_bind (wpAny_updateSeq (hz := Nat.le_trans (Nat.le_add_right _ _) hsz) (_hz' := hz') e rfl ?_)
  refine wpAny_bind (wpAny_letGo ?_)
  first
    | exact wpAny_bind (wpAny_pure (wpAny_pure ⟨.none, rfl, wpAny_pure h⟩))
    | exact wpAny_pure ⟨.none, rfl, wpAny_pure h⟩
end

section
variable {X : Cx}
/-- xs[a:c] = ys of another list, at the value level: sl is the slice object that was just made -/
theorem set_slice {pins : List (Addr × Obj)} {s : Shared} {σ : St} {H : Hp} {l b sl : Addr} {xs ys : List V} {a c : Int} {vl vu : Value} {Q : Unit → Shared → Prop} (I : Inv X pins σ H s)
    (hH : H l = some (.lst xs)) (hB : H b = some (.lst ys)) (hne : l ≠ b) (hs : s.heap.IsSliceOf sl vl vu .none) (ra : RelV (.int a) vl) (rc : RelV (.int c) vu) (h0 : 0 ≤ a) (hac : a ≤ c) (hc : c ≤ xs.length)
    (hz : xs.length + ys.length ≤ sizeLine) (h : ∀ s', Inv X pins σ (upd H l (.lst (xs.take a.toNat ++ ys ++ xs.drop c.toNat))) s' → Q () s') :
    wpAny (model X.prog X.w) X.A (setItem (.ref l) (.ref sl) (.ref b)) Q X.xe s := by
  obtain ⟨ta, rfl⟩ := ra
  obtain ⟨tc, rfl⟩ := rc
  obtain ⟨z, its, n, r, hl, e⟩ := I.lstM hH
  obtain ⟨z2, its2, n2, r2, hl2, e2⟩ := I.lstM hB
  obtain ⟨a', rfl⟩ := Int.eq_ofNat_of_zero_le h0
  obtain ⟨c', rfl⟩ := Int.eq_ofNat_of_zero_le (Int.le_trans h0 hac)
  simp only [Int.toNat_natCast] at h
  refine setItem_slice (a := a') (c := c') e e2 hne hs (.int _ _) (.int _ _) (by omega) (by rw [List.size_toArray]; omega) (by rw [List.size_toArray, List.size_toArray]; omega) (h _ ?_)
  refine I.lset (its' := its.take a' ++ its2 ++ its.drop c') (t' := s.toks) hH e ?_ (Vals.append (Vals.append (r.take _) r2) (r.drop _)) ?_
  · exact splice_eq its its2 a' c'
  · rw [List.length_append, List.length_append, List.length_take, List.length_drop]
    omega
end
end L2

namespace Att
open PySem PySem.W PySem.Calls PyProof.Rows

/-! ### the script -/
theorem ints_of_wellAll {P : Params} {h : Heap} : ∀ (ns : List Int) (vs : List Value), WellAll P h vs (ns.map WData.int) → IntsAre vs ns := by
  intro ns
  induction ns with
  | nil =>
    intro vs w
    rw [List.map_nil] at w
    cases w
    exact .nil
  | cons n ns ih =>
    intro vs w
    rw [List.map_cons] at w
    cases w with
    | cons a b =>
      cases a
      exact .cons _ _ (ih _ b)

theorem script_of {l : OpenLaw} {n : Nat} (hn : l.most = some n) {P : Params} {h : Heap} {args : List WData} {vals : List Value}
    (hpre : l.row.toRowW.claim.pre args = true) (hwl : WellAll P h vals args) :
    ∃ a vs ns, vals = [Value.ref a] ∧ args = [WData.list (ns.map WData.int)] ∧ h.get? a = some { cls := .type "list", data := .seq vs.toArray } ∧ IntsAre vs ns ∧ ns.length ≤ n := by
  have hsh : WShape.hasAll [] args [.list .int] = true := (pre_splitW hpre).1
  have hc : l.pre.holds [] { args := args } = true := (pre_splitW hpre).2
  obtain ⟨d, r, rfl, h1, h2⟩ := hasAllW_cons hsh
  obtain rfl := hasAllW_nil h2
  obtain ⟨xs, rfl, h3⟩ := hasW_list h1
  obtain ⟨ns, rfl⟩ := items_int h3
  have hlen : ns.length ≤ n := by
    unfold OpenLaw.pre at hc
    have h4 : (WTm.not (.lt (.lit (.int (n : Int))) (.len (.arg 0)))).holds [] { args := [.list (ns.map .int)] } = true := by
      have h4 := (holds_andW hc).1
      rw [hn] at h4
      exact h4
    have h5 := condW_of h4 (w_not (w_lt w_lit (w_len_list (w_arg rfl))))
    rw [List.length_map] at h5
    refine Nat.le_of_not_lt fun q => ?_
    have q' : (n : Int) < ((ns.length : Nat) : Int) := by omega
    first
      | (rw [decide_eq_true q'] at h5; exact absurd h5 (by decide))
      | (simp at h5; omega)
  cases hwl with
  | cons w1 w2 =>
    cases w2
    cases w1 with
    | list ho hall => exact ⟨_, _, ns, rfl, rfl, ho, ints_of_wellAll ns _ hall, hlen⟩

theorem post_true (l : OpenLaw) (args : List WData) : l.row.toRowW.claim.post args (.bool true) args = true :=
  postW_of (r := l.row.toRowW) (X := (true == true))
    (show WShape.has [] (.bool true) .bool = true by first | rfl | decide | simp [WShape.has, WShape.arms, WShape.armsAll])
    (show (WTm.eq .res (.lit (.bool true))).value [] { args := args, res := some (.bool true), after := args } = some (.bool (true == true)) from w_eq_bool (w_res rfl) w_lit) rfl

/-! ### the attachment: holds_open's last premise (the goal 'hc' behind k_head) from a wpAny of the law's body -/
theorem attach {l : OpenLaw} {n : Nat} {q : Program} {loose : List Str} {XP : (Str → Option Value) → Heap → Prop} {YP : World → Heap → Prop} {d : DefRec} {x : Str}
    (hn : l.most = some n) (hdf : d.params.defaults = [])
    (hbind : ∀ pm cd doc v : Value, bindArgs (docDef d.name d.params d.body d.scope pm cd doc) ⟨[v], []⟩ = pure [(x, v)])
    (hx : d.scope.names.lookup x = some .local ∨ d.scope.names.lookup x = some .cell)
    (hk : d.scope.kind = .function) (hco : d.scope.isCoroutine = false) (hgen : d.scope.isGenerator = false)
    (body : ∀ (w : World) (s₀ s₁ s : Shared) (mg mb : Str → Option Value) (fa : Addr) (o : Obj) (pm cd doc : Value) (a : Addr) (vs : List Value) (ns : List Int),
      Ground q loose [] XP w s₀ mg mb s₁.heap → YP w s₁.heap →
      s₁.heap.get? fa = some o → o.data = .func (docDef d.name d.params d.body d.scope pm cd doc) → s₁.heap.CodeRec cd d.name → mg d.name = some (.ref fa) →
      s₁.heap.get? a = some { cls := .type "list", data := .seq vs.toArray } → IntsAre vs ns → ns.length ≤ n →
      s.gens = #[] → s.os = s₁.os →
      Fr s₁.heap s₁.heap.objs.size s.heap (bindL (envOfC d.name d.scope s₁.heap.objs.size fa cd).kindOf [(x, .ref a)] fun _ => none) →
      Cl s₁.heap.objs.size (cellsFrom (s₁.heap.objs.size + 1) d.scope.names []) s.heap (bindC (envOfC d.name d.scope s₁.heap.objs.size fa cd).kindOf [(x, .ref a)] fun _ => none) →
      wpAny (model l.prog w) (callerA.deeper (envOfC d.name d.scope s₁.heap.objs.size fa cd)) (execs d.body (envOfC d.name d.scope s₁.heap.objs.size fa cd))
        (fun f s' => f = .ret (.bool true) ∧ OldK s₁.heap s'.heap ∧ s'.os = s₁.os ∧ AllBare s'.gens) (fun _ _ => False) s) :
    WalkO q loose XP YP l.row.toRowW d [] (fun f vs => PySem.call f vs) := by
  intro w s₀ s₁ mg mb G Y fa o pm cd doc dV kV ho hd hcd hD hmg hg args vals as hpre hlay hrd hwl hlo
  obtain rfl : dV = .none := Dflts.none hD hdf
  obtain rfl : kV = .none := Dflts.noKw hD
  obtain ⟨a, vs, ns, rfl, rfl, hobj, hints, hlen⟩ := script_of hn hpre hwl
  refine enter_call ?_
  refine call_cells_ret (o := o) (by rw [depth_caller]; decide) ho (fd_plain hd) G.T.nolimit hcd (hbind pm cd doc (.ref a)) (fun y hy => ?_) (fun h₁ tk F X => ?_) hco hgen hk
  · obtain rfl : y = (x, Value.ref a) := List.mem_singleton.mp hy
    rcases hx with e | e
    · exact .inl e
    · exact .inr ⟨e, cellsFrom_some _ _ _ (.inl e)⟩
  · refine wpAny_mono (body w s₀ s₁ { s₁ with heap := h₁, toks := tk } mg mb fa o pm cd doc a vs ns G Y ho (fd_plain hd) hcd hmg hobj hints hlen hg rfl F X) (fun f s' hq => ?_) (fun _ _ hq => hq)
    obtain ⟨rfl, h2, h3, h4⟩ := hq
    exact ⟨.inl ⟨.bool true, .bool true, [], rfl, fun _ => rfl, .bool true, post_true l _, fun _ => ⟨List.Pairwise.nil, fun _ hm => (nomatch hm)⟩⟩, h2, h3, h4⟩

/-- the same from a codeAny of the CALL (for a layer whose function contracts speak of calls) -/
theorem attach_call {l : OpenLaw} {n : Nat} {q : Program} {loose : List Str} {XP : (Str → Option Value) → Heap → Prop} {YP : World → Heap → Prop} {d : DefRec}
    (hn : l.most = some n) (hdf : d.params.defaults = [])
    (call : ∀ (w : World) (s₀ s₁ : Shared) (mg mb : Str → Option Value) (fa : Addr) (o : Obj) (pm cd doc : Value) (a : Addr) (vs : List Value) (ns : List Int),
      Ground q loose [] XP w s₀ mg mb s₁.heap → YP w s₁.heap →
      s₁.heap.get? fa = some o → o.data = .func (docDef d.name d.params d.body d.scope pm cd doc) → s₁.heap.CodeRec cd d.name → mg d.name = some (.ref fa) →
      s₁.heap.get? a = some { cls := .type "list", data := .seq vs.toArray } → IntsAre vs ns → ns.length ≤ n → s₁.gens = #[] →
      codeAny (model l.prog w) callerA (.call (.ref fa) ⟨[.ref a], []⟩) (fun r s' => r = .ok (.ret (.bool true)) ∧ OldK s₁.heap s'.heap ∧ s'.os = s₁.os ∧ AllBare s'.gens) s₁) :
    WalkO q loose XP YP l.row.toRowW d [] (fun f vs => PySem.call f vs) := by
  intro w s₀ s₁ mg mb G Y fa o pm cd doc dV kV ho hd hcd hD hmg hg args vals as hpre hlay hrd hwl hlo
  obtain rfl : dV = .none := Dflts.none hD hdf
  obtain rfl : kV = .none := Dflts.noKw hD
  obtain ⟨a, vs, ns, rfl, rfl, hobj, hints, hlen⟩ := script_of hn hpre hwl
  refine enter_call (codeAny_mono (call w s₀ s₁ mg mb fa o pm cd doc a vs ns G Y ho (fd_plain hd) hcd hmg hobj hints hlen hg) fun r s' hq => ?_)
  obtain ⟨rfl, h2, h3, h4⟩ := hq
  exact ⟨.inl ⟨.bool true, .bool true, [], rfl, fun _ => rfl, .bool true, post_true l _, fun _ => ⟨List.Pairwise.nil, fun _ hm => (nomatch hm)⟩⟩, h2, h3, h4⟩

/-- the same where the top left finished generators (o_head chose holds_openN): nothing may have changed at all and no generator may be left -/
theorem attachN {l : OpenLaw} {n : Nat} {q : Program} {loose : List Str} {XP : (Str → Option Value) → Heap → Prop} {YP : World → Heap → Prop} {d : DefRec} {x : Str}
    (hn : l.most = some n) (hdf : d.params.defaults = [])
    (hbind : ∀ pm cd doc v : Value, bindArgs (docDef d.name d.params d.body d.scope pm cd doc) ⟨[v], []⟩ = pure [(x, v)])
    (hx : d.scope.names.lookup x = some .local ∨ d.scope.names.lookup x = some .cell)
    (hk : d.scope.kind = .function) (hco : d.scope.isCoroutine = false) (hgen : d.scope.isGenerator = false)
    (body : ∀ (w : World) (s₀ s₁ s : Shared) (mg mb : Str → Option Value) (fa : Addr) (o : Obj) (pm cd doc : Value) (a : Addr) (vs : List Value) (ns : List Int),
      Ground q loose [] XP w s₀ mg mb s₁.heap → YP w s₁.heap →
      s₁.heap.get? fa = some o → o.data = .func (docDef d.name d.params d.body d.scope pm cd doc) → s₁.heap.CodeRec cd d.name → mg d.name = some (.ref fa) →
      s₁.heap.get? a = some { cls := .type "list", data := .seq vs.toArray } → IntsAre vs ns → ns.length ≤ n →
      s.gens = #[] → s.os = s₁.os →
      Fr s₁.heap s₁.heap.objs.size s.heap (bindL (envOfC d.name d.scope s₁.heap.objs.size fa cd).kindOf [(x, .ref a)] fun _ => none) →
      Cl s₁.heap.objs.size (cellsFrom (s₁.heap.objs.size + 1) d.scope.names []) s.heap (bindC (envOfC d.name d.scope s₁.heap.objs.size fa cd).kindOf [(x, .ref a)] fun _ => none) →
      wpAny (model l.prog w) (callerA.deeper (envOfC d.name d.scope s₁.heap.objs.size fa cd)) (execs d.body (envOfC d.name d.scope s₁.heap.objs.size fa cd))
        (fun f s' => f = .ret (.bool true) ∧ (∀ b o, s₁.heap.get? b = some o → s'.heap.get? b = some o) ∧ s'.os = s₁.os ∧ s'.gens = #[]) (fun _ _ => False) s) :
    WalkN q loose XP YP l.row.toRowW d [] (fun f vs => PySem.call f vs) := by
  intro w s₀ s₁ mg mb G Y fa o pm cd doc dV kV ho hd hcd hD hmg hg args vals as hpre hlay hrd hwl hlo
  obtain rfl : dV = .none := Dflts.none hD hdf
  obtain rfl : kV = .none := Dflts.noKw hD
  obtain ⟨a, vs, ns, rfl, rfl, hobj, hints, hlen⟩ := script_of hn hpre hwl
  refine enter_callW ?_
  refine call_cells_ret (o := o) (by rw [depth_caller]; decide) ho (fd_plain hd) G.T.nolimit hcd (hbind pm cd doc (.ref a)) (fun y hy => ?_) (fun h₁ tk F X => ?_) hco hgen hk
  · obtain rfl : y = (x, Value.ref a) := List.mem_singleton.mp hy
    rcases hx with e | e
    · exact .inl e
    · exact .inr ⟨e, cellsFrom_some _ _ _ (.inl e)⟩
  · refine wpAny_mono (body w s₀ s₁ { s₁ with heap := h₁, toks := tk } mg mb fa o pm cd doc a vs ns G Y ho (fd_plain hd) hcd hmg hobj hints hlen hg rfl F X) (fun f s' hq => ?_) (fun _ _ hq => hq)
    obtain ⟨rfl, h2, h3, h4⟩ := hq
    exact ⟨.inl ⟨.bool true, .bool true, [], rfl, fun _ => rfl, .bool true, post_true l _, fun _ => ⟨List.Pairwise.nil, fun _ hm => (nomatch hm)⟩⟩, h2, h3, h4⟩

/-! ### rules over ANY heap (no ledger) from facts about the written part K: the library's own take a ledger (News) for what they write -/
section
variable {prog : Program} {w : World} {A : Around} {E : Value → Shared → Prop} {s : Shared} {K : Frag}

/-- a def of the module, or a method (qual 'C.m'), entered: the frame is the next address; cells behind it -/
theorem call_fn {R : Result → Shared → Prop} {name qual : Str} {params : Arguments} {body : List Stmt} {scope : Scope} {dV kV doc pm cdv ct oc : Value} {an od : Option Addr} {osl : Array (Option Value)} {f : Addr} {args : Args} {binds : List (Str × Value)}
    (X : K.In s.heap) (hlim : s.heap.NoLimit) (ho : K.lookup f = some ⟨oc, od, .func (fnOf name qual params body scope dV kV doc pm an cdv ct), osl⟩) (hcd : codeIn K cdv qual = true) (hroom : A.depth < recursionLimit)
    (hbind : BindsTo s (fnOf name qual params body scope dV kV doc pm an cdv ct) args binds)
    (hkind : (binds.all fun y => scope.names.lookup y.1 == some .local || scope.names.lookup y.1 == some .cell) = true)
    (h : ∀ s₁, InCallC s s.heap.objs.size (bindL (envOfC qual scope s.heap.objs.size f cdv).kindOf binds fun _ => none) (cellsFrom (s.heap.objs.size + 1) scope.names [])
        (bindC (envOfC qual scope s.heap.objs.size f cdv).kindOf binds fun _ => none) s₁ →
      wpAny (model prog w) (A.deeper (envOfC qual scope s.heap.objs.size f cdv)) (execs body (envOfC qual scope s.heap.objs.size f cdv))
        (fun fl s' => R (.ok (.ret (match fl with | .ret v => v | _ => .none))) s')
        (fun e s' => wpAny (model prog w) (A.deeper (envOfC qual scope s.heap.objs.size f cdv)) («leaving» (envOfC qual scope s.heap.objs.size f cdv) e) (fun _ s'' => R (.error e) s'') (fun e' s'' => R (.error e') s'') s') s₁)
    (hco : scope.isCoroutine = false) (hgen : scope.isGenerator = false) (hk : scope.kind = .function) : codeAny (model prog w) A (.call (.ref f) args) R s := by
  refine codeAny_call_function hroom (X _ _ ho) rfl hco hgen rfl (codeRec_of X hcd) (hbind _ _ _ _ ?_)
  refine wpAny_newFunctionEnv_cells hk (kindsX hkind _) fun env he s₁ x => ?_
  subst he
  exact ⟨hlim.keeps x.toInCall.keep, codeAny_func (h s₁ x)⟩

/-- C(..): dict at size, instance at size + 1, then __init__ -/
theorem make_obj {R : Result → Shared → Prop} {C fI : Addr} {rest : List Value} {kw : List (Str × Value)}
    (X : K.In s.heap) (hm : makesIn K C = true) (hi : findIn K (.ref C) "__init__" = some (some (.ref fI))) (hf : isFn K (.ref fI) = true)
    (h : codeAny (model prog w) (A.under (.builtin "type.__call__" ⟨.ref C :: rest, kw⟩)) (.call (.ref fI) ⟨.ref (s.heap.objs.size + 1) :: rest, kw⟩) (InitBack (s.heap.objs.size + 1) R)
      { s with heap := (s.heap.push emptyDict).push (instObj C s.heap.objs.size) }) : codeAny (model prog w) A (.call (.ref C) ⟨rest, kw⟩) R s := by
  obtain ⟨hh, g, d, t, os⟩ := s
  exact make_core (makes_of X hm) (looks_findIn X hi) (fun self => bind_fn X self (beq_iff_eq.mp hf)) (.inl rfl) h

/-- x.name where the instance's dict holds the name and the class does not -/
theorem get_field {x C : Addr} {ox : Obj} {es : List DictEntry} {n : Nat} {name : Str} {expr : Bool} {v : Value} {Q : Value → Shared → Prop}
    (X : K.In s.heap) (I : PySem.W.InstAt s.heap x ox C (some (dictOf es n))) (hg : plainGet K C name = true) (hh : hasDictIn K C = true) (ha : findIn K (.ref C) name = some none)
    (hl : getL name es = some (some v)) (hv : handedIn v = true) (h : Q v { s with toks := s.toks + 1 }) : wpAny (model prog w) A (getAttr (.ref x) name expr) Q E s :=
  get_value X I (plainGet_of hg).1 (findObj_own hh ha rfl hl) hv h

/-- x.m(..): the method found in the class -/
theorem get_method {x C f : Addr} {ox : Obj} {es : List DictEntry} {n : Nat} {name : Str} {pl : Sem Bool} {Q : Value × List Value → Shared → Prop}
    (X : K.In s.heap) (I : PySem.W.InstAt s.heap x ox C (some (dictOf es n))) (hg : plainGet K C name = true) (hf : findIn K (.ref C) name = some (some (.ref f))) (ht : isFn K (.ref f) = true)
    (hl : getL name es = some none) (h : Q (.ref f, [.ref x]) s) : wpAny (model prog w) A (getMethod (.ref x) name pl) Q E s :=
  method_fn X I (plainGet_of hg).1 (plainGet_of hg).2 hf (beq_iff_eq.mp ht) (by show (lookIn name (dictOf es n)).map _ = _; rw [lookIn_dict, hl]; rfl) h

/-! the whole heap as the ledger: makes every rule that writes through a ledger a rule over any heap -/
def noObjs (h : Heap) : Heap := { h with objs := #[] }
theorem noObjs_get (h : Heap) (b : Addr) : (noObjs h).get? b = none := by
  cases e : (noObjs h).get? b with
  | none => rfl
  | some o => exact absurd (Heap.lt_size e) (Nat.not_lt_zero _)
def ledger (h : Heap) (L d : Addr) : List (Addr × Obj) := (List.range h.objs.size).filterMap fun a => if a = L ∨ a = d then none else (h.get? a).map fun o => (a, o)
theorem mem_ledger {h : Heap} {L d a : Addr} {o : Obj} : (a, o) ∈ ledger h L d ↔ a ≠ L ∧ a ≠ d ∧ h.get? a = some o := by
  unfold ledger
  rw [List.mem_filterMap]
  constructor
  · rintro ⟨b, _, e⟩
    split at e
    · cases e
    · rename_i hb
      obtain ⟨o', ho, e'⟩ := Option.map_eq_some_iff.mp e
      cases e'
      exact ⟨fun q => hb (.inl q), fun q => hb (.inr q), ho⟩
  · rintro ⟨n1, n2, ho⟩
    refine ⟨a, List.mem_range.mpr (Heap.lt_size ho), ?_⟩
    rw [if_neg (show ¬ (a = L ∨ a = d) from fun q => q.elim n1 n2), ho] <;> rfl
theorem news_ledger {h : Heap} {L d : Addr} {od : Obj} (hne : d ≠ L) (ho : h.get? d = some od) : News (noObjs h) L h ([] ++ (d, od) :: ledger h L d) := by
  rintro ⟨a, o⟩ hp
  rcases List.mem_cons.mp hp with e | hp
  · cases e
    exact ⟨ho, hne, noObjs_get _ _⟩
  · obtain ⟨n1, n2, e⟩ := mem_ledger.mp hp
    exact ⟨e, n1, noObjs_get _ _⟩
theorem fr_all {h : Heap} {L : Addr} {m : Str → Option Value} (n : h.Ns L m) : Fr (noObjs h) L h m :=
  ⟨n, fun b o e => (by rw [noObjs_get] at e; cases e), Nat.zero_le _⟩
/-- Upd of the head entry (for append_K, setItem_K ..) -/
theorem upd_ledger {h : Heap} {L d : Addr} {o o' : Obj} : Upd d o o' ((d, o) :: ledger h L d) ((d, o') :: ledger h L d) :=
  .head fun ⟨_, _⟩ hp => (mem_ledger.mp hp).2.1

/-- x.name = v over any heap: L is any namespace of the heap (the frame's, say): its map stays, its object is not told; all else but the dict stays -/
theorem set_field {x C dx L : Addr} {ox : Obj} {m : Str → Option Value} {es es' : List DictEntry} {n n' : Nat} {name : Str} {v : Value} {Q : Unit → Shared → Prop}
    (X : K.In s.heap) (I : PySem.W.InstAt s.heap x ox C (some (dictOf es n))) (hd : ox.dict = some dx) (hL : s.heap.Ns L m) (hne : dx ≠ L)
    (hs : findIn K (.ref C) "__setattr__" = some (some (.builtin "object.__setattr__"))) (hp : plainOver K C = true) (ht : takerIn K C name = some none) (hh : hasDictIn K C = true) (hl : (getL name es).isSome = true)
    (e : (putL name (PyData.keyHash w.params name) (.str name (s.toks + 1)) v es, putN name es n) = (es', n')) (hz : es'.length ≤ 1000)
    (h : ∀ h' : Heap, h'.Ns L m → h'.get? dx = some (dictOf es' n') → (∀ b o, b ≠ dx → b ≠ L → s.heap.get? b = some o → h'.get? b = some o) → Q () { s with heap := h', toks := s.toks + 2 }) :
    wpAny (model prog w) A (setAttr (.ref x) name v) Q E s := by
  obtain ⟨e1, e2⟩ := Prod.mk.inj e
  have hdx : s.heap.get? dx = some (dictOf es n) := by
    have := I.dict
    rw [hd] at this
    exact this
  refine set_plain X I hs (osa_dict (s := { s with toks := s.toks + 1 }) (h₀ := noObjs s.heap) (L := L) (m := m) (od := dictOf es n) (od' := dictOf es' n') (es := es') (n := n') (pre := []) (post := ledger s.heap L dx)
    (fr_all hL) (news_ledger hne hdx) X I hd hp ht hh hl (fun _ q => nomatch q) (fun ⟨_, _⟩ q => (mem_ledger.mp q).2.1) (by rw [putName_dict, e1, e2]) rfl hz fun h' F' N' => ?_)
  exact h h' F'.ns (N'.get (List.Mem.head _)) fun b o n1 n2 ho => N'.get (List.Mem.tail _ (mem_ledger.mpr ⟨n2, n1, ho⟩))
end
end Att

namespace L2
open PySem PySem.Spec PyProof.Rows

theorem vals_ints : ∀ {vs : List Value} {ns : List Int}, IntsAre vs ns → Vals (ns.map V.int) vs
  | _, _, .nil => .nil
  | _, _, .cons n t h => .cons ⟨t, rfl⟩ (vals_ints h)

/-- nothing is tracked but the script, known to the object (or it is an object of the module) -/
def Only (H : Hp) : Prop := ∀ b, H b = none ∨ ∃ o xs, H b = some (.frz o (.lst xs))

/-- THE HEAD: the law's promise, at the heap behind the top. F, the promise of the law's def, may use that base is part of the heap (so K.In base, base.Ns mainGlobals mg stand in Mod) -/
theorem law_call {P : Program} {w : World} {K : PySem.W.Frag} {mg mb : Str → Option Value} {CX : CXT} {k : Nat} {fa a : Addr} {fd : FuncData} {x : Str} {sp : Sp} {s₁ : Shared} {vs : List Value} {ns : List Int}
    (KX : K.In s₁.heap) (hns : s₁.heap.Ns mainGlobals mg) (hb : s₁.heap.Ns builtinsNs mb) (hbb : ∀ x : Str, x ≠ "__name__" → mb x = bootBuiltins x) (hlim : s₁.heap.NoLimit) (hg : s₁.gens = #[])
    (ha : s₁.heap.get? a = some { cls := .type "list", data := .seq vs.toArray }) (hi : IntsAre vs ns) (hl : ns.length ≤ sizeLine) (hr : Room k callerA)
    (F : ∀ base : Heap, K.In base → base.Ns mainGlobals mg → FnOk P w K mg base CX k fa fd [x] sp) (hbind : ∀ (s : Shared) (u : Value), BindsTo s fd ⟨[u], []⟩ [(x, u)])
    (hsp : ∀ H : Hp, Only H → SqL K H a (ns.map V.int) → sp [.ref a] H (fun v _ => v = .bl true) fun _ _ _ => False)
    (hCX : ∀ H e s', CX [] H s₁ (fun _ _ _ => False) e s' → False) :
    codeAny (model P w) callerA (.call (.ref fa) ⟨[.ref a], []⟩) (fun r s' => r = .ok (.ret (.bool true)) ∧ OldK s₁.heap s'.heap ∧ s'.os = s₁.os ∧ AllBare s'.gens) s₁ := by
  have rv := vals_ints hi
  have lenV := hi.length
  -- from an abstract heap in which nothing but the script may be tracked
  have core : ∀ H : Hp, Only H → SqL K H a (ns.map V.int) → HOk P w H s₁.heap → (∀ b, H b ≠ none → b = a) → (H a ≠ none → K.lookup a = none) →
      codeAny (model P w) callerA (.call (.ref fa) ⟨[.ref a], []⟩) (fun r s' => r = .ok (.ret (.bool true)) ∧ OldK s₁.heap s'.heap ∧ s'.os = s₁.os ∧ AllBare s'.gens) s₁ := by
    intro H hO hS hok hA hK
    have base_of : ∀ {b : Addr} {o : Obj}, s₁.heap.get? b = some o → H b = none → (hidT s₁.heap H).get? b = some o := fun e n => hidT_get e n
    have noA : ∀ {b : Addr} {o : Obj} {es : Array DictEntry} {ep : Nat}, s₁.heap.get? b = some o → o.data = .dict es ep → H b = none := fun {b o es ep} e d => by
      cases q : H b with
      | none => rfl
      | some u =>
        have e' : b = a := hA b (by rw [q]; simp)
        subst e'
        rw [ha] at e; cases e
        have d' : Data.seq vs.toArray _ = Data.dict es ep := d
        cases d'
    have nsK : ∀ {b : Addr} {m : Str → Option Value}, s₁.heap.Ns b m → (hidT s₁.heap H).Ns b m := fun {b m} ⟨o, es, ep, e, d, r⟩ => ⟨o, es, ep, base_of e (noA e d), d, r⟩
    have hKb : K.In (hidT s₁.heap H) := fun b o e => base_of (KX b o e) (by
      cases q : H b with
      | none => rfl
      | some u =>
        have e' : b = a := hA b (by rw [q]; simp)
        subst e'
        rw [hK (by rw [q]; simp)] at e; cases e)
    have hM : Mod K mg (hidT s₁.heap H) := ⟨hKb, nsK hns, ⟨mb, nsK hb, hbb⟩, let ⟨mc, h1, h2⟩ := hlim; ⟨mc, nsK h1, h2⟩⟩
    have e0 : Env0 P w K mg (hidT s₁.heap H) callerA [] s₁ H := ⟨rfl, hM, fun b o e => of_hidT e, Nat.le_of_eq (hidT_size _ _), trivial, fun b hb => absurd (show b ∈ ([] : List Addr) from hb) (by simp), hok, .of_eq hg⟩
    refine codeAny_mono ((F _ hKb (nsK hns)).run callerA [] s₁ H ⟨[.ref a], []⟩ [.ref a] [.ref a] _ _ hr e0 (hbind s₁ (.ref a)) (.cons rfl .nil) (hsp H hO hS)) fun r s' h => ?_
    cases r with
    | error e => exact (hCX H e s' h).elim
    | ok fl =>
      cases fl with
      | next => exact False.elim h
      | brk => exact False.elim h
      | cont => exact False.elim h
      | ret u =>
        obtain ⟨v, H', os, bare, un, hok', r', q⟩ := h
        have q' : v = .bl true := q
        subst q'
        obtain rfl : u = Value.bool true := r'
        refine ⟨rfl, OldK.of_keep fun b o e => ?_, os, bare⟩
        cases q : H b with
        | none => exact un.keep b o e q (by intro z; exact absurd (show b ∈ ([] : List Addr) from z) (by simp)) (by simp)
        | some u =>
          rcases hO b with z | ⟨ob, xs, z⟩
          · rw [q] at z; cases z
          · have z2 := un.frzs b ob _ z
            obtain ⟨e1, _⟩ := hok b _ z
            obtain ⟨e2, _⟩ := hok' b _ z2
            rw [e] at e1; cases e1
            exact e2
  cases hk : K.lookup a with
  | some o =>
    -- the script is one of the module's own objects
    have e := KX a o hk
    rw [ha] at e
    cases e
    refine core (fun _ => none) (fun _ => .inl rfl) (.inr ⟨_, vs.toArray, _, hk, rfl, rfl, rfl, by rw [List.size_toArray, lenV]; exact hl, by simpa using rv⟩) (fun b u z => by have z' : (none : Option HO) = some u := z; cases z') (fun b z => absurd rfl z) fun z => absurd rfl z
  | none =>
    refine core (fun b => if b = a then some (.frz { cls := .type "list", data := .seq vs.toArray } (.lst (ns.map V.int))) else none) (fun b => ?_) (.inl (.inr ⟨{ cls := .type "list", data := .seq vs.toArray }, if_pos rfl⟩)) (fun b u z => ?_) (fun b z => ?_) fun _ => hk
    · by_cases hb : b = a
      · exact .inr ⟨_, _, if_pos hb⟩
      · exact .inl (if_neg hb)
    · by_cases hb : b = a
      · have z' := (if_pos hb).symm.trans z
        cases z'
        subst hb
        exact ⟨ha, by rw [List.length_map]; exact hl, vs, _, rv, ha⟩
      · have z' := (if_neg hb).symm.trans z
        cases z'
    · by_cases hb : b = a
      · exact hb
      · exact absurd (if_neg hb) z
end L2

namespace L2
open PySem PySem.Spec PyProof.Rows

abbrev KOf {K : PySem.W.Frag} {h : Heap} (_ : K.In h) : PySem.W.Frag := K

/-- the goal that k_head leaves (case hc), from the law's promise. F gives the function object fd (K's own) once, then the promise over every base -/
theorem walk_of {l : PySem.W.OpenLaw} {n k : Nat} {q : Program} {loose : List Str} {XP : (Str → Option Value) → Heap → Prop} {YP : World → Heap → Prop} {d : DefRec} {K : Params → PySem.W.Frag} {CX : World → CXT} {sp : World → Sp} {x : Str}
    (hn : l.most = some n) (hn2 : n ≤ sizeLine) (hdf : d.params.defaults = []) (hr : Room k callerA)
    (hY : ∀ (w : World) (h : Heap), YP w h → (K w.params).In h)
    (F : ∀ (w : World) (mg : Str → Option Value) (fa : Addr) (h : Heap), (K w.params).In h → h.Ns mainGlobals mg → mg d.name = some (.ref fa) →
      ∃ fd : FuncData, (∀ (s : Shared) (u : Value), BindsTo s fd ⟨[u], []⟩ [(x, u)]) ∧
        ∀ base : Heap, (K w.params).In base → base.Ns mainGlobals mg → FnOk l.prog w (K w.params) mg base (CX w) k fa fd [x] (sp w))
    (hsp : ∀ (w : World) (H : Hp) (a : Addr) (ns : List Int), ns.length ≤ n → Only H → SqL (K w.params) H a (ns.map V.int) → sp w [.ref a] H (fun v _ => v = .bl true) fun _ _ _ => False)
    (hCX : ∀ (w : World) (H : Hp) (s : Shared) (e : Value) (s' : Shared), CX w [] H s (fun _ _ _ => False) e s' → False) :
    PySem.W.WalkO q loose XP YP l.row.toRowW d [] (fun f vs => PySem.call f vs) := by
  refine Att.attach_call hn hdf fun w s₀ s₁ mg mb fa o pm cd doc a vs ns G Y ho hd hcd hmg hobj hints hlen hg => ?_
  have KX := hY w _ Y
  obtain ⟨fd, hb, hF⟩ := F w mg fa _ KX G.T.g hmg
  exact law_call KX G.T.g G.T.b G.T.builtins G.T.nolimit hg hobj hints (Nat.le_trans hlen hn2) hr hF hb (fun H hO hS => hsp w H a ns hlen hO hS) fun H e s' => hCX w H s₁ e s'
/-- the same where the promise hangs on the written part alone: (sp := My.sp_law), no hole under a binder -/
theorem walk_ofK {l : PySem.W.OpenLaw} {n k : Nat} {q : Program} {loose : List Str} {XP : (Str → Option Value) → Heap → Prop} {YP : World → Heap → Prop} {d : DefRec} {K : Params → PySem.W.Frag} {CX : CXT} {sp : PySem.W.Frag → Sp} {x : Str}
    (hn : l.most = some n) (hn2 : n ≤ sizeLine) (hdf : d.params.defaults = []) (hr : Room k callerA)
    (hY : ∀ (w : World) (h : Heap), YP w h → (K w.params).In h)
    (F : ∀ (w : World) (mg : Str → Option Value) (fa : Addr) (h : Heap), (K w.params).In h → h.Ns mainGlobals mg → mg d.name = some (.ref fa) →
      ∃ fd : FuncData, (∀ (s : Shared) (u : Value), BindsTo s fd ⟨[u], []⟩ [(x, u)]) ∧
        ∀ base : Heap, (K w.params).In base → base.Ns mainGlobals mg → FnOk l.prog w (K w.params) mg base CX k fa fd [x] (sp (K w.params)))
    (hsp : ∀ (K : PySem.W.Frag) (H : Hp) (a : Addr) (ns : List Int), ns.length ≤ n → Only H → SqL K H a (ns.map V.int) → sp K [.ref a] H (fun v _ => v = .bl true) fun _ _ _ => False)
    (hCX : ∀ (H : Hp) (s : Shared) (e : Value) (s' : Shared), CX [] H s (fun _ _ _ => False) e s' → False) :
    PySem.W.WalkO q loose XP YP l.row.toRowW d [] (fun f vs => PySem.call f vs) :=
  walk_of (K := K) (CX := fun _ => CX) (sp := fun w => sp (K w.params)) hn hn2 hdf hr hY F (fun w H a ns h1 h2 h3 => hsp (K w.params) H a ns h1 h2 h3) fun _ H s e s' => hCX H s e s'
end L2

/- THE LAST THEOREM (shape; LID, My.* are yours):
   My.Adr: a structure of the addresses that your layer names (classes, functions); My.Txt K t: a structure (Prop) of the equations over K;
   My.txt_mk : {K} {implicit addresses ..} (e1 : nsIn K mainGlobals "law" = some (some (.ref f))) (e2 : K.lookup f = some ⟨oc, od, .func (fnOf "law" "law" params body scope dV kV doc pm an cdv ct), sl⟩) (e3 : codeIn K cdv "law" = true) .. : ∃ t, My.Txt K t

set_option maxRecDepth 100000 in
set_option maxHeartbeats 0 in
theorem PySem.Challenge.cw_LID_holds : PySem.Challenge.rw_LID.Holds := by
  w_on; o_law; k_head; (case hw => w_witness2)
  k_fill
  refine L2.walk_of (l := PySem.Challenge.rw_LID) (n := 63) (k := 40) (x := "script") (CX := fun w => ..) (sp := fun _ => My.sp_law) rfl (by decide) rfl ⟨rfl, by decide, by decide⟩ (fun w h Y => PySem.W.kIn_of Y) ?F ?S ?C
  case F =>
    intro w mg fa h KX G hmg
    have T : ∃ t, My.Txt (L2.KOf KX) t := by
      dsimp only [L2.KOf]                          -- K must stand as «<heap const> w.params» for k_is
      refine' My.txt_mk ?e1 ?e2 ?e3 ..
      (case e1 => PySem.W.k_is)                    -- in the order: a name -> its address -> its object -> its parts
      (case e2 => PySem.W.k_is)
      ..
    obtain ⟨t, T⟩ := T
    have e0 := hmg.symm.trans (PySem.W.mg_of KX G T.law)
    cases e0                                       -- fa is the law's own address
    exact ⟨_, fun s u => .of_eq rfl, fun base kb nb => My.law_fn T kb nb⟩     -- if «.of_eq rfl» comes too early: refine' ⟨_, ?b, fun base kb nb => My.law_fn T kb nb⟩; exact fun s u => .of_eq rfl
  case S => exact fun w H a ns hl hO hS => ..
  case C => exact ..
(the tactic k_is has no namespace: write k_is) -/

/-! SHORT WORDS over the layer: a def of the text, its body, what a loop and a test want. -/
namespace L2
open PySem PySem.Spec PyProof.Rows

/-! ### the text by places -/
/-- the j-th statement of a class's body -/
def inClass (s : Stmt) (j : Nat) : Stmt := match s with
  | .ClassDef _ _ _ body _ _ _ _ _ _ _ => body.getD j (.Pass ⟨0, 0, 0, 0⟩)
  | _ => .Pass ⟨0, 0, 0, 0⟩
def defArgs (s : Stmt) : Arguments := match s with
  | .FunctionDef _ a _ _ _ _ _ _ _ _ => a
  | _ => { posonlyargs := [], args := [], vararg := none, kwonlyargs := [], kw_defaults := [], kwarg := none, defaults := [] }
def defBody (s : Stmt) : List Stmt := match s with
  | .FunctionDef _ _ b _ _ _ _ _ _ _ => b
  | _ => []
def defScope (s : Stmt) : Scope := match s with
  | .FunctionDef _ _ _ _ _ _ sc _ _ _ => sc
  | _ => { kind := .function, names := [], isGenerator := false, isCoroutine := false }

/-! ### no exception leaves a def -/
abbrev CX0 : CXT := fun _ _ _ _ _ _ => False
abbrev E0 : XK := fun _ _ _ => False
theorem pass0 {X : Cx} : Passes CX0 X E0 := fun _ _ _ _ _ _ _ h => h.elim

/-! ### a def (or method) of the text as it stands behind the top -/
structure Fun (K : PySem.W.Frag) (x qual : Str) (st : Stmt) (f : Addr) (fd : FuncData) : Prop where
  ex : ∃ (oc : Value) (od : Option Addr) (kV doc pm : Value) (an : Option Addr) (cdv ct : Value) (osl : Array (Option Value)),
    fd = PySem.W.fnOf x qual (defArgs st) (defBody st) (defScope st) .none kV doc pm an cdv ct ∧ K.lookup f = some ⟨oc, od, .func fd, osl⟩ ∧ PySem.W.codeIn K cdv qual = true
  kp : PySem.W.keepIn K (.ref f) = true
section
variable {P : Program} {w : World} {K : PySem.W.Frag} {mg : Str → Option Value} {base : Heap}
/-- THE RULE for a def: its body as a term of rules, and the reading of that term -/
theorem Fun.ok {x qual : Str} {st : Stmt} {f : Addr} {fd : FuncData} {N ps : List Str} {k : Nat} {sp : Sp} (F : Fun K x qual st f fd) (S : FnScope N ps (defScope st)) (len : ∀ vs H Q E, sp vs H Q E → vs.length = ps.length)
    (hbody : ∀ (cdv : Value) (A : Around) (outer : List Env) (s : Shared) (H : Hp) (vs : List V) (Q : VK) (E : XK), Room k (A.deeper (envOfC qual (defScope st) s.heap.objs.size f cdv)) → sp vs H Q E →
      ∃ t, PSs (cxOf CX0 P w K mg base N qual (defScope st) f cdv A outer s H E).nox (defBody st) t ∧ t { nx := fun _ H' => Q .non H', rt := Q } (start N vs) H) : FnOk P w K mg base CX0 (k + 1) f fd ps sp := by
  obtain ⟨oc, od, kV, doc, pm, an, cdv, ct, osl, rfl, lk, hcd⟩ := F.ex
  refine fn_of lk hcd S len fun A outer s H vs Q E hr hsp => ?_
  obtain ⟨t, h, q⟩ := hbody cdv A outer s H vs Q E hr hsp
  exact ⟨t, h.nox, q⟩
/-- how its arguments bind (no defaults): h is «fun _ _ _ _ _ _ us hl => match us, hl with | [_, _], _ => rfl», one _ a parameter -/
theorem Fun.binds {x qual : Str} {st : Stmt} {f : Addr} {fd : FuncData} {ps : List Str} (F : Fun K x qual st f fd)
    (h : ∀ (kV doc pm : Value) (an : Option Addr) (cdv ct : Value) (us : List Value), us.length = ps.length → bindArgs (PySem.W.fnOf x qual (defArgs st) (defBody st) (defScope st) .none kV doc pm an cdv ct) ⟨us, []⟩ = pure (ps.zip us)) : Binds K fd ps [] := by
  obtain ⟨oc, od, kV, doc, pm, an, cdv, ct, osl, rfl, lk, hcd⟩ := F.ex
  exact .all (h kV doc pm an cdv ct)
theorem fun_mk {x qual : Str} {st : Stmt} {f : Addr} {oc : Value} {od an : Option Addr} {osl : Array (Option Value)} {kV doc pm cdv ct : Value} (l : K.lookup f = some ⟨oc, od, .func (PySem.W.fnOf x qual (defArgs st) (defBody st) (defScope st) .none kV doc pm an cdv ct), osl⟩)
    (c : PySem.W.codeIn K cdv qual = true) (k : PySem.W.keepIn K (.ref f) = true) : Fun K x qual st f (PySem.W.fnOf x qual (defArgs st) (defBody st) (defScope st) .none kV doc pm an cdv ct) := ⟨⟨oc, od, kV, doc, pm, an, cdv, ct, osl, rfl, l, c⟩, k⟩
end
theorem hu_of {A : Around} {k : Nat} (hr : Room k A) : A.units + 1 < cLine := Nat.lt_of_le_of_lt (Nat.add_le_add_left (by decide : 1 ≤ 64) _) hr.units
theorem small1000 {n : Nat} (h : n ≤ 1000) : n < sizeLine := Nat.lt_of_le_of_lt h (by decide)

/-! ### expressions in short: the name that stands in the i-th slot -/
section
variable {X : Cx}
theorem pv (i : Nat) {x : Str} {pos : Pos} (hN : X.N[i]? = some x := by rfl) (hv : Vis X.env.scope x := by first | exact Or.inl rfl | exact Or.inr (Or.inl rfl) | exact Or.inr (Or.inr rfl)) (hd : (x == ("__debug__" : Str)) = false := by decide)
    (hcd : (x == ("__classdict__" : Str)) = false := by decide) : PE X (.Name x pos) (tVar i) := pe_var hN hv hd hcd
end

/-! ### tests -/
theorem iteF {A B : Prop} (h : B) : if false = true then A else B := by
  rw [if_neg Bool.false_ne_true]
  exact h
theorem iteT {A B : Prop} (h : A) : if true = true then A else B := by
  rw [if_pos rfl]
  exact h
theorem ite2 {c A B : Prop} [Decidable c] (h1 : c → A) (h2 : ¬ c → B) : if c then A else B := by
  by_cases h : c
  · rw [if_pos h]
    exact h1 h
  · rw [if_neg h]
    exact h2 h
theorem iteNS {c A B : Prop} [Decidable c] (hc : c) (h : B) : if (!decide c) = true then A else B := by
  rw [decide_eq_true hc]
  exact iteF h

/-! ### heaps -/
/-- all that was tracked is as it was -/
def Same (H H' : Hp) : Prop := ∀ b o, H b = some o → H' b = some o
theorem Same.refl (H : Hp) : Same H H := fun _ _ h => h
theorem Same.trans {H H1 H2 : Hp} (a : Same H H1) (b : Same H1 H2) : Same H H2 := fun c o h => b c o (a c o h)
theorem Same.free {H H' : Hp} (e : Same H H') {l : Addr} (h : H' l = Option.none) : H l = Option.none := by
  cases q : H l with
  | none => rfl
  | some o =>
    rw [e l o q] at h
    cases h
theorem Same.seq {K : PySem.W.Frag} {H H' : Hp} {a : Addr} {xs : List V} (e : Same H H') (h : SqL K H a xs) : SqL K H' a xs := by
  rcases h with (h | ⟨o, h⟩) | h
  · exact .inl (.inl (e _ _ h))
  · exact .inl (.inr ⟨o, e _ _ h⟩)
  · exact .inr h

end L2

namespace L2
open PySem PySem.Spec PyProof.Rows

/-! ### lists of pairs as tables -/
section
variable {κ : Type} [DecidableEq κ]
def valV (kvs : List (κ × V)) (k : κ) : Option V := (kvs.find? fun kv => decide (kv.1 = k)).map (·.2)
/-- in its place, or at the end -/
def putK (kvs : List (κ × V)) (k : κ) (v : V) : List (κ × V) :=
  if (kvs.any fun kv => decide (kv.1 = k)) = true then kvs.map (fun kv => if kv.1 = k then (kv.1, v) else kv) else kvs ++ [(k, v)]
def dropK (kvs : List (κ × V)) (k : κ) : List (κ × V) := kvs.filter fun kv => decide (kv.1 ≠ k)

theorem valV_nil {k : κ} : valV ([] : List (κ × V)) k = none := rfl
theorem valV_pos {p : κ × V} {r : List (κ × V)} {k : κ} (e : p.1 = k) : valV (p :: r) k = some p.2 := by simp [valV, List.find?_cons, e]
theorem valV_neg {p : κ × V} {r : List (κ × V)} {k : κ} (e : ¬ p.1 = k) : valV (p :: r) k = valV r k := by simp [valV, List.find?_cons, e]
theorem valV_any (k : κ) : ∀ kvs : List (κ × V), (kvs.any fun kv => decide (kv.1 = k)) = (valV kvs k).isSome
  | [] => rfl
  | p :: r => by
    rw [List.any_cons]
    by_cases e : p.1 = k
    · simp only [valV_pos e, decide_eq_true e, Bool.true_or, Option.isSome_some]
    · rw [valV_neg e, decide_eq_false e, Bool.false_or]; exact valV_any k r
theorem valV_map (k j : κ) (y : V) : ∀ kvs : List (κ × V), valV (kvs.map fun kv => if kv.1 = k then (kv.1, y) else kv) j = (valV kvs j).map fun x => if j = k then y else x
  | [] => rfl
  | p :: r => by
    have ih := valV_map k j y r
    rw [List.map_cons]
    by_cases h : p.1 = k
    · rw [if_pos h]
      by_cases e : p.1 = j
      · rw [valV_pos (p := (p.1, y)) e, valV_pos e, Option.map_some, if_pos (e.symm.trans h)]
      · rw [valV_neg (p := (p.1, y)) e, valV_neg e, ih]
    · rw [if_neg h]
      by_cases e : p.1 = j
      · rw [valV_pos (p := p) e, valV_pos e, Option.map_some, if_neg (fun z => h (e.trans z))]
      · rw [valV_neg (p := p) e, valV_neg e, ih]
theorem valV_snoc (k j : κ) (y : V) : ∀ kvs : List (κ × V), valV kvs k = none → valV (kvs ++ [(k, y)]) j = if j = k then some y else valV kvs j
  | [], _ => by
    by_cases e : k = j
    · rw [if_pos e.symm]; exact valV_pos (p := (k, y)) e
    · rw [if_neg (fun z => e z.symm)]; exact valV_neg (p := (k, y)) e
  | p :: r, hn => by
    rw [List.cons_append]
    have hk : ¬ p.1 = k := fun z => by rw [valV_pos z] at hn; cases hn
    rw [valV_neg hk] at hn
    have ih := valV_snoc k j y r hn
    by_cases e : p.1 = j
    · rw [valV_pos e, valV_pos e, if_neg (fun z => hk (e.trans z))]
    · rw [valV_neg e, valV_neg e, ih]
theorem valV_put (kvs : List (κ × V)) (k j : κ) (y : V) : valV (putK kvs k y) j = if j = k then some y else valV kvs j := by
  unfold putK
  by_cases a : (kvs.any fun kv => decide (kv.1 = k)) = true
  · rw [if_pos a, valV_map]
    rw [valV_any] at a
    by_cases e : j = k
    · obtain ⟨x, hx⟩ := Option.isSome_iff_exists.mp a
      rw [if_pos e, e, hx, Option.map_some, if_pos rfl]
    · rw [if_neg e]
      cases valV kvs j with
      | none => rfl
      | some x => rw [Option.map_some, if_neg e]
  · rw [if_neg a]
    refine valV_snoc k j y kvs ?_
    rw [valV_any] at a
    cases q : valV kvs k with
    | none => rfl
    | some x => rw [q] at a; exact (a rfl).elim
theorem length_putK (kvs : List (κ × V)) (k : κ) (v : V) : (putK kvs k v).length ≤ kvs.length + 1 := by
  unfold putK
  split
  · rw [List.length_map]; omega
  · rw [List.length_append, List.length_cons, List.length_nil]; omega
theorem putK_new {kvs : List (κ × V)} {k : κ} (v : V) (h : valV kvs k = none) : putK kvs k v = kvs ++ [(k, v)] := by
  unfold putK
  rw [valV_any, h]
  exact if_neg (by decide)

theorem RelO.isSome_eq {o : Option V} {u : Option Value} (r : RelO o u) : o.isSome = u.isSome := by
  cases o with
  | none => cases u with
    | none => rfl
    | some _ => exact (show False from r).elim
  | some _ => cases u with
    | none => exact (show False from r).elim
    | some _ => rfl
theorem RelO.getD {o : Option V} {u : Option Value} {d : V} {d' : Value} (r : RelO o u) (rd : RelV d d') : RelV (o.getD d) (u.getD d') := by
  cases o with
  | none => cases u with
    | none => exact rd
    | some _ => exact (show False from r).elim
  | some _ => cases u with
    | none => exact (show False from r).elim
    | some _ => exact r

/-- raw tables of the same keys -/
theorem KV.val {kvs : List (κ × V)} {vs : List (κ × Value)} (r : KV kvs vs) (k : κ) : RelO (valV kvs k) (valueAt vs k) := by
  unfold KV at r
  induction r with
  | nil => exact True.intro
  | @cons p q ps qs h t ih =>
    obtain ⟨h1, h2⟩ := h
    by_cases e : p.1 = k
    · have e' : q.1 = k := h1.symm.trans e
      have b : valueAt (q :: qs) k = some q.2 := by simp [valueAt, List.find?_cons, e']
      rw [valV_pos e, b]; exact h2
    · have e' : ¬ q.1 = k := fun z => e (h1.trans z)
      have b : valueAt (q :: qs) k = valueAt qs k := by simp [valueAt, List.find?_cons, e']
      rw [valV_neg e, b]; exact ih
theorem KV.any {kvs : List (κ × V)} {vs : List (κ × Value)} (r : KV kvs vs) (k : κ) : (kvs.any fun kv => decide (kv.1 = k)) = vs.any fun kv => decide (kv.1 = k) := by
  unfold KV at r
  induction r with
  | nil => rfl
  | cons h t ih => rw [List.any_cons, List.any_cons, ih, h.1]
theorem KV.repl {kvs : List (κ × V)} {vs : List (κ × Value)} (r : KV kvs vs) (k : κ) {y : V} {u : Value} (ry : RelV y u) :
    KV (kvs.map fun kv => if kv.1 = k then (kv.1, y) else kv) (vs.map fun kv => if kv.1 = k then (kv.1, u) else kv) := by
  unfold KV at r ⊢
  induction r with
  | nil => exact .nil
  | @cons p q ps qs h t ih =>
    rw [List.map_cons, List.map_cons]
    refine .cons ?_ ih
    obtain ⟨h1, h2⟩ := h
    by_cases e : p.1 = k
    · rw [if_pos e, if_pos (h1.symm.trans e)]; exact ⟨h1, ry⟩
    · rw [if_neg e, if_neg (fun z => e (h1.trans z))]; exact ⟨h1, h2⟩
theorem KV.put {kvs : List (κ × V)} {vs : List (κ × Value)} (r : KV kvs vs) (k : κ) {y : V} {u : Value} (ry : RelV y u) : KV (putK kvs k y) (stored vs k u) := by
  unfold putK stored
  rw [r.any k]
  by_cases e : (vs.any fun kv => decide (kv.1 = k)) = true
  · rw [if_pos e, if_pos e]; exact r.repl k ry
  · rw [if_neg e, if_neg e]; exact Paired.snoc r ⟨rfl, ry⟩
theorem KV.drop {kvs : List (κ × V)} {vs : List (κ × Value)} (r : KV kvs vs) (k : κ) : KV (dropK kvs k) (without vs k) := by
  unfold KV at r ⊢
  unfold dropK without
  induction r with
  | nil => exact .nil
  | @cons p q ps qs h t ih =>
    obtain ⟨h1, h2⟩ := h
    rw [List.filter_cons, List.filter_cons]
    by_cases e : p.1 = k
    · have a : ¬ decide (p.1 ≠ k) = true := by simp [e]
      have b : ¬ decide (q.1 ≠ k) = true := by simp [h1.symm.trans e]
      rw [if_neg a, if_neg b]; exact ih
    · have e' : ¬ q.1 = k := fun z => e (h1.trans z)
      have a : decide (p.1 ≠ k) = true := by simp [e]
      have b : decide (q.1 ≠ k) = true := by simp [e']
      rw [if_pos a, if_pos b]; exact .cons ⟨h1, h2⟩ ih
theorem KV.keys {kvs : List (κ × V)} {vs : List (κ × Value)} (r : KV kvs vs) : kvs.map (·.1) = vs.map (·.1) := by
  unfold KV at r
  induction r with
  | nil => rfl
  | cons h t ih => rw [List.map_cons, List.map_cons, ih, h.1]
theorem KV.length {kvs : List (κ × V)} {vs : List (κ × Value)} (r : KV kvs vs) : kvs.length = vs.length := Paired.length r
theorem dropK_le (kvs : List (κ × V)) (k : κ) : (dropK kvs k).length ≤ kvs.length := List.length_filter_le _ _
end


/-! ### a tracked dict, its keys ints and texts or tuples of these -/
theorem kV_is {P : Program} {w : World} {k : Key} {u : Value} (r : RelV (kV k) u) : (mixKind P w).is k u = true := by
  cases k with
  | inl i => obtain ⟨t, e⟩ := (show ∃ t, u = Value.int i t from r); subst e; exact mixKind_int P w i t
  | inr x => obtain ⟨t, e⟩ := (show ∃ t, u = Value.str x t from r); subst e; exact mixKind_str P w x t
theorem kV_inj {a b : Key} (e : kV a = kV b) : a = b := by
  cases a with
  | inl i => cases b with
    | inl j => have e' : V.int i = V.int j := e; injection e' with e'; rw [e']
    | inr y => exact nomatch (show V.int i = V.str y from e)
  | inr x => cases b with
    | inl j => exact nomatch (show V.str x = V.int j from e)
    | inr y => have e' : V.str x = V.str y := e; injection e' with e'; rw [e']
theorem kVs_inj : ∀ {a b : List Key}, a.map kV = b.map kV → a = b
  | [], [], _ => rfl
  | [], _ :: _, e => by simp at e
  | _ :: _, [], e => by simp at e
  | x :: xs, y :: ys, e => by
    rw [List.map_cons, List.map_cons] at e
    injection e with e1 e2
    rw [kV_inj e1, kVs_inj e2]
theorem items_are {P : Program} {w : World} : ∀ {ks : List Key} {us : List Value}, Vals (ks.map kV) us → ItemsAre (mixKind P w) ks us
  | [], _, r => by rw [List.map_nil] at r; cases r; exact .nil
  | k :: ks, _, r => by
    rw [List.map_cons] at r
    cases r with
    | cons h t => exact .cons (kV_is h) (items_are t)

/-- raw entries of a dict with tuple keys -/
abbrev KT (H : Hp) : List (List Key × V) → List (List Key × Addr × Value) → Prop := Paired fun p q => p.1 = q.1 ∧ H q.2.1 = some (.tup (p.1.map kV)) ∧ RelV p.2 q.2.2
theorem KT.val {H : Hp} {kvs : List (List Key × V)} {xs : List (List Key × Addr × Value)} (r : KT H kvs xs) (k : List Key) : RelO (valV kvs k) ((atKey xs k).map (·.2)) := by
  induction r with
  | nil => exact True.intro
  | @cons p q ps qs h t ih =>
    obtain ⟨h1, _, h2⟩ := h
    by_cases e : p.1 = k
    · have e' : q.1 = k := h1.symm.trans e
      have b : atKey (q :: qs) k = some q.2 := by simp [atKey, List.find?_cons, e']
      rw [valV_pos e, b]; exact h2
    · have e' : ¬ q.1 = k := fun z => e (h1.trans z)
      have b : atKey (q :: qs) k = atKey qs k := by simp [atKey, List.find?_cons, e']
      rw [valV_neg e, b]; exact ih
theorem KT.repl {H : Hp} {kvs : List (List Key × V)} {xs : List (List Key × Addr × Value)} (r : KT H kvs xs) (k : List Key) {y : V} {u : Value} (ry : RelV y u) :
    KT H (kvs.map fun kv => if kv.1 = k then (kv.1, y) else kv) (xs.map (putAt k u)) := by
  induction r with
  | nil => exact .nil
  | @cons p q ps qs h t ih =>
    rw [List.map_cons, List.map_cons]
    refine .cons ?_ ih
    obtain ⟨h1, h2, h3⟩ := h
    unfold putAt
    by_cases e : p.1 = k
    · rw [if_pos e, if_pos (h1.symm.trans e)]; exact ⟨h1, h2, ry⟩
    · rw [if_neg e, if_neg (fun z => e (h1.trans z))]; exact ⟨h1, h2, h3⟩
theorem KT.put {H : Hp} {kvs : List (List Key × V)} {xs : List (List Key × Addr × Value)} (r : KT H kvs xs) (k : List Key) {b : Addr} {y : V} {u : Value} (hb : H b = some (.tup (k.map kV))) (ry : RelV y u) :
    KT H (putK kvs k y) (storedH xs k b u) := by
  have e : (kvs.any fun kv => decide (kv.1 = k)) = (atKey xs k).isSome := by
    rw [valV_any, (r.val k).isSome_eq, Option.isSome_map]
  unfold putK storedH
  rw [e]
  by_cases q : (atKey xs k).isSome = true
  · rw [if_pos q, if_pos q]; exact r.repl k ry
  · rw [if_neg q, if_neg q]; exact Paired.snoc r ⟨rfl, hb, ry⟩
theorem KT.keeps {H H' : Hp} {kvs : List (List Key × V)} {xs : List (List Key × Addr × Value)} (r : KT H kvs xs) (ht : ∀ b ys, H b = some (.tup ys) → H' b = some (.tup ys)) : KT H' kvs xs :=
  Paired.mapP r fun _ _ z => ⟨z.1, ht _ _ z.2.1, z.2.2⟩

section
variable {P : Program} {w : World} {H : Hp} {h : Heap} {a : Addr}
theorem rd_of {u : HO} (ok : HOk P w H h) (e : Rd H a u) : ObjOk P w H h a u := e.ok ok
theorem dk_rd {kvs : List (Key × V)} (ok : HOk P w H h) (e : Rd H a (.dK kvs)) : kvs.length ≤ sizeLine ∧ (a == sysModules) = false ∧ ∃ vs, KV kvs vs ∧ h.DictOf (mixKind P w) a vs :=
  show ObjOk P w H h a (.dK kvs) from rd_of ok e
theorem dk_of {kvs : List (Key × V)} (ok : HOk P w H h) (e : H a = some (.dK kvs)) : kvs.length ≤ sizeLine ∧ (a == sysModules) = false ∧ ∃ vs, KV kvs vs ∧ h.DictOf (mixKind P w) a vs := dk_rd ok (.inl e)
/-- a tracked tuple of ints and texts is a key -/
theorem key_of {ks : List Key} (ok : HOk P w H h) (e : H a = some (.tup (ks.map kV))) : (tupleKind (mixKind P w)).is h ks a := by
  obtain ⟨_, its, r, o, h1, h2, n, h3⟩ := (show ObjOk P w H h a (.tup (ks.map kV)) from ok a _ e)
  exact ⟨o, its.toArray, n, h1, h2, h3, by simpa using items_are r⟩
theorem dt_rd {kvs : List (List Key × V)} (ok : HOk P w H h) (e : Rd H a (.dT kvs)) : kvs.length ≤ sizeLine ∧ (a == sysModules) = false ∧
    ∃ xs, KT H kvs xs ∧ h.DictOfH (tupleKind (mixKind P w)) a xs := by
  obtain ⟨z, y, xs, r, o, es, ep, h1, h2, h3, h4, h5⟩ := (show ObjOk P w H h a (.dT kvs) from rd_of ok e)
  refine ⟨z, y, xs, r, o, es, ep, h1, h2, h3, h4, fun x hx => ?_, h5⟩
  have all : ∀ {l : List (List Key × V)} {m : List (List Key × Addr × Value)}, KT H l m → ∀ x ∈ m, (tupleKind (mixKind P w)).is h x.1 x.2.1 := by
    intro l m q
    induction q with
    | nil => intro x hx; exact nomatch hx
    | @cons p q ps qs hq t ih =>
      intro x hx
      rcases List.mem_cons.mp hx with e | hx
      · subst e
        exact key_of ok (by rw [← hq.1]; exact hq.2.1)
      · exact ih x hx
  exact all r x hx
theorem dt_of {kvs : List (List Key × V)} (ok : HOk P w H h) (e : H a = some (.dT kvs)) : kvs.length ≤ sizeLine ∧ (a == sysModules) = false ∧
    ∃ xs, KT H kvs xs ∧ h.DictOfH (tupleKind (mixKind P w)) a xs := dt_rd ok (.inl e)
end

/-- what the dict at a holds at the key y -/
def DGet (H : Hp) (a : Addr) (y : V) (r : Option V) : Prop :=
  (∃ kvs k, Rd H a (.dK kvs) ∧ y = kV k ∧ r = valV kvs k) ∨ ∃ kvs k b, Rd H a (.dT kvs) ∧ y = .ref b ∧ H b = some (.tup (k.map kV)) ∧ r = valV kvs k
/-- the heap behind a[y] = v -/
def DPut (H : Hp) (a : Addr) (y v : V) (H' : Hp) : Prop :=
  (∃ kvs k, H a = some (.dK kvs) ∧ y = kV k ∧ kvs.length < sizeLine ∧ H' = upd H a (.dK (putK kvs k v))) ∨
  ∃ kvs k b, H a = some (.dT kvs) ∧ y = .ref b ∧ H b = some (.tup (k.map kV)) ∧ kvs.length < sizeLine ∧ H' = upd H a (.dT (putK kvs k v))
theorem DGet.k {H : Hp} {a : Addr} {kvs : List (Key × V)} {k : Key} (e : H a = some (.dK kvs)) : DGet H a (kV k) (valV kvs k) := .inl ⟨kvs, k, .inl e, rfl, rfl⟩
theorem DGet.t {H : Hp} {a b : Addr} {kvs : List (List Key × V)} {k : List Key} (e : H a = some (.dT kvs)) (eb : H b = some (.tup (k.map kV))) : DGet H a (.ref b) (valV kvs k) := .inr ⟨kvs, k, b, .inl e, rfl, eb, rfl⟩
theorem DPut.k {H : Hp} {a : Addr} {kvs : List (Key × V)} {k : Key} {v : V} (e : H a = some (.dK kvs)) (hl : kvs.length < sizeLine) : DPut H a (kV k) v (upd H a (.dK (putK kvs k v))) := .inl ⟨kvs, k, e, rfl, hl, rfl⟩
theorem DPut.t {H : Hp} {a b : Addr} {kvs : List (List Key × V)} {k : List Key} {v : V} (e : H a = some (.dT kvs)) (eb : H b = some (.tup (k.map kV))) (hl : kvs.length < sizeLine) :
    DPut H a (.ref b) v (upd H a (.dT (putK kvs k v))) := .inr ⟨kvs, k, b, e, rfl, eb, hl, rfl⟩


section
variable {X : Cx} {pins : List (Addr × Obj)} {σ : St} {H : Hp} {s : Shared} {a : Addr} {y v : V} {u r : Value} {o : Option V} {A : Around} {E : Value → Shared → Prop}

theorem Inv.big (I : Inv X pins σ H s) : sysModules < s.heap.objs.size := by
  have h : mainGlobals < s.heap.objs.size := (I.mod.glob.keeps I.bk).lt
  exact Nat.lt_trans (by decide) h

/-- d[y], there -/
theorem d_getItem {Q : Value → Shared → Prop} (hu : A.units + 1 < cLine) (I : Inv X pins σ H s) (g : DGet H a y (some v)) (ry : RelV y u) (h : ∀ w' s', Inv X pins σ H s' → RelV v w' → Q w' s') :
    wpAny (model X.prog X.w) A (getItem (.ref a) u) Q E s := by
  rcases g with ⟨kvs, k, e, ey, l⟩ | ⟨kvs, k, b, e, ey, eb, l⟩
  · subst ey
    obtain ⟨z, hd, vs, rel, dd⟩ := dk_rd I.hok e
    obtain ⟨w', hw, rw'⟩ := RelO.some_of (v := v) (o := valueAt vs k) (by rw [l]; exact rel.val k)
    exact wpAny_getItem_of (kV_is ry) dd.mapOf hw (h w' _ (I.tok _) rw')
  · subst ey
    cases (show u = Value.ref b from ry)
    obtain ⟨z, hd, xs, rel, dd⟩ := dt_rd I.hok e
    obtain ⟨w', hw, rw'⟩ := RelO.some_of (v := v) (o := (atKey xs k).map (·.2)) (by rw [l]; exact rel.val k)
    obtain ⟨p, hp, hp2⟩ := Option.map_eq_some_iff.mp hw
    refine wpAny_getItem_heap (tupleKind_room_in1 hu) (key_of I.hok eb) dd hp ?_
    rw [hp2]
    exact h w' _ (I.tok _) rw'
/-- y in d -/
theorem d_in {Q : Value → Shared → Prop} (hu : A.units + 1 < cLine) (I : Inv X pins σ H s) (g : DGet H a y o) (ry : RelV y u) (h : ∀ s', Inv X pins σ H s' → Q (.bool o.isSome) s') :
    wpAny (model X.prog X.w) A (compareOp .In u (.ref a)) Q E s := by
  rcases g with ⟨kvs, k, e, ey, l⟩ | ⟨kvs, k, b, e, ey, eb, l⟩
  · subst ey
    obtain ⟨z, hd, vs, rel, dd⟩ := dk_rd I.hok e
    refine wpAny_in_of (kV_is ry) hd dd.mapOf ?_
    rw [← (rel.val k).isSome_eq, ← l]
    exact h _ (I.tok _)
  · subst ey
    cases (show u = Value.ref b from ry)
    obtain ⟨z, hd, xs, rel, dd⟩ := dt_rd I.hok e
    refine wpAny_in_heap (tupleKind_room_in1 hu) (key_of I.hok eb) hd dd ?_
    have q := (rel.val k).isSome_eq
    rw [Option.isSome_map] at q
    rw [← q, ← l]
    exact h _ (I.tok _)
theorem d_notIn {Q : Value → Shared → Prop} (hu : A.units + 1 < cLine) (I : Inv X pins σ H s) (g : DGet H a y o) (ry : RelV y u) (h : ∀ s', Inv X pins σ H s' → Q (.bool (!o.isSome)) s') :
    wpAny (model X.prog X.w) A (compareOp .NotIn u (.ref a)) Q E s := by
  rcases g with ⟨kvs, k, e, ey, l⟩ | ⟨kvs, k, b, e, ey, eb, l⟩
  · subst ey
    obtain ⟨z, hd, vs, rel, dd⟩ := dk_rd I.hok e
    refine wpAny_notIn_of (kV_is ry) hd dd.mapOf ?_
    rw [← (rel.val k).isSome_eq, ← l]
    exact h _ (I.tok _)
  · subst ey
    cases (show u = Value.ref b from ry)
    obtain ⟨z, hd, xs, rel, dd⟩ := dt_rd I.hok e
    refine wpAny_notIn_heap (tupleKind_room_in1 hu) (key_of I.hok eb) hd dd ?_
    have q := (rel.val k).isSome_eq
    rw [Option.isSome_map] at q
    rw [← q, ← l]
    exact h _ (I.tok _)
/-- a dict's object is replaced -/
theorem d_write {h' : Heap} {t' : Nat} {ob : HO} (I : Inv X pins σ H s) (mu : Mut (H a)) (hs : Heap.SameBut a s.heap h') (he : ∃ q, h'.get? a = some q) (new : ObjOk X.prog X.w (upd H a ob) h' a ob) :
    Inv X pins σ (upd H a ob) { s with heap := h', toks := t' } :=
  I.write (x := a) (e := a) mu (.inl rfl) (fun b q hb z => (hs.2 b hb).trans z) he new
theorem dk_new {P : Program} {w : World} {H' : Hp} {h' : Heap} {kvs : List (Key × V)} {vs : List (Key × Value)} (z : kvs.length ≤ sizeLine) (hd : (a == sysModules) = false) (rel : KV kvs vs) (dd : h'.DictOf (mixKind P w) a vs) :
    ObjOk P w H' h' a (.dK kvs) := ⟨z, hd, vs, rel, dd⟩
/-- d[y] = v -/
theorem d_setItem {H' : Hp} {Q : Unit → Shared → Prop} (hu : A.units + 1 < cLine) (I : Inv X pins σ H s) (g : DPut H a y v H') (ry : RelV y u) (rv : RelV v r) (h : ∀ s', Inv X pins σ H' s' → Q () s') :
    wpAny (model X.prog X.w) A (setItem (.ref a) u r) Q E s := by
  rcases g with ⟨kvs, k, e, ey, l, eH⟩ | ⟨kvs, k, b, e, ey, eb, l, eH⟩
  · subst ey eH
    obtain ⟨z, hd, vs, rel, dd⟩ := dk_of I.hok e
    have hz : vs.length ≤ sizeLine := by rw [← rel.length]; exact z
    have hl : (putK kvs k v).length ≤ sizeLine := by have := length_putK kvs k v; omega
    refine wpAny_setItem_pairs (hsz := hz) (kV_is ry) dd fun h' dd' hs => h _ ?_
    have he : ∃ q, h'.get? a = some q := let ⟨q, _, _, hq, _⟩ := dd'; ⟨q, hq⟩
    exact d_write I (by rw [e]; exact True.intro) hs he (dk_new hl hd (rel.put k rv) dd')
  · subst ey eH
    cases (show u = Value.ref b from ry)
    obtain ⟨z, hd, xs, rel, dd⟩ := dt_of I.hok e
    have hz : xs.length ≤ sizeLine := by rw [← Paired.length rel]; exact z
    have hl : (putK kvs k v).length ≤ sizeLine := by have := length_putK kvs k v; omega
    refine wpAny_setItem_heap (hsz := hz) (tupleKind_room_in1 hu) (key_of I.hok eb) dd fun h' dd' hs => h _ ?_
    obtain ⟨q, es, ep, hq, h2, h3, h4, _, h5⟩ := dd'
    refine d_write I (by rw [e]; exact True.intro) hs ⟨q, hq⟩ ⟨hl, hd, _, (rel.put k eb rv).keeps fun c ys ec => ?_, q, es, ep, hq, h2, h3, h4, h5⟩
    rw [upd_ne (ne_of ec e (fun z => nomatch z))]
    exact ec
end

section
variable {X : Cx} {pins : List (Addr × Obj)} {σ : St} {H : Hp} {s : Shared} {a : Addr} {kvs : List (Key × V)} {k : Key} {u : Value} {A : Around} {E : Value → Shared → Prop}
/-- del d[k] -/
theorem d_delItem {Q : Unit → Shared → Prop} (I : Inv X pins σ H s) (e : H a = some (.dK kvs)) (ry : RelV (kV k) u) (l : (valV kvs k).isSome = true) (h : ∀ s', Inv X pins σ (upd H a (.dK (dropK kvs k))) s' → Q () s') :
    wpAny (model X.prog X.w) A (delItem (.ref a) u) Q E s := by
  obtain ⟨z, hd, vs, rel, dd⟩ := dk_of I.hok e
  refine wpAny_delItem_slot dd.typeIs (by decide) PySem.F.slot_dict_delitem
    (call_meetsIn PySem.F.slot_dict_delitem dd.typeIs PySem.F.entry_dict_delitem (PySem.F.args_dict_delitem_2 _ _) (meets_dict_delitem_pairs (mixKind X.prog X.w) a (kV_is ry)) ⟨vs, dd, by rw [← rel.length]; exact z, by rw [← (rel.val k).isSome_eq]; exact l, fun h' dd' hs => h _ ?_⟩)
  have he : ∃ q, h'.get? a = some q := let ⟨q, _, _, hq, _⟩ := dd'; ⟨q, hq⟩
  exact d_write I (by rw [e]; exact True.intro) hs he (dk_new (Nat.le_trans (dropK_le kvs k) z) hd (rel.drop k) dd')
/-- d.pop(k[, x]), there -/
theorem d_pop {v : V} {more : List Value} {Q : Value → Shared → Prop} (I : Inv X pins σ H s) (e : H a = some (.dK kvs)) (ry : RelV (kV k) u) (l : valV kvs k = some v) (hm : more = [] ∨ ∃ x, more = [x])
    (h : ∀ w' s', Inv X pins σ (upd H a (.dK (dropK kvs k))) s' → RelV v w' → Q w' s') : wpAny (model X.prog X.w) A (call (.builtin "dict.pop") (.ref a :: u :: more)) Q E s := by
  obtain ⟨z, hd, vs, rel, dd⟩ := dk_of I.hok e
  obtain ⟨w', hw, rw'⟩ := RelO.some_of (v := v) (o := valueAt vs k) (by rw [← l]; exact rel.val k)
  have hp : (keyPart u).isSome = true := by
    cases k with
    | inl i => obtain ⟨t, q⟩ := (show ∃ t, u = Value.int i t from ry); subst q; rfl
    | inr x => obtain ⟨t, q⟩ := (show ∃ t, u = Value.str x t from ry); subst q; rfl
  have ha : argsOk "dict.pop" ⟨.ref a :: u :: more, []⟩ := by
    rcases hm with q | ⟨x, q⟩
    · subst q; exact PySem.F.args_dict_pop_2 _ _
    · subst q; exact PySem.F.args_dict_pop_3 _ _ _
  refine call_meetsIn PySem.F.slot_dict_pop dd.typeIs PySem.F.entry_dict_pop ha (meets_dict_pop_there (mixKind X.prog X.w) a (kV_is ry) more hm hp)
    ⟨vs, w', dd, by rw [← rel.length]; exact z, hw, fun h' dd' hs => h w' _ ?_ rw'⟩
  have he : ∃ q, h'.get? a = some q := let ⟨q, _, _, hq, _⟩ := dd'; ⟨q, hq⟩
  exact d_write I (by rw [e]; exact True.intro) hs he (dk_new (Nat.le_trans (dropK_le kvs k) z) hd (rel.drop k) dd')
/-- d.pop(k, x), not there -/
theorem d_popD {r : Value} {Q : Value → Shared → Prop} (I : Inv X pins σ H s) (e : H a = some (.dK kvs)) (ry : RelV (kV k) u) (l : valV kvs k = none) (h : ∀ s', Inv X pins σ H s' → Q r s') :
    wpAny (model X.prog X.w) A (call (.builtin "dict.pop") [.ref a, u, r]) Q E s := by
  obtain ⟨z, hd, vs, rel, dd⟩ := dk_of I.hok e
  have hn : valueAt vs k = none := RelO.none_of (by rw [← l]; exact rel.val k)
  have hp : (keyPart u).isSome = true := by
    cases k with
    | inl i => obtain ⟨t, q⟩ := (show ∃ t, u = Value.int i t from ry); subst q; rfl
    | inr x => obtain ⟨t, q⟩ := (show ∃ t, u = Value.str x t from ry); subst q; rfl
  exact call_meetsIn PySem.F.slot_dict_pop dd.typeIs PySem.F.entry_dict_pop (PySem.F.args_dict_pop_3 _ _ _) (meets_dict_pop_default (mixKind X.prog X.w) a (kV_is ry) hd hp r) ⟨vs, dd, hn, h _ (I.tok _)⟩
/-- d.clear() -/
theorem d_clear {Q : Value → Shared → Prop} (I : Inv X pins σ H s) (e : H a = some (.dK kvs)) (h : ∀ s', Inv X pins σ (upd H a (.dK [])) s' → Q .none s') : wpAny (model X.prog X.w) A (call (.builtin "dict.clear") [.ref a]) Q E s := by
  obtain ⟨z, hd, vs, rel, dd⟩ := dk_of I.hok e
  refine call_meetsIn PySem.F.slot_dict_clear dd.typeIs PySem.F.entry_dict_clear (PySem.F.args_dict_clear_1 _) (meets_dict_clear (mixKind X.prog X.w) a) ⟨vs, dd, by rw [← rel.length]; exact z, fun h' dd' hs => h _ ?_⟩
  have he : ∃ q, h'.get? a = some q := let ⟨q, _, _, hq, _⟩ := dd'; ⟨q, hq⟩
  exact d_write (t' := s.toks) I (by rw [e]; exact True.intro) hs he (dk_new (Nat.zero_le _) hd .nil dd')
/-- len(d) -/
theorem d_len {Q : Value → Shared → Prop} (I : Inv X pins σ H s) (e : Rd H a (.dK kvs)) (h : ∀ t s', Inv X pins σ H s' → Q (.int kvs.length t) s') : wpAny (model X.prog X.w) A (call (.builtin "len") [.ref a]) Q E s := by
  obtain ⟨z, hd, vs, rel, dd⟩ := dk_rd I.hok e
  refine call_len_dict hd dd (by rw [← rel.length]; rw [sizeLine_eq] at z; omega) ?_
  rw [← rel.length]
  exact h _ _ (I.tok _)
/-- if d -/
theorem d_truth {Q : Bool → Shared → Prop} (I : Inv X pins σ H s) (e : Rd H a (.dK kvs)) (h : ∀ s', Inv X pins σ H s' → Q (!kvs.isEmpty) s') : wpAny (model X.prog X.w) A (truthy (.ref a)) Q E s := by
  obtain ⟨z, hd, vs, rel, dd⟩ := dk_rd I.hok e
  refine wpAny_truthy_dict hd dd (by rw [← rel.length]; rw [sizeLine_eq] at z; omega) ?_
  have q : kvs.isEmpty = vs.isEmpty := by cases rel <;> rfl
  rw [← q]
  exact h _ (I.tok _)
end


/-! ### readings and rules -/
/-- the element of a subscription, not a slice -/
def NoSl (i : Expr) : Prop := ∀ ov iv, subscripted i false ov iv = operate [ov, iv] (getItem ov iv)
theorem subD_of {prog : Program} {w : World} {A : Around} {E : Value → Shared → Prop} {s : Shared} {env : Env} {value slice : Expr} {pos : Pos} {T id : String} {Q : Value → Shared → Prop}
    (hl : typeLookup (.type T) "__getitem__" = pure (some (.builtin id))) (hs : NoSl slice)
    (h : wpAny (model prog w) A (eval value env) (fun o s₁ => wpAny (model prog w) A (eval slice env) (fun i s₂ => s₂.TypeIs o T ∧ wpAny (model prog w) A (getItem o i) Q E s₂) E s₁) E s) :
    wpAny (model prog w) A (eval (.Subscript value slice pos) env) Q E s := by
  refine Subscript_ (wpAny_mono h (fun o s₁ h₁ => wpAny_mono h₁ (fun i s₂ h₂ => ?_) fun _ _ x => x) fun _ _ x => x)
  obtain ⟨hT, h₂⟩ := h₂
  unfold subscriptTail
  refine wpAny_bind ?_
  rw [getitemInPython_of_ne hT.not_modules]
  refine wpAny_bind (wpAny_specialOf hT hl ?_)
  have fin : wpAny (model prog w) A (subscripted slice false o i) (fun r s₃ => wpAny (model prog w) A (letTemporaryGo value o r >>= fun _ => pure r) Q E s₃) E s₂ := by
    rw [hs o i]
    exact wpAny_operating (wpAny_mono h₂ (fun r s₃ h₃ => wpAny_bind (wpAny_letTemporaryGo (wpAny_pure h₃))) fun _ _ x => x)
  first
    | exact wpAny_pure (wpAny_bind fin)
    | exact wpAny_bind (wpAny_pure (wpAny_bind fin))
    | exact wpAny_bind fin

theorem dict_typeIs {X : Cx} {pins : List (Addr × Obj)} {σ : St} {H : Hp} {s : Shared} {a : Addr} {y : V} {o : Option V} (I : Inv X pins σ H s) (g : DGet H a y o) : s.TypeIs (.ref a) "dict" := by
  rcases g with ⟨kvs, k, e, _, _⟩ | ⟨kvs, k, b, e, _, _, _⟩
  · obtain ⟨_, _, vs, _, dd⟩ := dk_rd I.hok e
    exact dd.typeIs
  · obtain ⟨_, _, xs, _, dd⟩ := dt_rd I.hok e
    exact dd.typeIs
theorem dict_noDict {X : Cx} {pins : List (Addr × Obj)} {σ : St} {H : Hp} {s : Shared} {a : Addr} {y : V} {o : Option V} (I : Inv X pins σ H s) (g : DGet H a y o) :
    ∀ b, Value.ref a = .ref b → ∃ ob, s.heap.get? b = some ob ∧ ob.dict = none := fun b q => by
  cases q
  rcases g with ⟨kvs, k, e, _, _⟩ | ⟨kvs, k, b, e, _, _, _⟩
  · obtain ⟨_, _, vs, _, ob, _, _, h1, h2, _⟩ := dk_rd I.hok e
    exact ⟨ob, h1, h2.2.1⟩
  · obtain ⟨_, _, xs, _, ob, _, _, h1, h2, _⟩ := dt_rd I.hok e
    exact ⟨ob, h1, h2.2.1⟩

/-- d[y] -/
def tDGet (td ty : TE) : TE := fun σ H Q => td σ H fun x H1 => ty σ H1 fun y H2 => ∃ a v, x = .ref a ∧ DGet H2 a y (some v) ∧ Q v H2
/-- y in d, y not in d -/
def tDIn (ty td : TE) : TE := fun σ H Q => ty σ H fun y H1 => td σ H1 fun x H2 => ∃ a o, x = .ref a ∧ DGet H2 a y o ∧ Q (.bl o.isSome) H2
def tDNotIn (ty td : TE) : TE := fun σ H Q => ty σ H fun y H1 => td σ H1 fun x H2 => ∃ a o, x = .ref a ∧ DGet H2 a y o ∧ Q (.bl (!o.isSome)) H2
/-- d[y] = v -/
def sDPut (td ty tv : TE) : TS := fun D σ H => tv σ H fun v H1 => td σ H1 fun x H2 => ty σ H2 fun y H3 => ∃ a H4, x = .ref a ∧ DPut H3 a y v H4 ∧ D.nx σ H4
/-- d[y] op= v -/
def sDAug (td ty tv : TE) (rd : V → V → Hp → VK → Prop) : TS := fun D σ H => td σ H fun x H1 => ty σ H1 fun y H2 => ∃ a v, x = .ref a ∧ DGet H2 a y (some v) ∧
  tv σ H2 fun y2 H3 => rd v y2 H3 fun z H4 => ∃ H5, DPut H4 a y z H5 ∧ D.nx σ H5
/-- del d[y] -/
def sDDel (td ty : TE) : TS := fun D σ H => td σ H fun x H1 => ty σ H1 fun y H2 => ∃ a kvs k, x = .ref a ∧ H2 a = some (.dK kvs) ∧ y = kV k ∧ (valV kvs k).isSome = true ∧ D.nx σ (upd H2 a (.dK (dropK kvs k)))

section
variable {X : Cx} {o i e value : Expr} {pos pos' tpos : Pos} {td ty tv : TE}
theorem pe_dget (hu : X.A.units + 1 < cLine) (ho : PE X o td) (hi : PE X i ty) (hs : NoSl i) : PE X (.Subscript o i pos) (tDGet td ty) := by
  intro pins s σ H Q I h
  refine subD_of PySem.F.slot_dict_getitem.lookup hs (thn (ho pins s σ H _ I h) fun u s1 ⟨x, H1, I1, rx, q1⟩ => thn (hi pins s1 σ H1 _ I1 q1) fun iv s2 ⟨y, H2, I2, ry, a, v, ex, g, q2⟩ => ?_)
  subst ex
  obtain rfl : u = Value.ref a := rx
  exact ⟨dict_typeIs I2 g, d_getItem hu I2 g ry fun w' s3 I3 rw' => ⟨v, H2, I3, rw', q2⟩⟩
theorem pc_din (hu : X.A.units + 1 < cLine) (hi : PE X i ty) (ho : PE X o td) : PC X .In i o (tDIn ty td) := by
  intro pins s σ H Q I h
  refine thn (hi pins s σ H _ I h) fun iv s1 ⟨y, H1, I1, ry, q1⟩ => thn (ho pins s1 σ H1 _ I1 q1) fun u s2 ⟨x, H2, I2, rx, a, ov, ex, g, q2⟩ => ?_
  subst ex
  obtain rfl : u = Value.ref a := rx
  exact d_in hu I2 g ry fun s3 I3 => ⟨.bl ov.isSome, H2, I3, rfl, q2⟩
theorem pc_dnotin (hu : X.A.units + 1 < cLine) (hi : PE X i ty) (ho : PE X o td) : PC X .NotIn i o (tDNotIn ty td) := by
  intro pins s σ H Q I h
  refine thn (hi pins s σ H _ I h) fun iv s1 ⟨y, H1, I1, ry, q1⟩ => thn (ho pins s1 σ H1 _ I1 q1) fun u s2 ⟨x, H2, I2, rx, a, ov, ex, g, q2⟩ => ?_
  subst ex
  obtain rfl : u = Value.ref a := rx
  exact d_notIn hu I2 g ry fun s3 I3 => ⟨.bl (!ov.isSome), H2, I3, rfl, q2⟩
theorem ps_dput (hu : X.A.units + 1 < cLine) (ho : PE X o td) (hi : PE X i ty) (hv : PE X value tv) (hs : swapsWith value (some (.Subscript o i pos')) pos.line X.env = pure false) :
    PS X (.Assign [.Subscript o i pos'] value pos) (sDPut td ty tv) := by
  intro pins s σ H D I h
  refine wpAny_Assign_Subscript (thn (hv pins s σ H _ I h) fun r s1 ⟨v, H1, I1, rv, q1⟩ => thn (ho pins s1 σ H1 _ I1 q1) fun u s2 ⟨x, H2, I2, rx, q2⟩ => thn (hi pins s2 σ H2 _ I2 q2) fun iv s3 ⟨y, H3, I3, ry, a, H4, ex, g, q3⟩ => ?_) hs
  subst ex
  obtain rfl : u = Value.ref a := rx
  exact d_setItem hu I3 g ry rv fun s4 I4 => ⟨σ, H4, I4, q3⟩
theorem ps_daug {op : Operator} {rd : V → V → Hp → VK → Prop} (hu : X.A.units + 1 < cLine) (ho : PE X o td) (hi : PE X i ty) (hv : PE X value tv) (hop : InOp X op rd)
    (ha : ∀ ov iv new, augStore i ov iv new = (do holding [new, ov, iv] (setItem ov iv new); release [new, ov, iv] []; pure .next)) : PS X (.AugAssign (.Subscript o i tpos) op value pos) (sDAug td ty tv rd) := by
  intro pins s σ H D I h
  refine wpAny_AugAssign_SubscriptAny (thn (ho pins s σ H _ I h) fun u s1 ⟨x, H1, I1, rx, q1⟩ => thn (hi pins s1 σ H1 _ I1 q1) fun iv s2 ⟨y, H2, I2, ry, a, v, ex, g, q2⟩ => ?_) ha
  subst ex
  obtain rfl : u = Value.ref a := rx
  refine d_getItem hu I2 g ry fun w' s3 I3 rw' => thn (hv pins s3 σ H2 _ I3 q2) fun w2 s4 ⟨y2, H3, I4, ry2, q3⟩ => thn (hop pins s4 σ H3 v y2 w' w2 _ I4 rw' ry2 q3) fun w3 s5 ⟨z, H4, I5, rz, H5, g5, q4⟩ => ?_
  exact d_setItem hu I5 g5 ry rz fun s6 I6 => ⟨σ, H5, I6, q4⟩
theorem ps_ddel (ho : PE X o td) (hi : PE X i ty) : PS X (.Delete [.Subscript o i tpos] pos) (sDDel td ty) := by
  intro pins s σ H D I h
  refine wpAny_Delete (wpAny_deleteEach_cons (wpAny_delete_Subscript (thn (ho pins s σ H _ I h) fun u s1 ⟨x, H1, I1, rx, q1⟩ => thn (hi pins s1 σ H1 _ I1 q1) fun iv s2 ⟨y, H2, I2, ry, a, kvs, k, ex, e, ey, l, q2⟩ => ?_)))
  subst ex ey
  obtain rfl : u = Value.ref a := rx
  exact d_delItem I2 e ry l fun s3 I3 => wpAny_deleteEach_nil ⟨σ, _, I3, q2⟩
end


/-! ### displays -/
theorem dk_empty {P : Program} {w : World} {H : Hp} (h : Heap) (hb : sysModules < h.objs.size) : ObjOk P w H (h.push { cls := .type "dict", data := .dict #[] }) h.objs.size (.dK []) :=
  ⟨Nat.zero_le _, beq_eq_false_iff_ne.mpr (Ne.symm (Nat.ne_of_lt hb)), [], .nil, Heap.DictOf.new h⟩
theorem dt_empty {P : Program} {w : World} {H : Hp} (h : Heap) (hb : sysModules < h.objs.size) : ObjOk P w H (h.push { cls := .type "dict", data := .dict #[] }) h.objs.size (.dT []) :=
  ⟨Nat.zero_le _, beq_eq_false_iff_ne.mpr (Ne.symm (Nat.ne_of_lt hb)), [], .nil, _, #[], 0, Heap.get?_push_size _ rfl, ⟨rfl, rfl, rfl⟩, rfl, rfl, List.nodup_nil⟩
/-- {}, to be a dict of the kind that is wanted -/
def tDNewK : TE := fun _ H Q => ∀ p, H p = none → Q (.ref p) (upd H p (.dK []))
def tDNewT : TE := fun _ H Q => ∀ p, H p = none → Q (.ref p) (upd H p (.dT []))
section
variable {X : Cx} {pos : Pos}
theorem pe_dnewK : PE X (.Dict [] [] pos) tDNewK := fun pins s σ H Q I h =>
  wpAny_Dict_empty ⟨.ref s.heap.objs.size, _, I.laid (a := s.heap.objs.size) (o := .dK []) (t' := s.toks) (fun _ _ q => Heap.get?_push_of_some _ q) (Nat.le_refl _) (dk_empty s.heap I.big), rfl, h _ (I.hok.fresh (Nat.le_refl _))⟩
theorem pe_dnewT : PE X (.Dict [] [] pos) tDNewT := fun pins s σ H Q I h =>
  wpAny_Dict_empty ⟨.ref s.heap.objs.size, _, I.laid (a := s.heap.objs.size) (o := .dT []) (t' := s.toks) (fun _ _ q => Heap.get?_push_of_some _ q) (Nat.le_refl _) (dt_empty s.heap I.big), rfl, h _ (I.hok.fresh (Nat.le_refl _))⟩
end

/-- the pairs of a display, from the left -/
def tPairs : List (TE × TE) → St → Hp → (List (V × V) → Hp → Prop) → Prop
  | [], _, H, Q => Q [] H
  | (tk, tv) :: r, σ, H, Q => tk σ H fun x H1 => tv σ H1 fun y H2 => tPairs r σ H2 fun ps H3 => Q ((x, y) :: ps) H3
abbrev VV : List (V × V) → List (Value × Value) → Prop := Paired fun p q => RelV p.1 q.1 ∧ RelV p.2 q.2
def PPs (X : Cx) (pos : Pos) (keys : List (Option Expr)) (values : List Expr) (trs : List (TE × TE)) : Prop :=
  ∀ (pins : List (Addr × Obj)) (s : Shared) (σ : St) (H : Hp) (Q : List (V × V) → Hp → Prop), Inv X pins σ H s → tPairs trs σ H Q →
    wpAny (model X.prog X.w) X.A (evalPairs (pairTrees keys values X.env pos)) (fun vs s' => ∃ ps H', Inv X pins σ H' s' ∧ VV ps vs ∧ Q ps H') X.xe s
theorem pps_nil {X : Cx} {pos : Pos} : PPs X pos [] [] [] := fun pins s σ H Q I h => pairTrees_nil_walk ⟨[], H, I, .nil, h⟩
theorem pps_cons {X : Cx} {pos : Pos} {k v : Expr} {ks : List (Option Expr)} {vs : List Expr} {tk tv : TE} {trs : List (TE × TE)} (hk : PE X k tk) (hv : PE X v tv) (hr : PPs X pos ks vs trs) :
    PPs X pos (some k :: ks) (v :: vs) ((tk, tv) :: trs) := fun pins s σ H Q I h =>
  pairTrees_cons_walk (thn (hk pins s σ H _ I h) fun u s1 ⟨x, H1, I1, rx, q1⟩ => thn (hv pins s1 σ H1 _ I1 q1) fun w2 s2 ⟨y, H2, I2, ry, q2⟩ =>
    thn (hr pins s2 σ H2 _ I2 q2) fun ws s3 ⟨ps, H3, I3, rel, q3⟩ => ⟨(x, y) :: ps, H3, I3, .cons ⟨rx, ry⟩ rel, q3⟩)

def mergeK (kvs more : List (Key × V)) : List (Key × V) := more.foldl (fun acc kv => putK acc kv.1 kv.2) kvs
theorem KV.merge : ∀ {more : List (Key × V)} {rs : List (Key × Value)} {kvs : List (Key × V)} {vs : List (Key × Value)}, KV more rs → KV kvs vs → KV (mergeK kvs more) (merged vs rs) := by
  intro more rs kvs vs r
  unfold KV at r
  induction r generalizing kvs vs with
  | nil => intro q; exact q
  | @cons p q ps qs h t ih =>
    intro r0
    have e : KV (putK kvs p.1 p.2) (stored vs q.1 q.2) := by
      have := r0.put p.1 h.2
      rw [← h.1]; exact this
    exact ih e
theorem length_mergeK : ∀ (more kvs : List (Key × V)), (mergeK kvs more).length ≤ kvs.length + more.length
  | [], kvs => by show kvs.length ≤ kvs.length + 0; omega
  | p :: r, kvs => by
    have h1 := length_mergeK r (putK kvs p.1 p.2)
    have h2 := length_putK kvs p.1 p.2
    show (mergeK (putK kvs p.1 p.2) r).length ≤ _
    rw [List.length_cons]; omega
theorem carries_of {P : Program} {w : World} : ∀ {kvs : List (Key × V)} {ws : List (Value × Value)}, VV (kvs.map fun kv => (kV kv.1, kv.2)) ws → ∃ rs, Carries (mixKind P w) ws rs ∧ KV kvs rs
  | [], _, r => by rw [List.map_nil] at r; cases r; exact ⟨[], True.intro, .nil⟩
  | p :: kvs, _, r => by
    rw [List.map_cons] at r
    cases r with
    | @cons a b as bs h t =>
      obtain ⟨rs, c, q⟩ := carries_of (P := P) (w := w) t
      obtain ⟨b1, b2⟩ := b
      exact ⟨(p.1, b2) :: rs, ⟨kV_is h.1, rfl, c⟩, .cons ⟨rfl, h.2⟩ q⟩
/-- {k: v, ..} with keys ints and texts; the new dict stands empty while the pairs are made -/
def tDisp (trs : List (TE × TE)) : TE := fun σ H Q => ∀ p, H p = none → tPairs trs σ (upd H p (.dK [])) fun ps H2 => H2 p = some (.dK []) ∧ ∃ kvs : List (Key × V), ps = kvs.map (fun kv => (kV kv.1, kv.2)) ∧ kvs.length ≤ 15 ∧ Q (.ref p) (upd H2 p (.dK (mergeK [] kvs)))
theorem pe_disp {X : Cx} {pos : Pos} {keys : List (Option Expr)} {values : List Expr} {trs : List (TE × TE)} (h : PPs X pos keys values trs) (hall : keys.all (·.isSome) = true) (hl : keys.length = values.length) (h0 : keys ≠ [])
    (h15 : keys.length ≤ 15) : PE X (.Dict keys values pos) (tDisp trs) := by
  intro pins s σ H Q I q
  have hn := I.hok.fresh (Nat.le_refl s.heap.objs.size)
  have I1 := I.laid (a := s.heap.objs.size) (o := .dK []) (h' := s.heap.push { cls := .type "dict", data := .dict #[] }) (t' := s.toks) (fun _ _ q => Heap.get?_push_of_some _ q) (Nat.le_refl _) (dk_empty s.heap I.big)
  refine wpAny_Dict_walk (knd := mixKind X.prog X.w) hall hl h0 h15 (thn (h pins _ σ _ _ I1 (q _ hn)) fun ws s2 ⟨ps, H2, I2, rel, e, kvs, ep, lk, q2⟩ => ?_)
  subst ep
  obtain ⟨rs, c, rk⟩ := carries_of (P := X.prog) (w := X.w) rel
  obtain ⟨z, hd, vs0, r0, dd⟩ := dk_of I2.hok e
  cases r0
  refine ⟨rs, c, dd, fun h' dd' hs => ⟨.ref s.heap.objs.size, _, ?_, rfl, q2⟩⟩
  have hz : (mergeK [] kvs).length ≤ sizeLine := by
    have h1 := length_mergeK kvs []
    rw [List.length_nil] at h1
    rw [sizeLine_eq]; omega
  have he : ∃ q, h'.get? s.heap.objs.size = some q := let ⟨q, _, _, hq, _⟩ := dd'; ⟨q, hq⟩
  exact d_write I2 (by rw [e]; exact True.intro) hs he (dk_new hz hd (rk.merge .nil) dd')


/-! ### methods -/
/-- a method call o.m(e) of a built-in, with one argument: what must be seen of the text -/
structure M1 (X : Cx) (o : Expr) (m : Str) (apos : Pos) (e : Expr) (cpos : Pos) : Prop where
  base : attributeBase o m X.env (eval o X.env) = eval o X.env
  few : ((backTo cpos (starEach [e] X.env)).all (fun x => !x.1) && (backToKw cpos (keywordEach [] X.env)).all (fun x => x.1.isSome)
    && decide (([e] : List Expr).length + ([] : List Keyword).length + (if ([] : List Keyword).isEmpty then 0 else 1) < 30)) = true
  line : (apos.endLine == cpos.line) = true
  trees : backTo cpos (starEach [e] X.env) = [(false, eval e X.env)]
structure M2 (X : Cx) (o : Expr) (m : Str) (apos : Pos) (e f : Expr) (cpos : Pos) : Prop where
  base : attributeBase o m X.env (eval o X.env) = eval o X.env
  few : ((backTo cpos (starEach [e, f] X.env)).all (fun x => !x.1) && (backToKw cpos (keywordEach [] X.env)).all (fun x => x.1.isSome)
    && decide (([e, f] : List Expr).length + ([] : List Keyword).length + (if ([] : List Keyword).isEmpty then 0 else 1) < 30)) = true
  line : (apos.endLine == cpos.line) = true
  trees : backTo cpos (starEach [e, f] X.env) = [(false, eval e X.env), (false, eval f X.env)]

/-- a is a dict, whatever its keys -/
def IsD (H : Hp) (a : Addr) : Prop := (∃ kvs, Rd H a (.dK kvs)) ∨ ∃ kvs, Rd H a (.dT kvs)
theorem isD_at {X : Cx} {pins : List (Addr × Obj)} {σ : St} {H : Hp} {s : Shared} {a : Addr} (I : Inv X pins σ H s) (d : IsD H a) :
    s.TypeIs (.ref a) "dict" ∧ (∀ b, Value.ref a = .ref b → ∃ ob, s.heap.get? b = some ob ∧ ob.dict = none) ∧ (a == sysModules) = false := by
  rcases d with ⟨kvs, e⟩ | ⟨kvs, e⟩
  · obtain ⟨_, hd, vs, _, dd⟩ := dk_rd I.hok e
    refine ⟨dd.typeIs, fun b q => ?_, hd⟩
    cases q
    obtain ⟨ob, _, _, h1, h2, _⟩ := dd
    exact ⟨ob, h1, h2.2.1⟩
  · obtain ⟨_, hd, xs, _, dd⟩ := dt_rd I.hok e
    refine ⟨dd.typeIs, fun b q => ?_, hd⟩
    cases q
    obtain ⟨ob, _, _, h1, h2, _⟩ := dd
    exact ⟨ob, h1, h2.2.1⟩

section
variable {X : Cx} {pins : List (Addr × Obj)} {σ : St} {H : Hp} {s : Shared} {a : Addr} {y d : V} {u r : Value} {o : Option V} {A : Around} {E : Value → Shared → Prop}
/-- d.get(y) -/
theorem d_get1 {Q : Value → Shared → Prop} (hu : A.units + 1 < cLine) (I : Inv X pins σ H s) (g : DGet H a y o) (ry : RelV y u) (h : ∀ w' s', Inv X pins σ H s' → RelV (o.getD .non) w' → Q w' s') :
    wpAny (model X.prog X.w) A (call (.builtin "dict.get") [.ref a, u]) Q E s := by
  rcases g with ⟨kvs, k, e, ey, l⟩ | ⟨kvs, k, b, e, ey, eb, l⟩
  · subst ey
    obtain ⟨z, hd, vs, rel, dd⟩ := dk_rd I.hok e
    refine call_meetsIn PySem.F.slot_dict_get dd.typeIs PySem.F.entry_dict_get (PySem.F.args_dict_get_2 _ _) (meets_dict_get (mixKind X.prog X.w) a (kV_is ry) hd) ⟨_, dd.mapOf, h _ _ (I.tok _) ?_⟩
    rw [l]
    exact (rel.val k).getD rfl
  · subst ey
    cases (show u = Value.ref b from ry)
    obtain ⟨z, hd, xs, rel, dd⟩ := dt_rd I.hok e
    refine call_meetsIn PySem.F.slot_dict_get dd.typeIs PySem.F.entry_dict_get (PySem.F.args_dict_get_2 _ _) (meetsH_dict_get (tupleKind (mixKind X.prog X.w)) a b hd) ⟨tupleKind_room_in1 hu, k, xs, key_of I.hok eb, dd, h _ _ (I.tok _) ?_⟩
    rw [l]
    exact (rel.val k).getD rfl
/-- d.get(y, x) -/
theorem d_get2 {Q : Value → Shared → Prop} (hu : A.units + 1 < cLine) (I : Inv X pins σ H s) (g : DGet H a y o) (ry : RelV y u) (rd : RelV d r) (h : ∀ w' s', Inv X pins σ H s' → RelV (o.getD d) w' → Q w' s') :
    wpAny (model X.prog X.w) A (call (.builtin "dict.get") [.ref a, u, r]) Q E s := by
  rcases g with ⟨kvs, k, e, ey, l⟩ | ⟨kvs, k, b, e, ey, eb, l⟩
  · subst ey
    obtain ⟨z, hd, vs, rel, dd⟩ := dk_rd I.hok e
    refine call_meetsIn PySem.F.slot_dict_get dd.typeIs PySem.F.entry_dict_get (PySem.F.args_dict_get_3 _ _ _) (meets_dict_get_default (mixKind X.prog X.w) a (kV_is ry) hd r) ⟨_, dd.mapOf, h _ _ (I.tok _) ?_⟩
    rw [l]
    exact (rel.val k).getD rd
  · subst ey
    cases (show u = Value.ref b from ry)
    obtain ⟨z, hd, xs, rel, dd⟩ := dt_rd I.hok e
    refine call_meetsIn PySem.F.slot_dict_get dd.typeIs PySem.F.entry_dict_get (PySem.F.args_dict_get_3 _ _ _) (meetsH_dict_get_default (tupleKind (mixKind X.prog X.w)) a b hd r) ⟨tupleKind_room_in1 hu, k, xs, key_of I.hok eb, dd, h _ _ (I.tok _) ?_⟩
    rw [l]
    exact (rel.val k).getD rd
end

def tDGet1 (td ty : TE) : TE := fun σ H Q => td σ H fun x H1 => ∃ a, x = .ref a ∧ IsD H1 a ∧ ty σ H1 fun y H2 => ∃ o, DGet H2 a y o ∧ Q (o.getD .non) H2
def tDGet2 (td ty tx : TE) : TE := fun σ H Q => td σ H fun x H1 => ∃ a, x = .ref a ∧ IsD H1 a ∧ ty σ H1 fun y H2 => tx σ H2 fun z H3 => ∃ o, DGet H3 a y o ∧ Q (o.getD z) H3
/-- d.pop(k): there; d.pop(k, x): there or not -/
def tDPop1 (td ty : TE) : TE := fun σ H Q => td σ H fun x H1 => ∃ a, x = .ref a ∧ IsD H1 a ∧ ty σ H1 fun y H2 => ∃ kvs k v, H2 a = some (.dK kvs) ∧ y = kV k ∧ valV kvs k = some v ∧ Q v (upd H2 a (.dK (dropK kvs k)))
def tDPop2 (td ty tx : TE) : TE := fun σ H Q => td σ H fun x H1 => ∃ a, x = .ref a ∧ IsD H1 a ∧ ty σ H1 fun y H2 => tx σ H2 fun z H3 => ∃ kvs k, H3 a = some (.dK kvs) ∧ y = kV k ∧
  (∀ v, valV kvs k = some v → Q v (upd H3 a (.dK (dropK kvs k)))) ∧ (valV kvs k = none → Q z H3)
section
variable {X : Cx} {o e f : Expr} {apos cpos : Pos} {td ty tx : TE}
theorem pe_dget1 (hu : X.A.units + 1 < cLine) (ho : PE X o td) (he : PE X e ty) (m : M1 X o "get" apos e cpos) : PE X (.Call (.Attribute o "get" apos) [e] [] cpos) (tDGet1 td ty) := by
  intro pins s σ H Q I h
  refine wpAny_Call_method m.base m.few m.line PySem.F.plainAttrs_dict PySem.F.slot_dict_get PySem.F.type_dict_get (thn (ho pins s σ H _ I h) fun u s1 ⟨x, H1, I1, rx, a, ex, d, q1⟩ => ?_)
  subst ex
  obtain rfl : u = Value.ref a := rx
  obtain ⟨t1, t2, _⟩ := isD_at I1 d
  refine ⟨t1, t2, ?_⟩
  rw [m.trees]
  refine Calls.callWith_builtin rfl (Calls.evalArgs_plain (Calls.spliced_cons (thn (he pins s1 σ H1 _ I1 q1) fun iv s2 ⟨y, H2, I2, ry, ov, g, q2⟩ => Calls.spliced_nil ?_)))
  exact d_get1 hu I2 g ry fun w' s3 I3 rw' => ⟨_, H2, I3, rw', q2⟩
theorem pe_dget2 (hu : X.A.units + 1 < cLine) (ho : PE X o td) (he : PE X e ty) (hf : PE X f tx) (m : M2 X o "get" apos e f cpos) : PE X (.Call (.Attribute o "get" apos) [e, f] [] cpos) (tDGet2 td ty tx) := by
  intro pins s σ H Q I h
  refine wpAny_Call_method m.base m.few m.line PySem.F.plainAttrs_dict PySem.F.slot_dict_get PySem.F.type_dict_get (thn (ho pins s σ H _ I h) fun u s1 ⟨x, H1, I1, rx, a, ex, d, q1⟩ => ?_)
  subst ex
  obtain rfl : u = Value.ref a := rx
  obtain ⟨t1, t2, _⟩ := isD_at I1 d
  refine ⟨t1, t2, ?_⟩
  rw [m.trees]
  refine Calls.callWith_builtin rfl (Calls.evalArgs_plain (Calls.spliced_cons (thn (he pins s1 σ H1 _ I1 q1) fun iv s2 ⟨y, H2, I2, ry, q2⟩ =>
    Calls.spliced_cons (thn (hf pins s2 σ H2 _ I2 q2) fun fv s3 ⟨z, H3, I3, rz, ov, g, q3⟩ => Calls.spliced_nil ?_))))
  exact d_get2 hu I3 g ry rz fun w' s4 I4 rw' => ⟨_, H3, I4, rw', q3⟩
theorem pe_dpop1 (ho : PE X o td) (he : PE X e ty) (m : M1 X o "pop" apos e cpos) : PE X (.Call (.Attribute o "pop" apos) [e] [] cpos) (tDPop1 td ty) := by
  intro pins s σ H Q I h
  refine wpAny_Call_method m.base m.few m.line PySem.F.plainAttrs_dict PySem.F.slot_dict_pop PySem.F.type_dict_pop (thn (ho pins s σ H _ I h) fun u s1 ⟨x, H1, I1, rx, a, ex, d, q1⟩ => ?_)
  subst ex
  obtain rfl : u = Value.ref a := rx
  obtain ⟨t1, t2, _⟩ := isD_at I1 d
  refine ⟨t1, t2, ?_⟩
  rw [m.trees]
  refine Calls.callWith_builtin rfl (Calls.evalArgs_plain (Calls.spliced_cons (thn (he pins s1 σ H1 _ I1 q1) fun iv s2 ⟨y, H2, I2, ry, kvs, k, v, ea, ey, l, q2⟩ => Calls.spliced_nil ?_)))
  subst ey
  exact d_pop I2 ea ry l (.inl rfl) fun w' s3 I3 rw' => ⟨v, _, I3, rw', q2⟩
theorem pe_dpop2 (ho : PE X o td) (he : PE X e ty) (hf : PE X f tx) (m : M2 X o "pop" apos e f cpos) : PE X (.Call (.Attribute o "pop" apos) [e, f] [] cpos) (tDPop2 td ty tx) := by
  intro pins s σ H Q I h
  refine wpAny_Call_method m.base m.few m.line PySem.F.plainAttrs_dict PySem.F.slot_dict_pop PySem.F.type_dict_pop (thn (ho pins s σ H _ I h) fun u s1 ⟨x, H1, I1, rx, a, ex, d, q1⟩ => ?_)
  subst ex
  obtain rfl : u = Value.ref a := rx
  obtain ⟨t1, t2, _⟩ := isD_at I1 d
  refine ⟨t1, t2, ?_⟩
  rw [m.trees]
  refine Calls.callWith_builtin rfl (Calls.evalArgs_plain (Calls.spliced_cons (thn (he pins s1 σ H1 _ I1 q1) fun iv s2 ⟨y, H2, I2, ry, q2⟩ =>
    Calls.spliced_cons (thn (hf pins s2 σ H2 _ I2 q2) fun fv s3 ⟨z, H3, I3, rz, kvs, k, ea, ey, q3, q4⟩ => Calls.spliced_nil ?_))))
  subst ey
  cases l : valV kvs k with
  | some v => exact d_pop I3 ea ry l (.inr ⟨fv, rfl⟩) fun w' s4 I4 rw' => ⟨v, _, I4, rw', q3 v l⟩
  | none => exact d_popD I3 ea ry l fun s4 I4 => ⟨z, H3, I4, rz, q4 l⟩
end

/-! ### dict(d): a copy -/
section
variable {X : Cx} {pins : List (Addr × Obj)} {σ : St} {H : Hp} {s : Shared} {a : Addr} {kvs : List (Key × V)} {A : Around} {E : Value → Shared → Prop}
theorem d_copyOf {Q : Value → Shared → Prop} (I : Inv X pins σ H s) (e : Rd H a (.dK kvs)) (h : ∀ p s', H p = none → Inv X pins σ (upd H p (.dK kvs)) s' → Q (.ref p) s') : wpAny (model X.prog X.w) A (call (.type "dict") [.ref a]) Q E s := by
  obtain ⟨z, hd, vs, rel, dd⟩ := dk_rd I.hok e
  refine kt_call_dict hd dd (by rw [← rel.length]; exact z) fun h' dd' hs => ?_
  refine h _ _ (I.hok.fresh (Nat.le_refl _)) (I.laid (a := s.heap.objs.size) (o := .dK kvs) (t' := s.toks) (fun b q hq => ?_) (Nat.le_refl _) (dk_new z (beq_eq_false_iff_ne.mpr (Ne.symm (Nat.ne_of_lt I.big))) rel dd'))
  exact (hs.2 b (Nat.ne_of_lt (Heap.lt_size hq))).trans (Heap.get?_push_of_some _ hq)
end


section
variable {X : Cx} {pins : List (Addr × Obj)} {σ : St} {H : Hp} {s : Shared} {a : Addr} {y : V} {u : Value} {A : Around} {E : Value → Shared → Prop}
/-- d[y], not there: a KeyError -/
theorem d_missing {Q : Value → Shared → Prop} (hu : A.units + 1 < cLine) (hh : A.handled = none) (I : Inv X pins σ H s) (g : DGet H a y none) (ry : RelV y u)
    (h : ∀ h' e t', Heap.NewExc s.heap h' e "KeyError" → E (.ref e) { s with heap := h', toks := t' }) : wpAny (model X.prog X.w) A (getItem (.ref a) u) Q E s := by
  rcases g with ⟨kvs, k, e, ey, l⟩ | ⟨kvs, k, b, e, ey, eb, l⟩
  · subst ey
    obtain ⟨z, hd, vs, rel, dd⟩ := dk_rd I.hok e
    have hn : valueAt vs k = none := RelO.none_of (by rw [l]; exact rel.val k)
    exact wpAny_getItem_missing_of (kV_is ry) hd hh dd.mapOf hn fun h' ex ne => h h' ex _ ne
  · subst ey
    cases (show u = Value.ref b from ry)
    obtain ⟨z, hd, xs, rel, dd⟩ := dt_rd I.hok e
    have hn : (atKey xs k).map (·.2) = none := RelO.none_of (by rw [l]; exact rel.val k)
    exact wpAny_getItem_missing_heap (tupleKind_room_in1 hu) (key_of I.hok eb) hd hh dd (Option.map_eq_none_iff.mp hn) fun h' ex ne => h h' ex _ ne
end
end L2

namespace L2
open PySem PySem.Spec PyProof.Rows
section
variable {X : Cx}
/-- len of a dict -/
theorem call_lenD : CallR X (.builtin "len") (fun xs H Q => ∃ a kvs, xs = [V.ref a] ∧ H a = some (.dK kvs) ∧ Q (.int kvs.length) H) := by
  intro pins s σ H xs us Q I r h
  obtain ⟨a, kvs, rfl, ha, q⟩ := h
  obtain ⟨u, rfl, ru⟩ := vals1 r
  cases ru
  exact d_len I (.inl ha) fun t s' I' => ⟨.int kvs.length, H, I', ⟨t, rfl⟩, q⟩
end
/-! ### a dict's pairs: keys that differ -/
section
variable {κ : Type} [DecidableEq κ]
theorem valV_not {kvs : List (κ × V)} {k : κ} (h : valV kvs k = none) : ¬ k ∈ kvs.map (·.1) := by
  intro m
  obtain ⟨p, hp, e⟩ := List.mem_map.mp m
  have q : (kvs.any fun kv => decide (kv.1 = k)) = true := List.any_eq_true.mpr ⟨p, hp, decide_eq_true e⟩
  rw [valV_any, h] at q
  exact absurd q (by simp)
theorem valV_in {kvs : List (κ × V)} {k : κ} {v : V} (h : valV kvs k = some v) : k ∈ kvs.map (·.1) := by
  have q : (kvs.any fun kv => decide (kv.1 = k)) = true := by
    rw [valV_any, h]
    all_goals rfl
  obtain ⟨p, hp, e⟩ := List.any_eq_true.mp q
  exact List.mem_map.mpr ⟨p, hp, of_decide_eq_true e⟩
theorem nd_snoc : ∀ {l : List κ} {k : κ}, l.Nodup → ¬ k ∈ l → (l ++ [k]).Nodup
  | [], k, _, _ => by simp
  | a :: r, k, h, hk => by
    obtain ⟨h1, h2⟩ := List.nodup_cons.mp h
    show (a :: (r ++ [k])).Nodup
    refine List.nodup_cons.mpr ⟨fun m => ?_, nd_snoc h2 fun m => hk (List.mem_cons.mpr (Or.inr m))⟩
    rcases List.mem_append.mp m with q | q
    · exact h1 q
    · exact hk (List.mem_cons.mpr (Or.inl (List.mem_singleton.mp q).symm))
theorem nd_putK {kvs : List (κ × V)} {k : κ} (v : V) (hn : (kvs.map (·.1)).Nodup) (h : valV kvs k = none) : ((putK kvs k v).map (·.1)).Nodup := by
  rw [putK_new v h, List.map_append]
  exact nd_snoc hn (valV_not h)
theorem dropK_pos {p : κ × V} {r : List (κ × V)} {k : κ} (e : p.1 = k) : dropK (p :: r) k = dropK r k := by
  unfold dropK
  rw [List.filter_cons, if_neg (by simp [e])]
theorem dropK_neg {p : κ × V} {r : List (κ × V)} {k : κ} (e : ¬ p.1 = k) : dropK (p :: r) k = p :: dropK r k := by
  unfold dropK
  rw [List.filter_cons, if_pos (by simp [e])]
theorem dropK_no : ∀ {kvs : List (κ × V)} {k : κ}, ¬ k ∈ kvs.map (·.1) → dropK kvs k = kvs
  | [], _, _ => rfl
  | p :: r, k, h => by
    have h' : ¬ k ∈ r.map (·.1) := fun m => by
      obtain ⟨q, hq, e⟩ := List.mem_map.mp m
      exact h (List.mem_map.mpr ⟨q, List.mem_cons.mpr (Or.inr hq), e⟩)
    rw [dropK_neg fun e => h (List.mem_map.mpr ⟨p, List.mem_cons.mpr (Or.inl rfl), e⟩), dropK_no h']
theorem dropK_mem {kvs : List (κ × V)} {k : κ} {p : κ × V} (h : p ∈ dropK kvs k) : p ∈ kvs := (List.mem_filter.mp h).1
theorem nd_dropK : ∀ {kvs : List (κ × V)} {k : κ}, (kvs.map (·.1)).Nodup → ((dropK kvs k).map (·.1)).Nodup
  | [], _, _ => List.nodup_nil
  | p :: r, k, h => by
    have h : (p.1 :: r.map (·.1)).Nodup := h
    obtain ⟨h1, h2⟩ := List.nodup_cons.mp h
    by_cases e : p.1 = k
    · rw [dropK_pos e]
      exact nd_dropK h2
    · rw [dropK_neg e]
      show (p.1 :: (dropK r k).map (·.1)).Nodup
      refine List.nodup_cons.mpr ⟨fun m => h1 ?_, nd_dropK h2⟩
      obtain ⟨q, hq, eq⟩ := List.mem_map.mp m
      exact List.mem_map.mpr ⟨q, dropK_mem hq, eq⟩
theorem dropK_len : ∀ {kvs : List (κ × V)} {k : κ}, (kvs.map (·.1)).Nodup → k ∈ kvs.map (·.1) → (dropK kvs k).length + 1 = kvs.length
  | [], _, _, m => by simp at m
  | p :: r, k, h, m => by
    have h : (p.1 :: r.map (·.1)).Nodup := h
    have m : k = p.1 ∨ k ∈ r.map (·.1) := List.mem_cons.mp m
    obtain ⟨h1, h2⟩ := List.nodup_cons.mp h
    by_cases e : p.1 = k
    · subst e
      rw [dropK_pos rfl, dropK_no h1]
      all_goals rfl
    · have m' : k ∈ r.map (·.1) := m.resolve_left fun z => e z.symm
      have q := dropK_len h2 m'
      rw [dropK_neg e, List.length_cons, List.length_cons]
      omega
end
end L2

set_option Elab.async false
set_option linter.all false
set_option maxRecDepth 100000
/-! List comprehensions over the hand layer: a block of its own context inside a def's body. -/
namespace L2
open PySem PySem.Spec PyProof.Rows

/-! ### the cells that a block sees -/
def clOf (cells : List (Str × Addr)) : List (Str × NameKind) → List (Str × Addr) → List (Str × Addr)
  | [], acc => acc
  | (n, k) :: r, acc => if (k == NameKind.free) = true then (match cells.lookup n with | some c => clOf cells r ((n, c) :: acc) | none => clOf cells r acc) else clOf cells r acc
theorem closureFor_eq {scope : Scope} {env : Env} (h : ∀ y ∈ scope.names, y.2 = .free → ∃ c, env.cells.lookup y.1 = some c) : closureFor scope env = pure (clOf env.cells scope.names []) := by
  have all : ∀ (l : List (Str × NameKind)) (acc : List (Str × Addr)), (∀ y ∈ l, y.2 = .free → ∃ c, env.cells.lookup y.1 = some c) →
      (forIn l acc fun (x : Str × NameKind) (r : List (Str × Addr)) => if (x.2 == NameKind.free) = true then do
        let a ← cellOf env x.1
        pure (ForInStep.yield ((x.1, a) :: r)) else pure (ForInStep.yield r) : Sem (List (Str × Addr))) = pure (clOf env.cells l acc) := by
    intro l
    induction l with
    | nil => intro acc _; rfl
    | cons x r ih =>
      intro acc hl
      obtain ⟨n, k⟩ := x
      have ih' := fun acc => ih acc fun y hy => hl y (List.mem_cons_of_mem _ hy)
      rw [List.forIn_cons]
      by_cases hk : (k == NameKind.free) = true
      · have hk' : k = NameKind.free := by simpa using hk
        obtain ⟨c, hc⟩ := hl (n, k) List.mem_cons_self hk'
        have hc' : env.cells.lookup n = some c := hc
        simp only [hk, if_true]
        have e1 : cellOf env n = pure c := by unfold cellOf; rw [hc']
        rw [e1]
        simp only [pure_bind]
        rw [ih']
        simp only [clOf, hk, if_true, hc']
      · simp only [hk, if_false, pure_bind, Bool.false_eq_true]
        rw [ih']
        simp only [clOf, hk, if_false, Bool.false_eq_true]
  have := all scope.names [] h
  simp only [closureFor]
  first
    | exact this
    | (simp only [bind_pure]; exact this)
    | simpa using this
theorem clOf_sub {cells : List (Str × Addr)} : ∀ {names : List (Str × NameKind)} {acc : List (Str × Addr)}, (∀ y c, acc.lookup y = some c → cells.lookup y = some c) → ∀ y c, (clOf cells names acc).lookup y = some c → cells.lookup y = some c
  | [], _, h, y, c, e => h y c e
  | (n, k) :: r, acc, h, y, c, e => by
    unfold clOf at e
    split at e
    · cases hn : cells.lookup n with
      | none => rw [hn] at e; exact clOf_sub h y c e
      | some c' =>
        rw [hn] at e
        refine clOf_sub (fun y c q => ?_) y c e
        rw [List.lookup_cons] at q
        cases hy : y == n with
        | true =>
          rw [hy] at q
          have q' : c' = c := Option.some.inj q
          have hyn : y = n := by simpa using hy
          rw [hyn, hn, q']
        | false => rw [hy] at q; exact h y c q
    · exact clOf_sub h y c e
theorem clOf_has {cells : List (Str × Addr)} : ∀ {names : List (Str × NameKind)} {acc : List (Str × Addr)} {y : Str} {c : Addr}, cells.lookup y = some c → ((acc.lookup y).isSome = true ∨ names.lookup y = some .free) → ((clOf cells names acc).lookup y).isSome = true
  | [], acc, y, c, _, h => by
    rcases h with h | h
    · exact h
    · simp at h
  | (n, k) :: r, acc, y, c, hc, h => by
    unfold clOf
    have hyn : ∀ q : (y == n) = true, y = n := fun q => by simpa using q
    split
    · rename_i hk
      cases hn : cells.lookup n with
      | none =>
        refine clOf_has (c := c) hc ?_
        rcases h with h | h
        · exact .inl h
        · rw [List.lookup_cons] at h
          cases hy : y == n with
          | true =>
            rw [hyn hy, hn] at hc; cases hc
          | false => rw [hy] at h; exact .inr h
      | some c' =>
        refine clOf_has (c := c) hc ?_
        rw [List.lookup_cons]
        cases hy : y == n with
        | true => exact .inl rfl
        | false =>
          rcases h with h | h
          · exact .inl h
          · rw [List.lookup_cons, hy] at h; exact .inr h
    · rename_i hk
      refine clOf_has (c := c) hc ?_
      rcases h with h | h
      · exact .inl h
      · rw [List.lookup_cons] at h
        cases hy : y == n with
        | true =>
          rw [hy] at h
          have : k = NameKind.free := Option.some.inj h
          exact absurd (by simpa using this) hk
        | false => rw [hy] at h; exact .inr h
theorem clOf_get {cells : List (Str × Addr)} {names : List (Str × NameKind)} {y : Str} {c : Addr} (hc : cells.lookup y = some c) (h : names.lookup y = some .free) : (clOf cells names []).lookup y = some c := by
  obtain ⟨c', e⟩ := Option.isSome_iff_exists.mp (clOf_has (acc := []) hc (.inr h))
  have := clOf_sub (acc := []) (fun _ _ q => by simp at q) y c' e
  rw [hc] at this
  rw [e, this]

/-! ### the kinds of names in the block -/
theorem relab_free {env : Env} : ∀ {names : List (Str × NameKind)} {x : Str}, names.lookup x = some .free →
    ((names.map fun (n, k) => if (k == NameKind.free && env.scope.kind == .function && env.kindOf n == some .cell) then (n, NameKind.cell) else (n, k)).lookup x = some .cell ∨
     (names.map fun (n, k) => if (k == NameKind.free && env.scope.kind == .function && env.kindOf n == some .cell) then (n, NameKind.cell) else (n, k)).lookup x = some .free)
  | [], _, h => by simp at h
  | (n, k) :: r, x, h => by
    have ih := @relab_free env r x
    show List.lookup x ((if (k == NameKind.free && env.scope.kind == .function && env.kindOf n == some .cell) = true then (n, NameKind.cell) else (n, k)) :: _) = _ ∨ List.lookup x ((if (k == NameKind.free && env.scope.kind == .function && env.kindOf n == some .cell) = true then (n, NameKind.cell) else (n, k)) :: _) = _
    cases hx : x == n with
    | true =>
      simp only [List.lookup_cons, hx] at h
      cases h
      by_cases hc : (NameKind.free == NameKind.free && env.scope.kind == .function && env.kindOf n == some .cell) = true
      · rw [if_pos hc]; simp only [List.lookup_cons, hx]; exact .inl trivial
      · rw [if_neg hc]; simp only [List.lookup_cons, hx]; exact .inr trivial
    | false =>
      simp only [List.lookup_cons, hx] at h
      by_cases hc : (k == NameKind.free && env.scope.kind == .function && env.kindOf n == some .cell) = true
      · rw [if_pos hc]; simp only [List.lookup_cons, hx]; exact ih h
      · rw [if_neg hc]; simp only [List.lookup_cons, hx]; exact ih h
theorem relab_back {env : Env} : ∀ {names : List (Str × NameKind)} {x : Str}, (∀ y ∈ names, y.2 ≠ .cell) →
    ((names.map fun (n, k) => if (k == NameKind.free && env.scope.kind == .function && env.kindOf n == some .cell) then (n, NameKind.cell) else (n, k)).lookup x = some .cell ∨
     (names.map fun (n, k) => if (k == NameKind.free && env.scope.kind == .function && env.kindOf n == some .cell) then (n, NameKind.cell) else (n, k)).lookup x = some .free) → names.lookup x = some .free
  | [], _, _, h => by simp at h
  | (n, k) :: r, x, hn, h => by
    have ih := @relab_back env r x (fun y hy => hn y (List.mem_cons_of_mem _ hy))
    have h' : List.lookup x ((if (k == NameKind.free && env.scope.kind == .function && env.kindOf n == some .cell) = true then (n, NameKind.cell) else (n, k)) :: (r.map fun (n, k) => if (k == NameKind.free && env.scope.kind == .function && env.kindOf n == some .cell) then (n, NameKind.cell) else (n, k))) = some .cell ∨ List.lookup x ((if (k == NameKind.free && env.scope.kind == .function && env.kindOf n == some .cell) = true then (n, NameKind.cell) else (n, k)) :: (r.map fun (n, k) => if (k == NameKind.free && env.scope.kind == .function && env.kindOf n == some .cell) then (n, NameKind.cell) else (n, k))) = some .free := h
    cases hx : x == n with
    | true =>
      by_cases hc : (k == NameKind.free && env.scope.kind == .function && env.kindOf n == some .cell) = true
      · have hk : k = NameKind.free := by
          rw [Bool.and_eq_true, Bool.and_eq_true] at hc
          simpa using hc.1.1
        rw [List.lookup_cons, hx, hk]
      · rw [if_neg hc] at h'
        simp only [List.lookup_cons, hx] at h' ⊢
        rcases h' with z | z
        · exact absurd (Option.some.inj z) (hn (n, k) List.mem_cons_self)
        · exact z
    | false =>
      by_cases hc : (k == NameKind.free && env.scope.kind == .function && env.kindOf n == some .cell) = true
      · rw [if_pos hc] at h'
        simp only [List.lookup_cons, hx] at h' ⊢
        exact ih h'
      · rw [if_neg hc] at h'
        simp only [List.lookup_cons, hx] at h' ⊢
        exact ih h'

/-! ### the block's context -/
def cxComp (X : Cx) (scope : Scope) (C : Addr) (N : List Str) (s₀ : Shared) (H₀ : Hp) (fp : List Addr) : Cx :=
  { X with N := N, s₀ := s₀, H₀ := H₀, env := compEnvC scope (clOf X.env.cells scope.names []) C X.env, outer := X.stack, stack := X.stack, ex := fp, fn := fun _ => false, pn := [], xe := fun _ _ => False }
/-- the values of the names that the block takes from around it -/
def cap (σ : St) (idx : List Nat) : St := idx.map fun j => σ.getD j none

/-- what is asked of the clause's names: sc, N0 the scope and the slots around it; x the target, ns the names taken from around, idx their slots there -/
structure CompNames (sc : Scope) (N0 : List Str) (scope : Scope) (x : Str) (ns : List Str) (idx : List Nat) : Prop where
  kind : scope.kind = .function
  cell : ∀ y ∈ scope.names, y.2 ≠ .cell
  loc : ∀ y ∈ scope.names, y.2 = .local → scope.names.lookup y.1 = some .local
  tgt : scope.names.lookup x = some .local
  nd : (x :: ns).Nodup
  from_ : ∀ y ∈ scope.names, y.2 = .free → (sc.names.lookup y.1 = some .cell ∨ sc.names.lookup y.1 = some .free)
  free : ∀ y ∈ ns, scope.names.lookup y = some .free
  ix : idx.map (fun j => N0[j]?) = ns.map some
/-- the same, to be reckoned -/
def cnB (sc : Scope) (N0 : List Str) (scope : Scope) (x : Str) (ns : List Str) (idx : List Nat) : Bool :=
  decide (scope.kind = .function) && scope.names.all (fun y => decide (y.2 ≠ .cell)) && scope.names.all (fun y => decide (y.2 = .local → scope.names.lookup y.1 = some .local)) && decide (scope.names.lookup x = some .local) &&
  decide ((x :: ns).Nodup) && scope.names.all (fun y => decide (y.2 = .free → (sc.names.lookup y.1 = some .cell ∨ sc.names.lookup y.1 = some .free))) && ns.all (fun y => decide (scope.names.lookup y = some .free)) &&
  decide (idx.map (fun j => N0[j]?) = ns.map some)
theorem cn_of {sc : Scope} {N0 : List Str} {scope : Scope} {x : Str} {ns : List Str} {idx : List Nat} (h : cnB sc N0 scope x ns idx = true) : CompNames sc N0 scope x ns idx := by
  unfold cnB at h
  simp only [Bool.and_eq_true, List.all_eq_true, decide_eq_true_eq] at h
  obtain ⟨⟨⟨⟨⟨⟨⟨h1, h2⟩, h3⟩, h4⟩, h5⟩, h6⟩, h7⟩, h8⟩ := h
  exact ⟨h1, h2, h3, h4, h5, h6, h7, h8⟩

theorem mem_of_lookup' {names : List (Str × NameKind)} {y : Str} {k : NameKind} (h : names.lookup y = some k) : (y, k) ∈ names := PySem.mem_of_lookup h

section
variable {X : Cx} {pins : List (Addr × Obj)} {σ : St} {H : Hp} {s : Shared} {scope : Scope} {x : Str} {ns : List Str} {idx : List Nat} {fp : List Addr}
theorem CompNames.clos (N : CompNames X.env.scope X.N scope x ns idx) (ok : X.Ok) : closureFor scope X.env = pure (clOf X.env.cells scope.names []) :=
  closureFor_eq fun y hy hk => ok.has y.1 (N.from_ y hy hk)
/-- the block is entered -/
theorem Inv.comp {h1 : Heap} {t' : Nat} {C D : Addr} (N : CompNames X.env.scope X.N scope x ns idx) (I : Inv X pins σ H s) (f2 : ∀ b ∈ fp, FpOk X pins H b) (fo : ∀ b ∈ fp, ∃ o, s.heap.get? b = some o)
    (hD : s.heap.objs.size ≤ D) (hC : s.heap.objs.size ≤ C) (hDC : D ≠ C) (old : ∀ b o, s.heap.get? b = some o → h1.get? b = some o) (hacc : h1.get? D = some { cls := .type "list", data := .seq #[] 0 })
    (hns : h1.Ns C fun _ => none) :
    Inv (cxComp X scope C (x :: ns) s H fp) [] (none :: cap σ idx) (upd H D (.lst [])) { s with heap := h1, toks := t' } := by
  have hDn : H D = none := I.hok.fresh hD
  have hCn : H C = none := I.hok.fresh hC
  have cne : ∀ y c, (clOf X.env.cells scope.names []).lookup y = some c → X.env.cells.lookup y = some c := clOf_sub (acc := []) (fun _ _ q => by simp at q)
  have clt : ∀ y c, X.env.cells.lookup y = some c → c < s.heap.objs.size := fun y c e => by
    obtain ⟨v, o, ho, _⟩ := I.cell y c e
    exact Heap.lt_size ho
  refine ⟨⟨I.ok.mod, N.kind, I.ok.glob, I.ok.blt, hC, fun y z c e1 e2 => ?_, fun y hy => ?_, fun y c hf _ => ?_, I.ok.hd, I.ok.frames, .inl rfl, fun b hb => ⟨?_, fun y c e => ?_⟩, I.bs, Nat.le_trans I.ok.bsz I.sz, fun b o e hb => ?_, fun b hb hz => ?_, I.stack, I.stkFree⟩,
    rfl, I.bare, ?_, ⟨_, hns, fun i y v e1 e2 e3 => ?_⟩, fun y c e => ?_, ?_, fun y c e => ?_, fun p hp => absurd (show p ∈ ([] : List (Addr × Obj)) from hp) (by simp), ?_, ?_⟩
  · exact I.ok.inj y z c (cne y c e1) (cne z c e2)
  · have hy' := relab_back (env := X.env) N.cell hy
    obtain ⟨c, e⟩ := I.ok.has y (N.from_ (y, .free) (mem_of_lookup' hy') rfl)
    exact ⟨c, clOf_get e hy'⟩
  · exact absurd hf (by show ¬ (false = true); decide)
  · obtain ⟨o, e⟩ := fo b hb
    exact Nat.ne_of_lt (Nat.lt_of_lt_of_le (Heap.lt_size e) hC)
  · exact (f2 b hb).2.2.2.2.1 y c (cne y c e)
  · rcases (f2 b hb).2.2.2.1 with z | z
    · exact I.ok.noex b o e z
    · exact absurd (Nat.lt_of_lt_of_le (Heap.lt_size (I.ok.bs b o e).1) z) (Nat.lt_irrefl _)
  · rcases List.mem_cons.mp (I.stkSub b hz) with z | z
    · exact (f2 b hb).2.1 z
    · exact (f2 b hb).2.2.1 z
  · exact Un.laid old hD hDn
  · cases i with
    | zero =>
      have e2' : (none : Option V) = some v := Option.some.inj e2
      cases e2'
    | succ i =>
      have e1' : ns[i]? = some y := e1
      have e2' : (cap σ idx)[i]? = some (some v) := e2
      have hi : (idx.map (fun j => X.N[j]?))[i]? = some (some y) := by rw [N.ix, List.getElem?_map, e1']; rfl
      rw [List.getElem?_map] at hi
      unfold cap at e2'
      rw [List.getElem?_map] at e2'
      cases ej : idx[i]? with
      | none => rw [ej] at hi; cases hi
      | some j =>
        rw [ej] at hi e2'
        have hj : X.N[j]? = some y := Option.some.inj hi
        have hv : σ.getD j none = some v := Option.some.inj e2'
        have hv' : σ[j]? = some (some v) := by
          rw [List.getD_eq_getElem?_getD] at hv
          cases q : σ[j]? with
          | none => rw [q] at hv; cases hv
          | some w' => rw [q] at hv; exact congrArg some hv
        have hfr := N.free y (List.mem_of_getElem? e1')
        have hk := N.from_ (y, .free) (mem_of_lookup' hfr) rfl
        obtain ⟨m, hn, hl⟩ := I.loc
        have hvis : Vis X.env.scope y := by
          rcases hk with k | k
          · exact .inr (.inl k)
          · exact .inr (.inr k)
        obtain ⟨u, r, l⟩ := hl j y v hj hv' hvis
        refine ⟨u, r, .inr ⟨?_, ?_⟩⟩
        · exact relab_free (env := X.env) hfr
        · rcases l with ⟨k, _⟩ | ⟨_, c, ec, o, ho, hd⟩
          · have k' : X.env.kindOf y = some .local := k
            rcases hk with q | q
            · have q' : X.env.kindOf y = some .cell := q
              rw [k'] at q'; cases q'
            · have q' : X.env.kindOf y = some .free := q
              rw [k'] at q'; cases q'
          · exact ⟨c, clOf_get ec hfr, o, old c o ho, hd⟩
  · obtain ⟨v, o, ho, hd⟩ := I.cell y c (cne y c e)
    exact ⟨v, o, old c o ho, hd⟩
  · show upd H D (.lst []) C = none
    rw [upd_ne (Ne.symm hDC)]; exact hCn
  · show upd H D (.lst []) c = none
    rw [upd_ne (Nat.ne_of_lt (Nat.lt_of_lt_of_le (clt y c (cne y c e)) hD))]
    exact I.freeC y c (cne y c e)
  · exact I.hok.laid old hD ⟨Nat.zero_le _, [], 0, .nil, hacc⟩
  · show (none :: cap σ idx).length = (x :: ns).length
    have := congrArg List.length N.ix
    rw [List.length_map, List.length_map] at this
    unfold cap
    rw [List.length_cons, List.length_cons, List.length_map, this]
/-- the block is left -/
theorem Inv.uncomp {σ' : St} {H' : Hp} {s' : Shared} {C : Addr} {N' : List Str} (I : Inv X pins σ H s) (f2 : ∀ b ∈ fp, FpOk X pins H b) (J : Inv (cxComp X scope C N' s H fp) [] σ' H' s') : Inv X pins σ H' s' :=
  I.call' (ch := fp) J.os J.base J.hok J.bare fun b hb => ⟨(f2 b hb).2.2.2.1, (f2 b hb).2.1, (f2 b hb).2.2.2.2.1, (f2 b hb).2.2.2.2.2⟩
end

/-! ### the loop of the block -/
section
variable {prog : Program} {w : World} {A : Around} {R : Result → Shared → Prop} {s : Shared}
theorem compLoop_any {elt target iter : Expr} {ifs : List Expr} {scope : Scope} {pos : Pos} {it acc : Value} {env : Env} (I : Nat → Shared → Prop)
    (turn : ∀ n s, I n s → wpAny (model prog w) A (pyNext it) (fun r s₁ => match r with
      | none => R (.ok .next) s₁
      | some v => wpAny (model prog w) A (letOwnedTupleGo target it v) (fun _ s₁' => wpAny (model prog w) A (assign target env v) (fun _ s₂ =>
          wpAny (model prog w) A (forIn ifs true fun c r => if r = true then do let ok ← isTrue c env (eval c env); pure (ForInStep.yield ok) else pure (ForInStep.yield r)) (fun ok s₃ =>
            if ok = true then wpAny (model prog w) A (eval elt env) (fun x s₄ =>
              wpAny (model prog w) A (call (.builtin "list.append") [acc, x]) (fun _ s₅ => ∃ m, m < n ∧ I m s₅) (fun _ _ => False) s₄) (fun _ _ => False) s₃
            else ∃ m, m < n ∧ I m s₃) (fun _ _ => False) s₂) (fun _ _ => False) s₁') (fun _ _ => False) s₁) (fun _ _ => False) s)
    (n : Nat) (h : I n s) :
    codeAny (model prog w) A (.compLoop (.ListComp elt [⟨target, iter, ifs, 0⟩] scope pos) 0 it acc env) R s := by
  refine codeAny_loop rfl I (fun n s hI => ?_) n h
  show wpAny _ A ((compTurn (.ListComp elt [⟨target, iter, ifs, 0⟩] scope pos) 0 it acc env).onRaise (fun x => do noteFrame x env; theTreesLotGoes x)) _ _ s
  refine wpAny_noted ?_
  rw [compTurn_list]
  refine wpAny_bind (wpAny_standAt (wpAny_bind (wpAny_mono (turn n s hI) (fun r s₁ h₁ => ?_) fun _ _ h' => h'.elim)))
  cases r with
  | none => exact wpAny_pure h₁
  | some v =>
    refine wpAny_bind (wpAny_mono h₁ (fun _ s₁' h₁' => ?_) fun _ _ h' => h'.elim)
    refine wpAny_bind (wpAny_mono h₁' (fun _ s₂ h₂ => wpAny_bind (wpAny_mono h₂ (fun ok s₃ h₃ => ?_) fun _ _ h' => h'.elim)) fun _ _ h' => h'.elim)
    cases ok with
    | false => exact wpAny_pure ⟨rfl, h₃⟩
    | true =>
      exact wpAny_bind (wpAny_bind (wpAny_mono h₃ (fun x s₄ h₄ => wpAny_bind (wpAny_mono h₄ (fun _ s₅ h₅ => wpAny_pure (wpAny_pure ⟨rfl, h₅⟩)) fun _ _ h' => h'.elim)) fun _ _ h' => h'.elim))
end

/-- the tests of the clause -/
def PIfs (X : Cx) (ifs : List Expr) (t : TT) : Prop :=
  ∀ (pins : List (Addr × Obj)) (s : Shared) (σ : St) (H : Hp) (Q : Bool → Hp → Prop), Inv X pins σ H s → t σ H Q →
    wpAny (model X.prog X.w) X.A (forIn ifs true fun c r => if r = true then do let ok ← isTrue c X.env (eval c X.env); pure (ForInStep.yield ok) else pure (ForInStep.yield r)) (TP X pins σ Q) X.xe s
def tNoIf : TT := fun _ H Q => Q true H
theorem pif_nil {X : Cx} : PIfs X [] tNoIf := fun pins s σ H Q I h => wpAny_tests_nil ⟨H, I, h⟩
theorem pif_one {X : Cx} {c : Expr} {tc : TT} (hc : PT X c tc) : PIfs X [c] tc := fun pins s σ H Q I h => wpAny_tests_one (hc pins s σ H Q I h)

/-- what a comprehension's loop wants. W: by the turn, a measure, what stands in the list so far, the block's slots, the heap -/
def LCW (idx : List Nat) (J : It) (g : TG) (tt : TT) (te : TE) (Q : VK) (σ : St) (H1 : Hp) : Prop := ∀ D, H1 D = none →
  ∃ W : Nat → Nat → List V → St → Hp → Prop, (∃ m, W 0 m [] (none :: cap σ idx) (upd H1 D (.lst []))) ∧ ∀ i m ys ρ H, W i m ys ρ H → H D = some (.lst ys) ∧
    ((J.stop i H ∧ Q (.ref D) H) ∨
     (J.go i H ∧ ys.length < sizeLine ∧ ∀ x H', J.yld i H x H' → g x ρ H' fun ρ2 H2 => tt ρ2 H2 fun b H3 =>
        if b = true then te ρ2 H3 fun v H4 => H4 D = some (.lst ys) ∧ ∃ m', m' < m ∧ W (i + 1) m' (ys ++ [v]) ρ2 (upd H4 D (.lst (ys ++ [v])))
        else ∃ m', m' < m ∧ W (i + 1) m' ys ρ2 H3))
/-- a comprehension's reading -/
def tLC (wi : TI) (idx : List Nat) (g : TG) (tt : TT) (te : TE) : TE := fun σ H Q => wi σ H fun J H1 => LCW idx J g tt te Q σ H1

section
variable {X : Cx} {elt iter : Expr} {x : Str} {px : Pos} {ifs : List Expr} {scope : Scope} {pos : Pos} {ns : List Str} {idx : List Nat} {wi : TI} {g : TG} {tt : TT} {te : TE}
/-- from the iterator to the block's end; RR: what is wanted there -/
theorem comp_core {pins : List (Addr × Obj)} {s : Shared} {σ : St} {H : Hp} {Q : VK} {RR : Value → Addr → Result → Shared → Prop} {it : Addr} {fp : List Addr} {tn : Nat → Heap → Prop} {J : It} {tg : Expr} (N : CompNames X.env.scope X.N scope x ns idx) (hcalm : X.calm = true)
    (hg : ∀ C s₀ H₀ fp, PG (cxComp X scope C (x :: ns) s₀ H₀ fp) tg g)
    (hi : ∀ C s₀ H₀ fp, PIfs (cxComp X scope C (x :: ns) s₀ H₀ fp) ifs tt) (he : ∀ C s₀ H₀ fp, PE (cxComp X scope C (x :: ns) s₀ H₀ fp) elt te)
    (I : Inv X pins σ H s) (T : Turn X.prog X.w X.K tg J fp it tn) (st : tn 0 s.heap) (f2 : ∀ b ∈ fp, FpOk X pins H b)
    (h : LCW idx J g tt te Q σ H)
    (hR : ∀ D C s' H', Inv X pins σ H' s' → FpOk X pins H' C → (∃ m, s'.heap.Ns C m) → Q (.ref D) H' → RR (.ref D) C (.ok .next) s') :
    wpAny (model X.prog X.w) X.A (newList []) (fun acc s₃ => wpAny (model X.prog X.w) X.A (newFunctionEnv scope X.env.globals (clOf X.env.cells scope.names []) [] X.env.qual none .none (some X.env)) (fun cenv s₄ =>
      codeAny (model X.prog X.w) X.A (.compStart (.ListComp elt [⟨tg, iter, ifs, 0⟩] scope pos) 0 (.ref it) acc { cenv with scope := relabel scope X.env }) (RR acc cenv.locals) s₄) X.xe s₃) X.xe s := by
  refine wpAny_newObj_type (wpAny_newFunctionEnv N.cell (by intro y hy; simp at hy) (fun h₁ hns₁ hsb₁ => ?_) N.kind)
  dsimp only at hns₁ hsb₁ ⊢
  generalize hH2 : s.heap.push { cls := .type "list", dict := none, data := .seq ([] : List Value).toArray } = H2 at hns₁ hsb₁ ⊢
  have hC : H2.objs.size = s.heap.objs.size + 1 := by rw [← hH2, Heap.size_push]
  have hDC : s.heap.objs.size ≠ H2.objs.size := by rw [hC]; exact Nat.ne_of_lt (Nat.lt_succ_self _)
  have hCle : s.heap.objs.size ≤ H2.objs.size := by rw [hC]; exact Nat.le_succ _
  have below : ∀ b, b < s.heap.objs.size → b ≠ H2.objs.size := fun b hb => by rw [hC]; exact Nat.ne_of_lt (Nat.lt_succ_of_lt hb)
  have old : ∀ b o, s.heap.get? b = some o → h₁.get? b = some o := fun b o e => hsb₁.extBut b o (below b (Heap.lt_size e)) (Heap.get?_push_of_some _ (hH2 ▸ Heap.get?_push_of_some _ e))
  have hacc : h₁.get? s.heap.objs.size = some { cls := .type "list", data := .seq #[] 0 } := hsb₁.extBut _ _ hDC (Heap.get?_push_of_some _ (hH2 ▸ Heap.get?_push_size _ rfl))
  have hns : h₁.Ns H2.objs.size fun _ => none := by simpa using hns₁
  have J0 := Inv.comp (t' := s.toks + ([] : List (Str × Value)).length) N I f2 (fun b hb => let ⟨o, e, _⟩ := T.obj 0 s.heap st b hb; ⟨o, e⟩) (Nat.le_refl _) hCle hDC old hacc hns
  obtain ⟨W, ⟨m0, w0⟩, turn⟩ := h s.heap.objs.size (I.hok.fresh (Nat.le_refl _))
  have stat : ∀ {H' : Hp}, (∀ b ∈ fp, H' b = none) → ∀ b ∈ fp, FpOk (cxComp X scope H2.objs.size (x :: ns) s H fp) [] H' b := fun hn b hb => by
    obtain ⟨_, f1, f3, f4, f5, f6⟩ := f2 b hb
    obtain ⟨o, e, _⟩ := T.obj 0 s.heap st b hb
    refine ⟨hn b hb, below b (Heap.lt_size e), fun z => ?_, .inl hb, fun y c q => f5 y c (clOf_sub (acc := []) (fun _ _ q => by simp at q) y c q), fun p hp => absurd (show p ∈ ([] : List (Addr × Obj)) from hp) (by simp)⟩
    rcases List.mem_cons.mp (I.stkSub b z) with q | q
    · exact f1 q
    · exact f3 q
  have fr0 : ∀ b ∈ fp, upd H s.heap.objs.size (.lst []) b = none := fun b hb => by
    obtain ⟨o, e, _⟩ := T.obj 0 s.heap st b hb
    rw [upd_ne (Nat.ne_of_lt (Heap.lt_size e))]
    exact (f2 b hb).1
  have st1 : tn 0 h₁ := T.keep 0 _ _ st fun b _ o e => old b o e
  have loop : ∀ s₃ : Shared, s₃ = { s with heap := h₁, toks := s.toks + ([] : List (Str × Value)).length } →
      codeAny (model X.prog X.w) X.A (.compLoop (.ListComp elt [⟨tg, iter, ifs, 0⟩] scope pos) 0 (.ref it) (.ref s.heap.objs.size) (compEnvC scope (clOf X.env.cells scope.names []) H2.objs.size X.env))
        (RR (.ref s.heap.objs.size) H2.objs.size) s₃ := by
    rintro s₃ rfl
    refine compLoop_any (fun n s' => ∃ i ρ H' ys, Inv (cxComp X scope H2.objs.size (x :: ns) s H fp) [] ρ H' s' ∧ tn i s'.heap ∧ (∀ b ∈ fp, H' b = none) ∧ W i n ys ρ H') ?_ m0 ⟨0, _, _, [], J0, st1, fr0, w0⟩
    rintro n s3 ⟨i, ρ, H3, ys, I3, st3, fr3, w3⟩
    obtain ⟨hD3, hw⟩ := turn i n ys ρ H3 w3
    rcases hw with ⟨stop, q⟩ | ⟨go, hlen, step⟩
    · refine thn (T.done (cxComp X scope H2.objs.size (x :: ns) s H fp) rfl rfl rfl hcalm i [] s3 ρ H3 (fun _ _ => False) I3 (stat fr3) st3 stop) fun r s4 ⟨hr, I4⟩ => ?_
      subst hr
      have I5 := I.uncomp f2 I4
      refine hR _ _ s4 H3 I5 (I.fpOk hCle I3.free) ?_ q
      obtain ⟨m, hn, _⟩ := I4.loc
      exact ⟨m, hn⟩
    · refine thn (T.item (cxComp X scope H2.objs.size (x :: ns) s H fp) rfl rfl rfl hcalm i [] s3 ρ H3 (fun _ _ => False) I3 (stat fr3) st3 go) fun r s4 ⟨u, hr, h4⟩ => ?_
      subst hr
      refine thn h4 fun _ s5 ⟨y, H5, I5, r5, y5, st5, fr5⟩ => ?_
      have I5' := I5.pinned (stat fr5) (T.obj _ _ st5)
      refine thn (hg H2.objs.size s H fp _ s5 ρ H5 y u _ I5' r5 (step y H5 y5)) fun _ s6 ⟨σ6, H6, I6, q6⟩ => ?_
      refine thn (hi H2.objs.size s H fp _ s6 σ6 H6 _ I6 q6) fun ok s7 ⟨H7, I7, q7⟩ => ?_
      have again : ∀ {s8 : Shared} {H8 : Hp} {zs : List V}, Inv (cxComp X scope H2.objs.size (x :: ns) s H fp) ([] ++ pinsAt fp s5.heap) σ6 H8 s8 → (∃ m', m' < n ∧ W (i + 1) m' zs σ6 H8) →
          ∃ m, m < n ∧ ∃ i ρ H' ys, Inv (cxComp X scope H2.objs.size (x :: ns) s H fp) [] ρ H' s8 ∧ tn i s8.heap ∧ (∀ b ∈ fp, H' b = none) ∧ W i m ys ρ H' := fun {s8 H8 zs} I8 ⟨m', hm, w8⟩ => by
        refine ⟨m', hm, i + 1, σ6, H8, zs, I8.unpinned, T.keep _ _ _ st5 fun b hb o e => (I8.pin (b, o) (List.mem_append_right _ (List.mem_append_right _ (mem_pinsAt hb e)))).1, fun b hb => ?_, w8⟩
        obtain ⟨o, e, d⟩ := T.obj _ _ st5 b hb
        exact (I8.pin (b, o) (List.mem_append_right _ (List.mem_append_right _ (mem_pinsAt hb e)))).2.1
      cases ok with
      | false =>
        rw [if_neg Bool.false_ne_true] at q7 ⊢
        exact again I7 q7
      | true =>
        rw [if_pos rfl] at q7 ⊢
        refine thn (he H2.objs.size s H fp _ s7 σ6 H7 _ I7 q7) fun v s8 ⟨y8, H8, I8, r8, hD8, q8⟩ => ?_
        obtain ⟨z8, its, n8, rv, e8⟩ := I8.hok _ _ hD8
        have hl := rv.length
        refine wpAny_list_append_plain (hsz := by rw [List.size_toArray]; omega) ⟨n8, e8⟩ fun h9 hp9 sb9 => ?_
        obtain ⟨n9, e9⟩ := hp9
        refine again (zs := ys ++ [y8]) (I8.write (x := s.heap.objs.size) (e := s.heap.objs.size) (o := .lst (ys ++ [y8])) (t' := s8.toks) (by rw [hD8]; trivial) (.inl rfl) (fun b o hb e => (sb9.2 b hb).trans e) ⟨_, e9⟩ ⟨by rw [List.length_append]; show ys.length + 1 ≤ sizeLine; omega, its ++ [v], n9, rv.append (.cons r8 .nil), ?_⟩) q8
        rw [e9]
        simp
  exact codeAny_compStart_list (loop _ rfl) (T.self _ 0 _ _ _ st1 (loop _ rfl))
theorem comp_tgt (N : CompNames X.env.scope X.N scope x ns idx) : ∀ C s₀ H₀ fp, PG (cxComp X scope C (x :: ns) s₀ H₀ fp) (.Name x px) (gName 0) := fun C s₀ H₀ fp =>
  pg_name (X := cxComp X scope C (x :: ns) s₀ H₀ fp) (i := 0) N.nd rfl (Or.inl (lookup_relabel_local N.tgt)) (.inr (lookup_relabel_local N.tgt))
/-- [elt for x in iter if ..] as a value -/
theorem pe_lc (N : CompNames X.env.scope X.N scope x ns idx) (hcalm : X.calm = true) (hw : PI X (.Name x px) iter wi)
    (hi : ∀ C s₀ H₀ fp, PIfs (cxComp X scope C (x :: ns) s₀ H₀ fp) ifs tt) (he : ∀ C s₀ H₀ fp, PE (cxComp X scope C (x :: ns) s₀ H₀ fp) elt te)
    (hs : ∀ x, foldedSetIterable iter X.env x = pure x := by intro _; rfl) : PE X (.ListComp elt [⟨.Name x px, iter, ifs, 0⟩] scope pos) (tLC wi idx (gName 0) tt te) := by
  intro pins s σ H Q I h
  rw [eval_ListComp]
  refine wpAny_comprehension_free (use := none) rfl hs (N.clos I.ok) N.kind N.loc (thn (hw pins s σ H _ I h) fun v s1 h1 => thn h1 fun itv s2 h2 => ?_)
  obtain ⟨it, fp, tn, J, H2, e, I2, T, st2, f2, q⟩ := h2
  subst e
  refine comp_core (RR := fun acc C => compPost (model X.prog X.w) X.A X.xe none (EP X pins σ Q) acc C) N hcalm (comp_tgt N) hi he I2 T st2 f2 q fun D C s' H' I' F' hm q' => ?_
  obtain ⟨m, hn⟩ := hm
  refine ⟨m, hn, fun h' hs' => ?_⟩
  obtain ⟨f0, f1, f3, f4, f5, f6⟩ := F'
  exact ⟨.ref D, H', I'.turned (t' := s'.toks) (fun b o hb e => (hs'.2 b hb).trans e) f0 f1 f4 f5 f6, rfl, q'⟩
/-- y = [elt for x in iter if ..] -/
theorem ps_setLC {i : Nat} {y : Str} {py spos : Pos} (N : CompNames X.env.scope X.N scope x ns idx) (hcalm : X.calm = true) (hN : X.N.Nodup) (hiy : X.N[i]? = some y) (hly : Loc X.env.scope y) (hw : PI X (.Name x px) iter wi)
    (hi : ∀ C s₀ H₀ fp, PIfs (cxComp X scope C (x :: ns) s₀ H₀ fp) ifs tt) (he : ∀ C s₀ H₀ fp, PE (cxComp X scope C (x :: ns) s₀ H₀ fp) elt te)
    (hsw : swapsWith (.ListComp elt [⟨.Name x px, iter, ifs, 0⟩] scope pos) (some (.Name y py)) spos.line X.env = pure true) (hf : X.fn y = true ∨ X.env.scope.names.lookup y = some .local := by first | exact .inl rfl | exact .inr rfl | assumption)
    (hs : ∀ x, foldedSetIterable iter X.env x = pure x := by intro _; rfl) : PS X (.Assign [.Name y py] (.ListComp elt [⟨.Name x px, iter, ifs, 0⟩] scope pos) spos) (tAsg (tLC wi idx (gName 0) tt te) (gName i)) := by
  intro pins s σ H D I h
  rw [exec_Assign_Name_used _ _ _ _ hsw]
  refine wpAny_bind (wpAny_standAt (wpAny_bind ?_))
  show wpAny _ X.A (do let _ ← comprehension (.ListComp elt [⟨.Name x px, iter, ifs, 0⟩] scope pos) scope X.env _ (newList []) false (eval iter X.env) (some (assign (.Name y py) X.env))) _ _ s
  refine wpAny_bind (wpAny_mono (wpAny_comprehension_free (use := some (assign (.Name y py) X.env)) (Q := fun _ s' => SP X pins D .next s') rfl hs (N.clos I.ok) N.kind N.loc
    (thn (hw pins s σ H _ I h) fun v s1 h1 => thn h1 fun itv s2 h2 => ?_)) (fun _ s' hq => wpAny_pure (wpAny_pure hq)) fun _ _ e => e)
  obtain ⟨it, fp, tn, J, H2, e, I2, T, st2, f2, q⟩ := h2
  subst e
  refine comp_core (Q := fun x H1 => gName i x σ H1 D.nx) (RR := fun acc C => compPost (model X.prog X.w) X.A X.xe (some (assign (.Name y py) X.env)) (fun _ s' => SP X pins D .next s') acc C) N hcalm (comp_tgt N) hi he I2 T st2 f2 q fun E C s' H' I' F' hm q' => ?_
  obtain ⟨m, hn⟩ := hm
  obtain ⟨f0, f1, f3, f4, f5, f6⟩ := F'
  show wpAny _ X.A (assign (.Name y py) X.env (.ref E)) _ _ s'
  refine wpAny_assign_Name (store_ok2 I' hN hiy hly (show RelV (.ref E) (.ref E) from rfl) (fun s'' I'' hsb => ?_) hf)
  obtain ⟨a, sb, ha⟩ := hsb
  have hCa : C ≠ a := by
    rcases ha with z | z
    · rw [z]; exact f1
    · exact fun e => f5 y a z e.symm
  refine ⟨m, hn.sameBut sb hCa, fun h' hs' => ?_⟩
  exact ⟨_, H', I''.turned (t' := s''.toks) (fun b o hb e => (hs'.2 b hb).trans e) f0 f1 f4 f5 f6, q'⟩
end

/-! ### the forms one uses: tests and elements that leave the heap as it is -/
theorem lc_list {K : PySem.W.Frag} {a : Addr} {xs : List V} {idx : List Nat} {tt : TT} {te : TE} {σ : St} {H : Hp} {Q : VK} (p : V → Bool) (f : V → V) (hq : SqL K H a xs) (hl : xs.length ≤ sizeLine)
    (ht : ∀ x ∈ xs, ∀ D ys (R : Bool → Hp → Prop), H D = none → R (p x) (upd H D (.lst ys)) → tt (some x :: cap σ idx) (upd H D (.lst ys)) R)
    (he : ∀ x ∈ xs, p x = true → ∀ D ys (R : VK), H D = none → R (f x) (upd H D (.lst ys)) → te (some x :: cap σ idx) (upd H D (.lst ys)) R)
    (hQ : ∀ D, H D = none → Q (.ref D) (upd H D (.lst ((xs.filter p).map f)))) :
    LCW idx (Itl K a) (gName 0) tt te Q σ H := by
  intro D hD
  refine ⟨fun i m ys ρ H' => m = xs.length - i ∧ i ≤ xs.length ∧ ys = ((xs.take i).filter p).map f ∧ (∃ y0, ρ = y0 :: cap σ idx) ∧ H' = upd H D (.lst ys), ⟨xs.length, by simp, Nat.zero_le _, by simp, ⟨none, rfl⟩, rfl⟩, ?_⟩
  rintro i m ys ρ H' ⟨rfl, hi, hys, ⟨y0, rfl⟩, rfl⟩
  refine ⟨upd_same, ?_⟩
  have hqD : ∀ zs, SqL K (upd H D (.lst zs)) a xs := fun zs => by
    rcases hq with (h | ⟨o, h⟩) | h
    · exact .inl (.inl (by rw [upd_ne (ne_of_none h hD)]; exact h))
    · exact .inl (.inr ⟨o, by rw [upd_ne (ne_of_none h hD)]; exact h⟩)
    · exact .inr h
  by_cases hlt : i < xs.length
  · refine .inr ⟨⟨xs, xs[i], hqD ys, by simp [hlt]⟩, ?_, fun x H' y => ?_⟩
    · rw [hys, List.length_map]
      have h1 := List.length_filter_le p (xs.take i)
      have h2 : (xs.take i).length = i := by rw [List.length_take]; omega
      omega
    · obtain ⟨e, y⟩ := y
      subst e
      have hx : xs[i]? = some x := y xs (hqD ys)
      have hmem : x ∈ xs := List.mem_of_getElem? hx
      have htk : xs.take (i + 1) = xs.take i ++ [x] := by rw [List.take_add_one, hx]; rfl
      show tt (some x :: cap σ idx) (upd H D (.lst ys)) _
      refine ht x hmem D ys _ hD ?_
      cases hp : p x with
      | true =>
        rw [if_pos rfl]
        refine he x hmem hp D ys _ hD ⟨upd_same, xs.length - (i + 1), by omega, rfl, hlt, ?_, ⟨some x, rfl⟩, upd_upd⟩
        rw [htk, List.filter_append, List.map_append, hys]
        simp [hp]
      | false =>
        rw [if_neg Bool.false_ne_true]
        refine ⟨xs.length - (i + 1), by omega, rfl, hlt, ?_, ⟨some x, rfl⟩, rfl⟩
        rw [htk, List.filter_append, List.map_append, hys]
        simp [hp]
  · have e : i = xs.length := by omega
    subst e
    refine .inl ⟨⟨xs, hqD ys, Nat.le_refl _⟩, ?_⟩
    rw [hys, List.take_length]
    exact hQ D hD
/-- lo, lo + 1, .. -/
def iotaZ (lo : Int) (n : Nat) : List Int := (List.range n).map fun (i : Nat) => lo + (i : Int)
theorem lc_range {lo : Int} {n : Nat} {idx : List Nat} {tt : TT} {te : TE} {σ : St} {H : Hp} {Q : VK} (p : Int → Bool) (f : Int → V) (hl : n ≤ sizeLine)
    (ht : ∀ x, lo ≤ x → x < lo + n → ∀ D ys (R : Bool → Hp → Prop), H D = none → R (p x) (upd H D (.lst ys)) → tt (some (.int x) :: cap σ idx) (upd H D (.lst ys)) R)
    (he : ∀ x, lo ≤ x → x < lo + n → p x = true → ∀ D ys (R : VK), H D = none → R (f x) (upd H D (.lst ys)) → te (some (.int x) :: cap σ idx) (upd H D (.lst ys)) R)
    (hQ : ∀ D, H D = none → Q (.ref D) (upd H D (.lst (((iotaZ lo n).filter p).map f)))) :
    LCW idx (Itr lo n) (gName 0) tt te Q σ H := by
  intro D hD
  refine ⟨fun i m ys ρ H' => m = n - i ∧ i ≤ n ∧ ys = ((iotaZ lo i).filter p).map f ∧ (∃ y0, ρ = y0 :: cap σ idx) ∧ H' = upd H D (.lst ys), ⟨n, by simp, Nat.zero_le _, by simp [iotaZ], ⟨none, rfl⟩, rfl⟩, ?_⟩
  rintro i m ys ρ H' ⟨rfl, hi, hys, ⟨y0, rfl⟩, rfl⟩
  refine ⟨upd_same, ?_⟩
  by_cases hlt : i < n
  · refine .inr ⟨hlt, ?_, fun x H' y => ?_⟩
    · rw [hys, List.length_map]
      have h1 := List.length_filter_le p (iotaZ lo i)
      have h2 : (iotaZ lo i).length = i := by simp [iotaZ]
      omega
    · obtain ⟨e, y⟩ := y
      subst e y
      have htk : iotaZ lo (i + 1) = iotaZ lo i ++ [lo + (i : Int)] := by simp [iotaZ, List.range_succ]
      show tt (some (.int (lo + i)) :: cap σ idx) (upd H D (.lst ys)) _
      refine ht (lo + i) (by omega) (by omega) D ys _ hD ?_
      cases hp : p (lo + i) with
      | true =>
        rw [if_pos rfl]
        refine he (lo + i) (by omega) (by omega) hp D ys _ hD ⟨upd_same, n - (i + 1), by omega, rfl, hlt, ?_, ⟨_, rfl⟩, upd_upd⟩
        rw [htk, List.filter_append, List.map_append, hys]
        simp [hp]
      | false =>
        rw [if_neg Bool.false_ne_true]
        refine ⟨n - (i + 1), by omega, rfl, hlt, ?_, ⟨_, rfl⟩, rfl⟩
        rw [htk, List.filter_append, List.map_append, hys]
        simp [hp]
  · have e : i = n := by omega
    subst e
    refine .inl ⟨Nat.le_refl _, ?_⟩
    rw [hys]
    exact hQ D hD
end L2

set_option Elab.async false
set_option linter.all false
set_option maxRecDepth 100000
/-! Data read off the abstract heap, and the calls and comparisons that the hand layer lacks. -/
namespace L2
open PySem PySem.Spec PyProof.Rows
open PySem.SeqAt (noMix noMixAll)

/-! ### data -/
mutual
/-- the value is that datum -/
def Is (K : PySem.W.Frag) (H : Hp) : PyData → V → Prop
  | .none, v => v = .non
  | .bool b, v => v = .bl b
  | .int i, v => v = .int i
  | .str x, v => v = .str x
  | .list ds, v => ∃ a xs, v = .ref a ∧ SqL K H a xs ∧ IsAll K H ds xs
  | .tuple ds, v => ∃ a xs, v = .ref a ∧ SqT K H a xs ∧ IsAll K H ds xs
  | .dict _, _ => False
def IsAll (K : PySem.W.Frag) (H : Hp) : List PyData → List V → Prop
  | [], xs => xs = []
  | d :: ds, xs => ∃ y ys, xs = y :: ys ∧ Is K H d y ∧ IsAll K H ds ys
end
section
variable {X : Cx} {pins : List (Addr × Obj)} {σ : St} {H : Hp} {s : Shared}
mutual
theorem Is.reads (I : Inv X pins σ H s) : ∀ (d : PyData) (v : V) (u : Value), Is X.K H d v → RelV v u → ∃ as, Reads s.heap u d as
  | .none, v, u, h, r => by
    have h' : v = .non := by simpa only [Is] using h
    subst h'; cases (show u = Value.none from r); exact ⟨_, .none⟩
  | .bool b, v, u, h, r => by
    have h' : v = .bl b := by simpa only [Is] using h
    subst h'; cases (show u = Value.bool b from r); exact ⟨_, .bool b⟩
  | .int i, v, u, h, r => by
    have h' : v = .int i := by simpa only [Is] using h
    subst h'; obtain ⟨t, rfl⟩ := (show ∃ t, u = Value.int i t from r); exact ⟨_, .int i t⟩
  | .str x, v, u, h, r => by
    have h' : v = .str x := by simpa only [Is] using h
    subst h'; obtain ⟨t, rfl⟩ := (show ∃ t, u = Value.str x t from r); exact ⟨_, .str x t⟩
  | .list ds, v, u, h, r => by
    have h' : ∃ a xs, v = .ref a ∧ SqL X.K H a xs ∧ IsAll X.K H ds xs := by simpa only [Is] using h
    obtain ⟨a, xs, rfl, hq, ha⟩ := h'
    cases (show u = Value.ref a from r)
    obtain ⟨its, rv, ⟨o, n, e, hc, _, hd⟩, _⟩ := I.list hq
    obtain ⟨as, ra⟩ := IsAll.reads I ds xs its ha rv
    exact ⟨_, .list e hc hd (by simpa using ra)⟩
  | .tuple ds, v, u, h, r => by
    have h' : ∃ a xs, v = .ref a ∧ SqT X.K H a xs ∧ IsAll X.K H ds xs := by simpa only [Is] using h
    obtain ⟨a, xs, rfl, hq, ha⟩ := h'
    cases (show u = Value.ref a from r)
    obtain ⟨its, rv, ⟨o, e, hc, n, hd⟩, _⟩ := I.tuple hq
    obtain ⟨as, ra⟩ := IsAll.reads I ds xs its ha rv
    exact ⟨_, .tuple e hc hd (by simpa using ra)⟩
  | .dict _, v, u, h, r => by
    have h' : False := by simpa only [Is] using h
    exact h'.elim
theorem IsAll.reads (I : Inv X pins σ H s) : ∀ (ds : List PyData) (xs : List V) (us : List Value), IsAll X.K H ds xs → Vals xs us → ∃ as, ReadsAll s.heap us ds as
  | [], xs, us, h, r => by
    have h' : xs = [] := by simpa only [IsAll] using h
    subst h'; cases r; exact ⟨_, .nil⟩
  | d :: ds, xs, us, h, r => by
    have h' : ∃ y ys, xs = y :: ys ∧ Is X.K H d y ∧ IsAll X.K H ds ys := by simpa only [IsAll] using h
    obtain ⟨y, ys, rfl, h1, h2⟩ := h'
    cases r with
    | cons r1 r2 =>
      obtain ⟨as, q1⟩ := Is.reads I d y _ h1 r1
      obtain ⟨bs, q2⟩ := IsAll.reads I ds ys _ h2 r2
      exact ⟨_, .cons q1 q2⟩
end
end
mutual
/-- neither bools nor dicts -/
def noBl : PyData → Bool
  | .bool _ => false
  | .dict _ => false
  | .list ds => noBls ds
  | .tuple ds => noBls ds
  | .none => true
  | .int _ => true
  | .str _ => true
def noBls : List PyData → Bool
  | [] => true
  | d :: ds => noBl d && noBls ds
end
mutual
theorem noMix_of : ∀ d e : PyData, noBl d = true → noBl e = true → noMix d e = true
  | .bool _, _, h, _ => by simp [noBl] at h
  | .dict _, _, h, _ => by simp [noBl] at h
  | .none, e, _, h => by cases e <;> simp_all [noMix, noBl]
  | .int _, e, _, h => by cases e <;> simp_all [noMix, noBl]
  | .str _, e, _, h => by cases e <;> simp_all [noMix, noBl]
  | .list ds, e, h, h' => by
    cases e with
    | list es => simp only [noMix]; simp only [noBl] at h h'; exact noMixAll_of ds es h h'
    | bool _ => simp [noBl] at h'
    | dict _ => simp [noBl] at h'
    | _ => simp [noMix]
  | .tuple ds, e, h, h' => by
    cases e with
    | tuple es => simp only [noMix]; simp only [noBl] at h h'; exact noMixAll_of ds es h h'
    | bool _ => simp [noBl] at h'
    | dict _ => simp [noBl] at h'
    | _ => simp [noMix]
theorem noMixAll_of : ∀ ds es : List PyData, noBls ds = true → noBls es = true → noMixAll ds es = true
  | [], es, _, _ => by cases es <;> simp [noMixAll]
  | d :: ds, [], _, _ => by simp [noMixAll]
  | d :: ds, e :: es, h, h' => by
    simp only [noBls, Bool.and_eq_true] at h h'
    simp only [noMixAll, Bool.and_eq_true]
    exact ⟨noMix_of d e h.1 h'.1, noMixAll_of ds es h.2 h'.2⟩
end
/-- a datum that can be compared -/
def Cmp (d : PyData) : Prop := SeqAt.shaped d = true ∧ noBl d = true
section
variable {X : Cx}
def rEqD (K : PySem.W.Frag) : R2 := fun x y H Q => ∃ d e, Is K H d x ∧ Is K H e y ∧ Cmp d ∧ Cmp e ∧ Q (.bl (same d e)) H
def rNeD (K : PySem.W.Frag) : R2 := fun x y H Q => ∃ d e, Is K H d x ∧ Is K H e y ∧ Cmp d ∧ Cmp e ∧ Q (.bl (!same d e)) H
theorem op_eqD (hu : X.A.units + 64 < cLine) : OpR X (compareOp .Eq) (rEqD X.K) := by
  intro pins s σ H x y v u Q I rx ry h
  obtain ⟨d, e, h1, h2, c1, c2, q⟩ := h
  obtain ⟨as, ra⟩ := Is.reads I d x v h1 rx
  obtain ⟨bs, rb⟩ := Is.reads I e y u h2 ry
  exact eq_dataH_same ra rb c1.1 c2.1 hu (noMix_of d e c1.2 c2.2) ⟨.bl _, H, I, rfl, q⟩
theorem op_neD (hu : X.A.units + 64 < cLine) : OpR X (compareOp .NotEq) (rNeD X.K) := by
  intro pins s σ H x y v u Q I rx ry h
  obtain ⟨d, e, h1, h2, c1, c2, q⟩ := h
  obtain ⟨as, ra⟩ := Is.reads I d x v h1 rx
  obtain ⟨bs, rb⟩ := Is.reads I e y u h2 ry
  exact ne_dataH_same ra rb c1.1 c2.1 hu (noMix_of d e c1.2 c2.2) ⟨.bl _, H, I, rfl, q⟩

/-! ### isinstance -/
def isT (t c : String) : Bool := t == c || (t == "bool" && c == "int")
def rIsi (K : PySem.W.Frag) : List V → Hp → VK → Prop := fun xs H Q => ∃ x T t b, xs = [x, .ty T] ∧ TyOf K H x t ∧ PySem.W.kitOne K t (.type T) = some b ∧ Q (.bl b) H
theorem call_isi : CallR X (.builtin "isinstance") (rIsi X.K) := by
  intro pins s σ H xs us Q I r h
  obtain ⟨x, T, t, b, rfl, ty, e, q⟩ := h
  obtain ⟨u, w', rfl, rx, rt⟩ := vals2 r
  cases (show w' = Value.type T from rt)
  exact isinst_ok I rx ty e fun tk => ⟨.bl b, H, I.tok tk, rfl, q⟩

/-! ### min of a list -/
theorem call_minL (hc : X.calm = true) : CallR X (.builtin "min") (fun xs H Q => ∃ p ns, xs = [.ref p] ∧ SqL X.K H p (ns.map V.int) ∧ ns ≠ [] ∧ ∀ M, M ∈ ns → (∀ a ∈ ns, M ≤ a) → Q (.int M) H) := by
  intro pins s σ H xs us Q I r h
  obtain ⟨p, ns, rfl, hq, hne, q⟩ := h
  obtain ⟨u, rfl, ru⟩ := vals1 r
  cases (show u = Value.ref p from ru)
  obtain ⟨its, rv, pl, hz⟩ := I.list hq
  have hi : IntsAre its ns := intsAre_of rv
  obtain ⟨zs, hzs⟩ := hi.allInts.items
  have hpl := pl.isList
  rw [hzs] at hpl
  have hsz : 0 < zs.size := by
    have e1 : its.length = ns.length := by have := rv.length; rw [List.length_map] at this; omega
    have e2 : 0 < ns.length := by cases ns with | nil => exact absurd rfl hne | cons _ _ => simp
    have e3 : its.toArray.size = zs.size := by rw [hzs]; simp [intItems]
    rw [List.size_toArray] at e3; omega
  have hnum : ns = numsOf its := hi.numsOf.symm
  have hnum2 : numsOf its = zs.toList.map (·.1) := by
    have := nums_intItems zs
    rw [← hzs] at this
    simpa using this
  refine min_intList (I.ok.hd hc) hpl hsz fun v h' tk hv hk => ?_
  obtain ⟨t, rfl⟩ := intItems_at hv
  obtain ⟨h1, h2⟩ := argBest_lt (numAt zs) (zs.size - 1)
  refine ⟨.int _, H, I.kept hk, ⟨t, rfl⟩, q _ ?_ fun a ha => ?_⟩
  · rw [hnum, hnum2, numAt_eq]; exact getD_mem (by rw [List.length_map, Array.length_toList]; omega)
  · rw [hnum, hnum2] at ha
    obtain ⟨j, hj, rfl⟩ := mem_getD ha
    rw [List.length_map, Array.length_toList] at hj
    rw [← numAt_eq]; exact h2 j (by omega)

/-! ### int(text), text * n -/
theorem call_intS : CallR X (.type "int") (fun xs H Q => ∃ x n, xs = [.str x] ∧ PySem.intText? x = some n ∧ x.length ≤ 640 ∧ Q (.int n) H) := by
  intro pins s σ H xs us Q I r h
  obtain ⟨x, n, rfl, e, hl, q⟩ := h
  obtain ⟨u, rfl, t, rfl⟩ := vals1 r
  exact PySem.W.KIN.call_text e hl ⟨.int n, H, I.tok _, ⟨_, rfl⟩, q⟩
def repS (x : Str) (n : Nat) : Str := ⟨(List.replicate n x.cps).foldl (· ++ ·) #[]⟩
theorem op_mulS : OpR X (binaryOp .Mult) (fun x y H Q => ∃ z n, x = .str z ∧ y = .int n ∧ 2 ≤ n ∧ n ≤ 10000 ∧ z.length = 1 ∧ (repS z n.toNat).length ≤ sizeLine ∧ Q (.str (repS z n.toNat)) H) := by
  intro pins s σ H x y v u Q I rx ry h
  obtain ⟨z, n, rfl, rfl, h2, hn, hz, hl, q⟩ := h
  obtain ⟨t, rfl⟩ := rx
  obtain ⟨t', rfl⟩ := ry
  have c1 : ¬ n < 1 := by omega
  have c2 : (n == 1 || z.length == 0) = false := by
    rw [hz]
    have : (n == 1) = false := by simpa using (show n ≠ 1 by omega)
    rw [this]; rfl
  have hs : sizeLine = 16777216 := sizeLine_eq
  refine PySem.P.mul_str ?_ (fun _ _ => ?_) (fun _ _ => ?_) ?_
  · rw [decide_eq_false (show ¬ n < -(2 ^ 63 : Int) by omega), decide_eq_false (show ¬ n ≥ 2 ^ 63 by omega)]; rfl
  · rw [hz]
    intro hgt
    have h3 : ((2 ^ 63 - 1 : Int) / n) ≥ 1 := by
      have : (n : Int) * 1 ≤ 2 ^ 63 - 1 := by omega
      exact Int.le_ediv_of_mul_le (by omega) (by omega)
    have h4 : ((1 : Nat) : Int) > (2 ^ 63 - 1) / n := hgt
    omega
  · rw [hz, Nat.one_mul]
    unfold Builtin.Str.tooLong
    exact decide_eq_false (by omega)
  · rw [if_neg c1, if_neg (by rw [c2]; decide)]
    exact ⟨hl, ⟨.str _, H, I.tok _, ⟨_, rfl⟩, q⟩⟩
end

/-! ### a def of the text, for its callers -/
structure Fn (P : Program) (w : World) (K : PySem.W.Frag) (mg : Str → Option Value) (base : Heap) (x : Str) (k : Nat) (sp : Sp) : Prop where
  ex : ∃ (f : Addr) (fd : FuncData) (ps : List Str), FnOk P w K mg base CX0 k f fd ps sp ∧ mg x = some (.ref f) ∧ PySem.W.keepIn K (.ref f) = true ∧ Binds K fd ps []
theorem Fn.mk' {P : Program} {w : World} {K : PySem.W.Frag} {mg : Str → Option Value} {base : Heap} {x : Str} {k : Nat} {sp : Sp} {f : Addr} {fd : FuncData} {ps : List Str} (ok : FnOk P w K mg base CX0 k f fd ps sp) (m : mg x = some (.ref f))
    (kp : PySem.W.keepIn K (.ref f) = true) (b : Binds K fd ps []) : Fn P w K mg base x k sp := ⟨f, fd, ps, ok, m, kp, b⟩
section
variable {X : Cx} {x : Str} {p pos : Pos} {e : Expr} {es : List Expr} {t : TA} {k j : Nat} {sp : Sp}
theorem pe_fn (G : Fn X.prog X.w X.K X.mg X.base x j sp) (hr : Room k X.A) (hg : Gl X x) (ha : PA X (e :: es) t) (hj : j ≤ k := by decide) (hdb : (x == ("__debug__" : Str)) = false := by decide)
    (he : starEach (e :: es) X.env = (false, eval e X.env) :: starEach es X.env := by rfl) (hpl : (backTo pos (starEach es X.env)).any (·.1) = false := by rfl) : PE X (.Call (.Name x p) (e :: es) [] pos) (tCall sp [] E0 t) := by
  obtain ⟨f, fd, ps, F, hm, hk, hb⟩ := G.ex
  exact pe_call F (hr.mono hj) hg hm hk hb .nil pass0 ha hdb he hpl
end

/-! ### which built-in is which -/
theorem kit_ii {K : PySem.W.Frag} : PySem.W.kitOne K (.type "int") (.type "int") = some true := by rfl
theorem kit_ib {K : PySem.W.Frag} : PySem.W.kitOne K (.type "int") (.type "bool") = some false := by rfl
theorem kit_bb {K : PySem.W.Frag} : PySem.W.kitOne K (.type "bool") (.type "bool") = some true := by rfl
theorem kit_ll {K : PySem.W.Frag} : PySem.W.kitOne K (.type "list") (.type "list") = some true := by rfl

/-! ### the same rules with the fragment named (inside a block's context) -/
section
variable {X : Cx}
theorem ix_listK (K : PySem.W.Frag) (h : X.K = K := by rfl) : IxR X (rIxL K) := h ▸ ix_list
theorem ix_tupK (K : PySem.W.Frag) (h : X.K = K := by rfl) : IxR X (rIxT K) := h ▸ ix_tup
theorem ix_seqK (K : PySem.W.Frag) (h : X.K = K := by rfl) : IxR X (rIx K) := h ▸ ix_seq
theorem sl_listK (K : PySem.W.Frag) (h : X.K = K := by rfl) : SlR X (rSlL K) := h ▸ sl_list
theorem op_in_seqK (K : PySem.W.Frag) (h : X.K = K := by rfl) : OpR X (compareOp .In) (rIn K false) := h ▸ op_in_seq
theorem op_notIn_seqK (K : PySem.W.Frag) (h : X.K = K := by rfl) : OpR X (compareOp .NotIn) (rIn K true) := h ▸ op_notIn_seq
theorem call_isiK (K : PySem.W.Frag) (h : X.K = K := by rfl) : CallR X (.builtin "isinstance") (rIsi K) := h ▸ call_isi
theorem call_len_seqK (K : PySem.W.Frag) (h : X.K = K := by rfl) : CallR X (.builtin "len") (fun xs H Q => ∃ p ys, xs = [.ref p] ∧ (SqL K H p ys ∨ SqT K H p ys) ∧ Q (.int ys.length) H) := h ▸ call_len_seq
end
/-! ### tests that are known -/
theorem iteN {c A B : Prop} [Decidable c] (h : ¬ c) (b : B) : if c then A else B := by rw [if_neg h]; exact b
theorem iteP {c A B : Prop} [Decidable c] (h : c) (a : A) : if c then A else B := by rw [if_pos h]; exact a
theorem iteDN {c A B : Prop} [Decidable c] (h : ¬ c) (b : B) : if decide c = true then A else B := iteN (by rw [decide_eq_true_eq]; exact h) b
theorem iteDP {c A B : Prop} [Decidable c] (h : c) (a : A) : if decide c = true then A else B := iteP (decide_eq_true h) a
theorem iteD {c A B : Prop} [Decidable c] (h1 : c → A) (h2 : ¬ c → B) : if decide c = true then A else B := by
  by_cases h : c
  · exact iteDP h (h1 h)
  · exact iteDN h (h2 h)

/-! ### places -/
theorem at0 {α : Type} {x : α} {r : List α} : atI (x :: r) 0 = some x := atI_nat (j := 0) rfl
theorem at1 {α : Type} {x y : α} {r : List α} : atI (x :: y :: r) 1 = some y := atI_nat (j := 1) rfl
theorem at2 {α : Type} {x y z : α} {r : List α} : atI (x :: y :: z :: r) 2 = some z := atI_nat (j := 2) rfl
theorem at3 {α : Type} {x y z w : α} {r : List α} : atI (x :: y :: z :: w :: r) 3 = some w := atI_nat (j := 3) rfl
theorem atI_in {α : Type} {xs : List α} {i : Int} (h0 : 0 ≤ i) (h1 : i < xs.length) : ∃ v, atI xs i = some v ∧ xs[i.toNat]? = some v := by
  have hl : i.toNat < xs.length := by omega
  refine ⟨xs[i.toNat], ?_, by simp [hl]⟩
  have e : ((i.toNat : Nat) : Int) = i := by omega
  have := atI_nat (j := i.toNat) (v := xs[i.toNat]) (xs := xs) (by simp [hl])
  rw [e] at this
  exact this

/-! ### heaps that grow -/
theorem Same.upd {H : Hp} {a : Addr} {o : HO} (h : H a = none) : Same H (L2.upd H a o) := fun b u e => by rw [upd_ne (ne_of_none e h)]; exact e
theorem Same.tup {K : PySem.W.Frag} {H H' : Hp} {a : Addr} {xs : List V} (e : Same H H') (h : SqT K H a xs) : SqT K H' a xs := by
  rcases h with (h | ⟨o, h⟩) | h
  · exact .inl (.inl (e _ _ h))
  · exact .inl (.inr ⟨o, e _ _ h⟩)
  · exact .inr h
theorem inV_ints (i : Int) : ∀ gs : List Int, inV (.int i) (gs.map V.int) = gs.any fun g => g == i
  | [] => rfl
  | g :: r => by
    have := inV_ints i r
    unfold inV at this ⊢
    rw [List.map_cons, List.any_cons, List.any_cons, this]
    rfl
theorem flat_ints : ∀ gs : List Int, (gs.map V.int).all flatV = true
  | [] => rfl
  | g :: r => by
    rw [List.map_cons, List.all_cons, flat_ints r]
    rfl
/-! ### data of ints -/
theorem isAll_ints {K : PySem.W.Frag} {H : Hp} : ∀ ns : List Int, IsAll K H (ns.map PyData.int) (ns.map V.int)
  | [] => by simp [IsAll]
  | n :: r => by
    rw [List.map_cons, List.map_cons]
    simp only [IsAll]
    exact ⟨_, _, rfl, by simp [Is], isAll_ints r⟩
theorem is_ints {K : PySem.W.Frag} {H : Hp} {a : Addr} {ns : List Int} (h : SqL K H a (ns.map V.int)) : Is K H (.list (ns.map PyData.int)) (.ref a) := by
  simp only [Is]
  exact ⟨a, _, rfl, h, isAll_ints ns⟩
theorem noBls_ints : ∀ ns : List Int, noBls (ns.map PyData.int) = true
  | [] => by simp [noBls]
  | n :: r => by simp [noBls, noBl, noBls_ints r]
theorem cmp_ints (ns : List Int) : Cmp (.list (ns.map PyData.int)) := ⟨PySem.W.ke_shaped_ints ns, by simp only [noBl]; exact noBls_ints ns⟩
theorem same_ints' (ns ms : List Int) : same (.list (ns.map PyData.int)) (.list (ms.map PyData.int)) = decide (ns = ms) := PySem.W.ke_same ns ms
end L2

set_option Elab.async false
set_option linter.all false
set_option maxRecDepth 100000
namespace L2
open PySem PySem.Spec PyProof.Rows

/-! ### an exception on its way: at e, of the class C, its newest trace at T; fl: none, or the frame that holds it (it came out of a loop there) -/
def Flies (h : Heap) (e T : Addr) (C fl : Value) : Prop :=
  ∃ oe vs oT ts a0, h.get? e = some oe ∧ (oe.cls = C ∧ vs[0]? = some a0) ∧ oe.data = .fields vs ∧ vs[1]? = some (.ref T) ∧ T ≠ e ∧ h.get? T = some oT ∧ oT.data = .fields ts ∧ ts[3]? = some fl
/-- .. not yet traced -/
def Made (h : Heap) (e : Addr) (C : Value) : Prop := ∃ oe vs a0, h.get? e = some oe ∧ (oe.cls = C ∧ vs[0]? = some a0) ∧ oe.data = .fields vs ∧ vs[1]? = some .none
/-- what a step of it leaves as it was: all but Z; of the frames the slots may change -/
structure Fl (fr Z : List Addr) (h h' : Heap) : Prop where
  keep : ∀ b o, b ∉ Z → b ∉ fr → h.get? b = some o → h'.get? b = some o
  slot : ∀ b o, b ∈ fr → h.get? b = some o → ∃ sl, h'.get? b = some { o with slots := sl }
/-- an address of nobody else -/
structure Ls (X : Cx) (pins : List (Addr × Obj)) (H : Hp) (z : Addr) : Prop where
  un : H z = none
  new : X.s₀.heap.get? z = none
  loc : z ≠ X.env.locals
  cell : ∀ x c, X.env.cells.lookup x = some c → c ≠ z
  pin : ∀ p ∈ X.pn ++ pins, p.1 ≠ z
theorem ObjOk.here {P : Program} {w : World} {H : Hp} {h : Heap} {a : Addr} {o : HO} (x : ObjOk P w H h a o) : ∃ ob, h.get? a = some ob := by
  cases o with
  | lst xs => obtain ⟨_, _, _, _, e⟩ := x; exact ⟨_, e⟩
  | tup xs => obtain ⟨_, _, _, _, e, _⟩ := x; exact ⟨_, e⟩
  | dK kvs => obtain ⟨_, _, _, _, o, _, _, e, _⟩ := x; exact ⟨_, e⟩
  | dT kvs => obtain ⟨_, _, _, _, o, _, _, e, _⟩ := x; exact ⟨_, e⟩
  | set S n => obtain ⟨o, _, _, _, e, _⟩ := x; exact ⟨_, e⟩
  | ins C dx fs => obtain ⟨_, _, _, e, _⟩ := x; exact ⟨_, e⟩
  | own y => obtain ⟨_, e⟩ := x; exact ⟨_, e⟩
  | xd fs => obtain ⟨_, ⟨_, _, _, e, _⟩, _⟩ := x; exact ⟨_, e⟩
  | rng lo hi => obtain ⟨_, _, _, e⟩ := x; exact ⟨_, e⟩
  | frz ob u => obtain ⟨e, _⟩ := x; exact ⟨_, e⟩
  | tbl ps => exact ⟨_, (show h.get? a = some _ from x)⟩
  | met f y => exact ⟨_, (show h.get? a = some _ from x)⟩
  | ext φ => obtain ⟨_, ⟨_, e⟩, _⟩ := x; exact ⟨_, e⟩
section
variable {X : Cx} {pins : List (Addr × Obj)} {σ : St} {H : Hp} {s : Shared} {h' : Heap}
theorem Inv.old {z : Addr} (I : Inv X pins σ H s) (hz : s.heap.get? z = none) (hx : z ∉ X.ex) : X.s₀.heap.get? z = none := by
  cases e : X.s₀.heap.get? z with
  | none => rfl
  | some o => obtain ⟨o', q⟩ := I.base.there z o e hx; rw [hz] at q; cases q
theorem Inv.un' {z : Addr} (I : Inv X pins σ H s) (hz : s.heap.get? z = none) : H z = none := by
  cases e : H z with
  | none => rfl
  | some o => obtain ⟨ob, q⟩ := (I.hok z o e).here; rw [hz] at q; cases q
/-- a new address is nobody's -/
theorem Inv.ls {z : Addr} (I : Inv X pins σ H s) (hz : s.heap.get? z = none) (hx : z ∉ X.ex) : Ls X pins H z := by
  refine ⟨I.un' hz, I.old hz hx, fun q => ?_, fun x c e q => ?_, fun p hp q => ?_⟩
  · obtain ⟨m, ⟨o, _, _, ho, _⟩, _⟩ := I.loc
    rw [← q, hz] at ho; cases ho
  · obtain ⟨v, o, ho, _⟩ := I.cell x c e
    rw [q, hz] at ho; cases ho
  · have := (I.pin p hp).1
    rw [q, hz] at this; cases this
theorem Inv.fly {Z : List Addr} (I : Inv X pins σ H s) (hz : ∀ z ∈ Z, Ls X pins H z) (f : Fl (frs X.stack) Z s.heap h') : Inv X pins σ H { s with heap := h' } := by
  have tr : ∀ b o, H b = some o → b ∉ Z ∧ b ∉ frs X.stack := fun b o e => by
    refine ⟨fun q => ?_, fun q => ?_⟩
    · have := (hz b q).un; rw [e] at this; cases this
    · have := I.stkFree b q; rw [e] at this; cases this
  have any : ∀ b o, b ∉ Z → s.heap.get? b = some o → ∃ sl, h'.get? b = some { o with slots := sl } := fun b o hb e => by
    by_cases q : b ∈ frs X.stack
    · exact f.slot b o q e
    · exact ⟨o.slots, f.keep b o hb q e⟩
  have nz : ∀ b o, X.s₀.heap.get? b = some o → b ∉ Z := fun b o e q => by rw [(hz b q).new] at e; cases e
  have nL : ∀ b o, X.s₀.heap.get? b = some o → b ≠ X.env.locals := fun b o e => Nat.ne_of_lt (Nat.lt_of_lt_of_le (Heap.lt_size e) I.ok.above)
  have nf : ∀ b, b ≠ X.env.locals → b ∉ X.fs → b ∉ frs X.stack := fun b h1 h2 q => (List.mem_cons.mp (I.stkSub b q)).elim h1 h2
  have cK : ∀ x c, X.env.cells.lookup x = some c → ∀ v, s.heap.IsCell c v → h'.IsCell c v := fun x c e v ⟨o, ho, hd⟩ => by
    obtain ⟨sl, q⟩ := any c o (fun q => (hz c q).cell x c e rfl) ho
    exact ⟨_, q, hd⟩
  refine ⟨I.ok, I.os, I.bare, ⟨fun b o e n hb hx => f.keep b o (nz b o e) (nf b (nL b o e) hb) (I.base.keep b o e n hb hx), fun b o e n hb hx => ?_, I.base.free, fun b o e hx => ?_, I.base.tups, I.base.frzs, I.base.tbls⟩, ?_, fun x c e => ?_, I.free, I.freeC, fun p hp => ?_,
    fun a o e => (I.hok a o e).stay (fun b u hb q => ?_) (fun _ q => q) fun _ _ q => q, I.len⟩
  · obtain ⟨sl, e1⟩ := I.base.slot b o e n hb hx
    obtain ⟨sl', e2⟩ := any b _ (nz b o e) e1
    exact ⟨sl', e2⟩
  · obtain ⟨o', e1⟩ := I.base.there b o e hx
    obtain ⟨sl', e2⟩ := any b _ (nz b o e) e1
    exact ⟨_, e2⟩
  · obtain ⟨m, ⟨o, es, ep, ho, r⟩, hl⟩ := I.loc
    obtain ⟨sl, q⟩ := any _ o (fun q => (hz _ q).loc rfl) ho
    refine ⟨m, ⟨_, es, ep, q, r⟩, fun i x v e1 e2 e3 => ?_⟩
    obtain ⟨u, rv, l⟩ := hl i x v e1 e2 e3
    refine ⟨u, rv, ?_⟩
    rcases l with l | ⟨k, c, e, z⟩
    · exact .inl l
    · exact .inr ⟨k, c, e, cK x c e _ z⟩
  · obtain ⟨v, z⟩ := I.cell x c e
    exact ⟨v, cK x c e v z⟩
  · obtain ⟨e, n, ne, nfs, d⟩ := I.pin p hp
    exact ⟨f.keep p.1 p.2 (fun q => (hz _ q).pin p hp rfl) (nf _ ne nfs) e, n, ne, nfs, d⟩
  · rcases hb with rfl | hb
    · exact f.keep b u (tr b o e).1 (tr b o e).2 q
    · exact f.keep b u (tr b _ hb).1 (tr b _ hb).2 q
end

/-! ### notes in frames, with all else hidden -/
section
variable {M : Model} {A : Around} {E : Value → Shared → Prop} {s : Shared} {base : Heap} {l : List Env}
theorem funFrames_hide {h h0 : Heap} {Z : List Addr} : ∀ {l : List Env}, h.FunFrames h0 l → (∀ b ∈ frs l, b ∈ Z) → h.FunFrames (PySem.W.hideAll h Z) l
  | [], _, _ => trivial
  | env :: r, ⟨k, ⟨L, o, e1, _, e3, e4⟩, q⟩, hz => by
    have hm : ∀ b ∈ frs r, b ∈ frs (env :: r) := fun b hb => by unfold frs; rw [List.filterMap_cons, e1]; exact List.mem_cons_of_mem _ hb
    exact ⟨k, ⟨L, o, e1, PySem.W.hideAll_none _ (hz L (by unfold frs; rw [List.filterMap_cons, e1]; exact List.mem_cons_self ..)), e3, e4⟩, funFrames_hide q fun b hb => hz b (hm b hb)⟩
theorem funFrames_mem {h h0 : Heap} : ∀ {l : List Env}, h.FunFrames h0 l → ∀ b ∈ frs l, ∃ o, h.get? b = some o ∧ ∀ vs, o.data ≠ .fields vs
  | env :: r, ⟨_, ⟨L, o, e1, _, e3, e4⟩, q⟩, b, hb => by
    unfold frs at hb; rw [List.filterMap_cons, e1] at hb
    rcases List.mem_cons.mp hb with rfl | hb
    · exact ⟨o, e3, e4⟩
    · exact funFrames_mem q b hb
/-- what is known behind such a note -/
theorem fl_of {h h' : Heap} {Z fr : List Addr} (k : (PySem.W.hideAll h (Z ++ fr)).StaysIn h') (fm : ∀ b ∈ fr, ∃ o, h.get? b = some o ∧ ∀ vs, o.data ≠ .fields vs)
    (sl : ∀ b o, h.get? b = some o → (∀ vs, o.data ≠ .fields vs) → ∃ sl, h'.get? b = some { o with slots := sl }) : Fl fr Z h h' :=
  ⟨fun b o h1 h2 e => k b o (PySem.W.hideAll_get _ e fun q => (List.mem_append.mp q).elim h1 h2), fun b o hb e => by
    obtain ⟨o', e1, e2⟩ := fm b hb
    rw [e] at e1; cases e1
    exact sl b o e e2⟩
end

section
variable {X : Cx} {pins : List (Addr × Obj)} {σ : St} {H : Hp} {s : Shared} {e : Addr} {C : Value} {Q : Unit → Shared → Prop} {E : Value → Shared → Prop}
/-- a def's own frame stands on the stack -/
structure Own (X : Cx) : Prop where
  stk : X.stack = X.env :: X.outer
  fr : X.env.frame = some X.env.locals
  ex : X.ex = []
/-- the exception and its trace are nobody's -/
def Up (X : Cx) (pins : List (Addr × Obj)) (H : Hp) (h : Heap) (e : Addr) (C : Value) : Prop := ∃ T fl, Ls X pins H T ∧ (fl = .none ∨ fl = rawInt X.env.locals) ∧ Flies h e T C fl
theorem trace_ls {Z : List Addr} {h' : Heap} {T : Addr} {oT : Obj} {ts : Array Value} (I : Inv X pins σ H s) (O : Own X) (hz : ∀ z ∈ Z, Ls X pins H z) (f : Fl (frs X.stack) Z s.heap h') (hn : (PySem.W.hideAll s.heap (Z ++ frs X.stack)).get? T = none)
    (hT : h'.get? T = some oT) (hd : oT.data = .fields ts) : Ls X pins H T := by
  cases q : s.heap.get? T with
  | none => exact I.ls q (by rw [O.ex]; simp)
  | some o =>
    by_cases hm : T ∈ Z ++ frs X.stack
    · rcases List.mem_append.mp hm with hm | hm
      · exact hz T hm
      · exfalso
        obtain ⟨o', e1, e2⟩ := funFrames_mem I.stack T hm
        rw [q] at e1; cases e1
        obtain ⟨sl, e3⟩ := f.slot T o hm q
        rw [hT] at e3; cases e3
        exact e2 ts hd
    · rw [PySem.W.hideAll_get _ q hm] at hn; cases hn
theorem leave_step (I : Inv X pins σ H s) (O : Own X) (le : Ls X pins H e) (hm : Made s.heap e C ∨ Up X pins H s.heap e C)
    (hq : ∀ h' T, Inv X pins σ H { s with heap := h' } → Ls X pins H T → Flies h' e T C .none → Q () { s with heap := h' }) : wpAny (model X.prog X.w) X.A («leaving» X.env (.ref e)) Q E s := by
  have hfr : X.A.frames = some (X.env :: X.outer) := O.stk ▸ I.ok.frames
  have stk := I.stack
  rcases hm with ⟨oe, vs, a0, he, ⟨hc, h0⟩, hd, h1⟩ | ⟨T, fl, lT, hfl, oe, vs, oT, ts, a0, he, ⟨hc, h0⟩, hd, h1, hTe, hT, hdT, h3⟩
  · have hz : ∀ z ∈ [e], Ls X pins H z := fun z hz => by rw [List.mem_singleton.mp hz]; exact le
    refine wpAny_leaving_firstW (base := PySem.W.hideAll s.heap ([e] ++ frs X.stack)) (a0 := a0) hfr (by rw [← O.stk]; exact funFrames_hide stk fun b hb => List.mem_append_right _ hb) O.fr he (fun b o q => PySem.W.of_hideAll _ q) (PySem.W.hideAll_none _ (by simp)) hd h1 h0 fun h' hL => ?_
    obtain ⟨x1, _, ⟨oe', vs', T, oT, ts, y1, y2, y3, y4, y5, y6, y7, y8, y9⟩, x4⟩ := hL
    have f : Fl (frs X.stack) [e] s.heap h' := fl_of x1 (funFrames_mem stk) x4
    exact hq h' T (I.fly hz f) (trace_ls I O hz f y5 y7 y8) ⟨oe', vs', oT, ts, a0, y1, ⟨y2.1.trans hc, y2.2⟩, y3, y4, y6, y7, y8, y9⟩
  · have hz : ∀ z ∈ [e, T], Ls X pins H z := fun z hz => by
      rcases List.mem_cons.mp hz with rfl | hz
      · exact le
      · rw [List.mem_singleton.mp hz]; exact lT
    rcases hfl with rfl | rfl
    · refine wpAny_leaving_nextW (base := PySem.W.hideAll s.heap ([e, T] ++ frs X.stack)) (cls := C) (a0 := a0) hfr (by rw [← O.stk]; exact funFrames_hide stk fun b hb => List.mem_append_right _ hb) O.fr
        ⟨oe, vs, T, oT, ts, he, ⟨hc, h0⟩, hd, h1, PySem.W.hideAll_none _ (by simp), hTe, hT, hdT, h3⟩ (fun b o q => PySem.W.of_hideAll _ q) (PySem.W.hideAll_none _ (by simp)) fun h' hL => ?_
      obtain ⟨x1, _, ⟨oe', vs', T', oT', ts', y1, y2, y3, y4, y5, y6, y7, y8, y9⟩, x4⟩ := hL
      have f : Fl (frs X.stack) [e, T] s.heap h' := fl_of x1 (funFrames_mem stk) x4
      exact hq h' T' (I.fly hz f) (trace_ls I O hz f y5 y7 y8) ⟨oe', vs', oT', ts', a0, y1, y2, y3, y4, y6, y7, y8, y9⟩
    · unfold «leaving»
      refine wpAny_bind (wpAny_noteFrame_againW (base := PySem.W.hideAll s.heap ([e, T] ++ frs X.stack)) (cls := C) (a0 := a0) O.fr ⟨oe, vs, T, oT, ts, he, ⟨hc, h0⟩, hd, h1, PySem.W.hideAll_none _ (by simp), hTe, hT, hdT, h3⟩ ?_)
      refine wpAny_setFlight_noneW (base := PySem.W.hideAll s.heap ([e, T] ++ frs X.stack)) (l := X.stack) (cls := C) (a0 := a0) (fl := rawInt X.env.locals) (fun b o q => PySem.W.of_hideAll _ q) (funFrames_hide stk fun b hb => List.mem_append_right _ hb)
        ⟨oe, vs, T, oT, ts, he, ⟨hc, h0⟩, hd, h1, PySem.W.hideAll_none _ (by simp), hTe, hT, hdT, h3⟩ fun h2 z1 _ ⟨oe2, vs2, T2, oT2, ts2, u1, u2, u3, u4, u5, u6, u7, u8, u9⟩ z4 => ?_
      have f2 : Fl (frs X.stack) [e, T] s.heap h2 := fl_of z1 (funFrames_mem stk) fun b o q n => ⟨o.slots, z4 b o q n⟩
      exact hq h2 T2 (I.fly hz f2) (trace_ls I O hz f2 u5 u7 u8) ⟨oe2, vs2, oT2, ts2, a0, u1, u2, u3, u4, u6, u7, u8, u9⟩
end

/-! ### how an exception lies behind a call -/
def CX1 (P : Program) (w : World) : CXT := fun outer H s E x s' => ∃ e T C H', x = .ref e ∧ s'.os = s.os ∧ AllBare s'.gens ∧ Un (frs outer) [] H H' s.heap s'.heap ∧ HOk P w H' s'.heap ∧
  (H' e = none ∧ s.heap.get? e = none) ∧ (H' T = none ∧ s.heap.get? T = none) ∧ Flies s'.heap e T C .none ∧ E C none H'
/-- .. and how it lies in a body -/
def XQ (X : Cx) (E : XK) (x : Value) (s' : Shared) : Prop := ∃ pins σ H e C, x = .ref e ∧ Inv X pins σ H s' ∧ Ls X pins H e ∧ (Made s'.heap e C ∨ Up X pins H s'.heap e C) ∧ E C none H
section
variable {P : Program} {w : World} {K : PySem.W.Frag} {mg : Str → Option Value} {base : Heap} {N : List Str} {qual : Str} {scope : Scope} {f : Addr} {cd : Value} {A : Around} {outer : List Env} {s : Shared} {H : Hp} {E : XK}
theorem own_cx {CX : CXT} : Own (cxOf CX P w K mg base N qual scope f cd A outer s H E) := ⟨rfl, rfl, rfl⟩
/-- what leaves a def's body -/
theorem leave_cx {x : Value} {s' : Shared} (h : XQ (cxOf (CX1 P w) P w K mg base N qual scope f cd A outer s H E) E x s') : (cxOf (CX1 P w) P w K mg base N qual scope f cd A outer s H E).xe x s' := by
  obtain ⟨pins, σ, H', e, C, rfl, I, le, hm, q⟩ := h
  refine leave_step I own_cx le hm fun h' T I' lT fl => ?_
  exact ⟨e, T, C, H', rfl, I'.os, I'.bare, I'.base, I'.hok, ⟨le.un, le.new⟩, ⟨lT.un, lT.new⟩, fl, q⟩
end
section
variable {X : Cx} {E : XK}
theorem Ls.wish {pins : List (Addr × Obj)} {H : Hp} {z : Addr} {F : Value → Shared → Prop} (l : Ls X pins H z) : Ls (X.wish F) pins H z := ⟨l.un, l.new, l.loc, l.cell, l.pin⟩
theorem Ls.unwish {pins : List (Addr × Obj)} {H : Hp} {z : Addr} {F : Value → Shared → Prop} (l : Ls (X.wish F) pins H z) : Ls X pins H z := ⟨l.un, l.new, l.loc, l.cell, l.pin⟩
theorem XQ.unwish {F : Value → Shared → Prop} {x : Value} {s' : Shared} (h : XQ (X.wish F) E x s') : XQ X E x s' := by
  obtain ⟨pins, σ, H, e, C, rfl, I, le, hm, q⟩ := h
  exact ⟨pins, σ, H, e, C, rfl, I.unwish, le.unwish, hm.imp id fun ⟨T, f, lT, hf, fl⟩ => ⟨T, f, lT.unwish, hf, fl⟩, q⟩
/-- an exception of a callee lies in the caller's body -/
theorem passes1 {F : Value → Shared → Prop} (O : Own X) (hF : ∀ x s', XQ X E x s' → X.xe x s') : Passes (CX1 X.prog X.w) X E := fun pins σ H s x s' I h => by
  obtain ⟨e, T, C, H', rfl, os, bare, un, hok, ⟨e1, e2⟩, ⟨t1, t2⟩, fl, q⟩ := h
  have I' : Inv X pins σ H' s' := I.call' os un hok bare fun b z => nomatch z
  have ls : ∀ z, H' z = none → s.heap.get? z = none → Ls X pins H' z := fun z h1 h2 => by
    have l := I.ls h2 (by rw [O.ex]; simp)
    exact ⟨h1, l.new, l.loc, l.cell, l.pin⟩
  exact hF _ _ ⟨pins, σ, H', e, C, rfl, I', ls e e1 e2, .inr ⟨T, _, ls T t1 t2, .inl rfl, fl⟩, q⟩
end

/-! ### raise C(e, ..), C an own class over a built-in one -/
theorem exc_obj {K : PySem.W.Frag} {h : Heap} {C : Addr} {bmB : List Value} {newId : String} (X : K.In h) (q : PySem.W.excIn K C bmB newId = true) :
    ∃ bm N nm q bs hdct sn sub ab col dd k0 k1 k2 k3 k5 mN, h.get? C = some (excClassObj nm q C N bs bm hdct sn sub ab col dd k0 k1 k2 k3 k5 newId) ∧ h.Ns N mN ∧ mN "__init__" = none ∧ OwnTail h bmB bm := by
  unfold PySem.W.excIn at q
  split at q
  case h_2 => cases q
  case h_1 d₁ data₁ slots₁ there =>
    split at q
    case h_2 => cases q
    case h_1 C₁ tail₁ a₀ a₁ a₂ a₃ new₁ a₅ mroIs slotsAre =>
      rw [Bool.and_eq_true, Bool.and_eq_true, Bool.and_eq_true, Bool.and_eq_true, Bool.and_eq_true] at q
      obtain ⟨⟨⟨⟨⟨q1, q2⟩, q3⟩, q4⟩, q5⟩, q6⟩ := q
      cases eq_of_beq q1
      cases eq_of_beq q2
      obtain ⟨y1, y2, y3, y4, y5, y6, y7, y8, y9, y10, y11⟩ := data₁
      dsimp only at mroIs q3 q5 q6
      subst mroIs
      have y11' : y11 = false := by simpa using q3
      subst y11'
      have sl' : slots₁ = #[a₀, a₁, a₂, a₃, some (.builtin newId), a₅] := by cases slots₁; simp only at slotsAre; rw [slotsAre]
      subst sl'
      exact ⟨_, _, _, _, _, _, _, _, _, _, _, _, _, _, _, _, _, X _ _ there, .of_isNs (PySem.W.isNs_of_in X q5), PySem.W.nsMap_none_of_in X q5 (eq_of_beq q6), PySem.W.tail_of_in X q4⟩
/-- what the fragment says of such a class -/
structure ExcK (K : PySem.W.Frag) (mg : Str → Option Value) (x : Str) (C : Addr) : Prop where
  bound : mg x = some (.ref C)
  inK : PySem.W.excIn K C [.type "ValueError", .type "Exception", .type "BaseException", .type "object"] "ValueError.__new__" = true
def tRaise (C : Addr) (E : XK) (t : TA) : TS := fun _ σ H => t σ H fun vs H1 => vs.length ≤ 1000 ∧ E (.ref C) none H1
section
variable {X : Cx} {E : XK} {x : Str} {C : Addr} {np cpos pos : Pos} {e₀ : Expr} {es : List Expr} {t : TA}
theorem ps_raise (k : ExcK X.K X.mg x C) (hE : ∀ y s', XQ X E y s' → X.xe y s') (hx : X.ex = []) (hg : Gl X x) (ha : PA X (e₀ :: es) t) (hc : X.calm = true)
    (he : starEach (e₀ :: es) X.env = (false, eval e₀ X.env) :: starEach es X.env := by rfl) (hpl : (backTo cpos (starEach es X.env)).any (·.1) = false := by rfl) (hd : (x == ("__debug__" : Str)) = false := by decide) :
    PS X (.Raise (some (.Call (.Name x np) (e₀ :: es) [] cpos)) none pos) (tRaise C E t) := by
  intro pins s σ H D I h
  obtain ⟨bm, N, nm, q, bs, hdct, sn, sub, ab, col, dd, k0, k1, k2, k3, k5, mN, hC, hN, hni, T⟩ := exc_obj I.mod.kin k.inK
  refine wpAny_Raise_call_subU PySem.F.excBase_ValueError (by decide) PySem.F.excBase_ValueError (C := C) (N := N) (nm := nm) (q := q) (bs := bs) (bm := bm) (hdct := hdct) (sn := sn) (sub := sub) (ab := ab) (col := col) (dd := dd) (k0 := k0) (k1 := k1) (k2 := k2) (k3 := k3) (k5 := k5) (mN := mN)
    (T.hasType (X := "BaseException") (b := true) (by decide)) (I.ok.hd hc) (by rw [he]; show (false || (backTo cpos (starEach es X.env)).any (·.1)) = false; rw [hpl]; rfl) hni ?_
  refine ld_glob I hg k.bound ⟨rfl, ?_⟩ hd
  have h2 := ha cpos pins s σ H _ I h
  rw [he] at h2 ⊢
  refine Calls.evalArgs_plain (thn h2 fun us s2 ⟨vs, H2, I2, r, hl, w⟩ => ?_)
  refine ⟨rfl, ?_, I2.bk _ _ hC, hN.keeps I2.bk, T.keeps I2.bk, fun h' e hm => ?_⟩
  · rw [show us.length = vs.length from r.length.symm]
    exact Nat.le_of_lt (small1000 hl)
  · obtain ⟨t, he, _, _⟩ := hm.there
    exact hE _ _ ⟨pins, σ, H2, e, .ref C, rfl, I2.kept (t' := s2.toks) hm.keeps, I2.ls hm.new (by rw [hx]; simp), .inl ⟨_, _, _, he, ⟨rfl, rfl⟩, rfl, rfl⟩, w⟩
end
/-- a def of the text whose body may raise -/
theorem Fun.okX {P : Program} {w : World} {K : PySem.W.Frag} {mg : Str → Option Value} {base : Heap} {x qual : Str} {st : Stmt} {f : Addr} {fd : FuncData} {N ps : List Str} {k : Nat} {sp : Sp} (F : Fun K x qual st f fd) (S : FnScope N ps (defScope st)) (len : ∀ vs H Q E, sp vs H Q E → vs.length = ps.length)
    (hbody : ∀ (cdv : Value) (A : Around) (outer : List Env) (s : Shared) (H : Hp) (vs : List V) (Q : VK) (E : XK), Room k (A.deeper (envOfC qual (defScope st) s.heap.objs.size f cdv)) → sp vs H Q E →
      ∃ t, PSs ((cxOf (CX1 P w) P w K mg base N qual (defScope st) f cdv A outer s H E).wish (XQ (cxOf (CX1 P w) P w K mg base N qual (defScope st) f cdv A outer s H E) E)) (defBody st) t ∧ t { nx := fun _ H' => Q .non H', rt := Q } (start N vs) H) :
    FnOk P w K mg base (CX1 P w) (k + 1) f fd ps sp := by
  obtain ⟨oc, od, kV, doc, pm, an, cdv, ct, osl, rfl, lk, hcd⟩ := F.ex
  refine fn_of lk hcd S len fun A outer s H vs Q E hr hsp => ?_
  obtain ⟨t, h, q⟩ := hbody cdv A outer s H vs Q E hr hsp
  exact ⟨t, fun pins s σ H D I hw => wpAny_mono (h pins s σ H D (I.wish _) hw) (fun _ _ q => q.unwish) fun _ _ z => leave_cx z, q⟩
/-- a def that never raises, among such as do -/
theorem FnOk.calm {P : Program} {w : World} {K : PySem.W.Frag} {mg : Str → Option Value} {base : Heap} {CX : CXT} {k : Nat} {f : Addr} {fd : FuncData} {ps : List Str} {sp : Sp} (F : FnOk P w K mg base CX0 k f fd ps sp) : FnOk P w K mg base CX k f fd ps sp :=
  ⟨F.len, fun A outer s H args us vs Q E hr he hb hv hs => codeAny_mono (F.run A outer s H args us vs Q E hr he hb hv hs) fun r s' h => by
    cases r with
    | ok f => cases f <;> exact h
    | error e => exact False.elim h⟩
theorem wish_xe {X : Cx} {E : XK} : ∀ y s', XQ (X.wish (XQ X E)) E y s' → (X.wish (XQ X E)).xe y s' := fun _ _ h => h.unwish
end L2

set_option Elab.async false
set_option linter.all false
set_option maxRecDepth 100000
namespace L2
open PySem PySem.Spec PyProof.Rows

/-! ### try: .. except C: .. -/
theorem Own.wish {X : Cx} {F : Value → Shared → Prop} (O : Own X) : Own (X.wish F) := ⟨O.stk, O.fr, O.ex⟩
/-- within an except suite -/
abbrev Cx.marked (X : Cx) (e : Addr) : Cx := { X with A := X.A.mark (some (.ref e)), calm := false, xe := fun _ _ => False }
theorem Inv.marked {X : Cx} {pins : List (Addr × Obj)} {σ : St} {H : Hp} {s : Shared} {e : Addr} (I : Inv X pins σ H s) : Inv (X.marked e) pins σ H s :=
  ⟨⟨I.ok.mod, I.ok.kind, I.ok.glob, I.ok.blt, I.ok.above, I.ok.inj, I.ok.has, I.ok.cab, (fun q => nomatch q), I.ok.frames, I.ok.stk, I.ok.exf, I.ok.bs, I.ok.bsz, I.ok.noex, I.ok.exfs, I.ok.funs, I.ok.frf⟩, I.os, I.bare, I.base, I.loc, I.cell, I.free, I.freeC, I.pin, I.hok, I.len⟩
theorem Inv.unmarked {X : Cx} {pins : List (Addr × Obj)} {σ : St} {H : Hp} {s : Shared} {e : Addr} (hh : X.calm = true → X.A.handled = none) (I : Inv (X.marked e) pins σ H s) : Inv X pins σ H s :=
  ⟨⟨I.ok.mod, I.ok.kind, I.ok.glob, I.ok.blt, I.ok.above, I.ok.inj, I.ok.has, I.ok.cab, hh, I.ok.frames, I.ok.stk, I.ok.exf, I.ok.bs, I.ok.bsz, I.ok.noex, I.ok.exfs, I.ok.funs, I.ok.frf⟩, I.os, I.bare, I.base, I.loc, I.cell, I.free, I.freeC, I.pin, I.hok, I.len⟩
theorem SP.unmarked {X : Cx} {pins : List (Addr × Obj)} {D : Ends} {f : Flow} {s' : Shared} {e : Addr} (hh : X.calm = true → X.A.handled = none) (h : SP (X.marked e) pins D f s') : SP X pins D f s' := by
  cases f with
  | next => obtain ⟨σ', H', I, q⟩ := h; exact ⟨σ', H', I.unmarked hh, q⟩
  | brk => obtain ⟨σ', H', I, q⟩ := h; exact ⟨σ', H', I.unmarked hh, q⟩
  | cont => obtain ⟨σ', H', I, q⟩ := h; exact ⟨σ', H', I.unmarked hh, q⟩
  | ret u => obtain ⟨v, σ', H', I, r, q⟩ := h; exact ⟨v, σ', H', I.unmarked hh, r, q⟩

section
variable {X : Cx} {pins : List (Addr × Obj)} {σ : St} {H : Hp} {s : Shared} {e T : Addr} {C fl : Value} {Q : Unit → Shared → Prop} {E : Value → Shared → Prop} {A : Around}
theorem two_ls (le : Ls X pins H e) (lT : Ls X pins H T) : ∀ z ∈ [e, T], Ls X pins H z := fun z hz => by
  rcases List.mem_cons.mp hz with rfl | hz
  · exact le
  · rw [List.mem_singleton.mp hz]; exact lT
/-- the exception is noted in this frame, which holds it now -/
theorem note1 (I : Inv X pins σ H s) (O : Own X) (le : Ls X pins H e) (hm : Made s.heap e C ∨ Up X pins H s.heap e C)
    (hq : ∀ h' T, Inv X pins σ H { s with heap := h' } → Ls X pins H T → Flies h' e T C (rawInt X.env.locals) → Q () { s with heap := h' }) : wpAny (model X.prog X.w) X.A (noteFrame (.ref e) X.env) Q E s := by
  have hfr : X.A.frames = some (X.env :: X.outer) := O.stk ▸ I.ok.frames
  have stk := I.stack
  rcases hm with ⟨oe, vs, a0, he, ⟨hc, h0⟩, hd, h1⟩ | ⟨T, fl, lT, hfl, oe, vs, oT, ts, a0, he, ⟨hc, h0⟩, hd, h1, hTe, hT, hdT, h3⟩
  · have hz : ∀ z ∈ [e], Ls X pins H z := fun z hz => by rw [List.mem_singleton.mp hz]; exact le
    unfold noteFrame
    simp only [O.fr]
    refine wpAny_bind (wpAny_field he hd h1 ?_)
    rw [if_neg (by decide)]
    refine wpAny_entryW (base := PySem.W.hideAll s.heap ([e] ++ frs X.stack)) (a0 := a0) hfr (by rw [← O.stk]; exact funFrames_hide stk fun b hb => List.mem_append_right _ hb) O.fr he (fun b o q => PySem.W.of_hideAll _ q) (PySem.W.hideAll_none _ (by simp)) hd (Array.getElem?_eq_some_iff.mp h1).1 h0 fun h' hL => ?_
    obtain ⟨x1, _, ⟨oe', vs', T', oT', ts', y1, y2, y3, y4, y5, y6, y7, y8, y9⟩, x4⟩ := hL
    have f : Fl (frs X.stack) [e] s.heap h' := fl_of x1 (funFrames_mem stk) x4
    exact hq h' T' (I.fly hz f) (trace_ls I O hz f y5 y7 y8) ⟨oe', vs', oT', ts', a0, y1, ⟨y2.1.trans hc, y2.2⟩, y3, y4, y6, y7, y8, y9⟩
  · have hz := two_ls le lT
    rcases hfl with rfl | rfl
    · refine wpAny_noteFrame_onW (base := PySem.W.hideAll s.heap ([e, T] ++ frs X.stack)) (cls := C) (a0 := a0) hfr (by rw [← O.stk]; exact funFrames_hide stk fun b hb => List.mem_append_right _ hb) O.fr
        ⟨oe, vs, T, oT, ts, he, ⟨hc, h0⟩, hd, h1, PySem.W.hideAll_none _ (by simp), hTe, hT, hdT, h3⟩ (fun b o q => PySem.W.of_hideAll _ q) (PySem.W.hideAll_none _ (by simp)) fun h' hL => ?_
      obtain ⟨x1, _, ⟨oe', vs', T', oT', ts', y1, y2, y3, y4, y5, y6, y7, y8, y9⟩, x4⟩ := hL
      have f : Fl (frs X.stack) [e, T] s.heap h' := fl_of x1 (funFrames_mem stk) x4
      exact hq h' T' (I.fly hz f) (trace_ls I O hz f y5 y7 y8) ⟨oe', vs', oT', ts', a0, y1, y2, y3, y4, y6, y7, y8, y9⟩
    · exact wpAny_noteFrame_againW (base := PySem.W.hideAll s.heap ([e, T] ++ frs X.stack)) (cls := C) (a0 := a0) O.fr ⟨oe, vs, T, oT, ts, he, ⟨hc, h0⟩, hd, h1, PySem.W.hideAll_none _ (by simp), hTe, hT, hdT, h3⟩
        (hq s.heap T I lT ⟨oe, vs, oT, ts, a0, he, ⟨hc, h0⟩, hd, h1, hTe, hT, hdT, h3⟩)
/-- put to rest -/
theorem land (I : Inv X pins σ H s) (O : Own X) (le : Ls X pins H e) (lT : Ls X pins H T) (hm : Flies s.heap e T C fl)
    (hq : ∀ h' T', Inv X pins σ H { s with heap := h' } → Ls X pins H T' → Flies h' e T' C .none → Q () { s with heap := h' }) : wpAny (model X.prog X.w) A (setFlight (.ref e) none) Q E s := by
  have stk := I.stack
  obtain ⟨oe, vs, oT, ts, a0, he, ⟨hc, h0⟩, hd, h1, hTe, hT, hdT, h3⟩ := hm
  have hz := two_ls le lT
  refine wpAny_setFlight_noneW (base := PySem.W.hideAll s.heap ([e, T] ++ frs X.stack)) (l := X.stack) (cls := C) (a0 := a0) (fl := fl) (fun b o q => PySem.W.of_hideAll _ q) (funFrames_hide stk fun b hb => List.mem_append_right _ hb)
    ⟨oe, vs, T, oT, ts, he, ⟨hc, h0⟩, hd, h1, PySem.W.hideAll_none _ (by simp), hTe, hT, hdT, h3⟩ fun h2 z1 _ ⟨oe2, vs2, T2, oT2, ts2, u1, u2, u3, u4, u5, u6, u7, u8, u9⟩ z4 => ?_
  have f2 : Fl (frs X.stack) [e, T] s.heap h2 := fl_of z1 (funFrames_mem stk) fun b o q n => ⟨o.slots, z4 b o q n⟩
  exact hq h2 T2 (I.fly hz f2) (trace_ls I O hz f2 u5 u7 u8) ⟨oe2, vs2, oT2, ts2, a0, u1, u2, u3, u4, u6, u7, u8, u9⟩
/-- back out of a loop: the frame holds it -/
theorem came_back (I : Inv X pins σ H s) (O : Own X) (le : Ls X pins H e) (lT : Ls X pins H T) (hm : Flies s.heap e T C fl)
    (hq : ∀ h', Inv X pins σ H { s with heap := h' } → Flies h' e T C (rawInt X.env.locals) → E (.ref e) { s with heap := h' }) : cameBackBy (model X.prog X.w) X.A X.env E (.ref e) s := by
  obtain ⟨oe, vs, oT, ts, a0, he, ⟨hc, h0⟩, hd, h1, hTe, hT, hdT, h3⟩ := hm
  have hs3 : 3 < ts.size := (Array.getElem?_eq_some_iff.mp h3).1
  unfold cameBackBy
  refine wpAny_bind (wpAny_field he hd h1 ?_)
  rw [if_neg (show ¬ ((Value.ref T == Value.none) = true) from by simp)]
  unfold setFlight
  rw [O.fr]
  refine wpAny_bind (wpAny_field he hd h1 ?_)
  rw [if_pos (show (Value.ref T != Value.none) = true from by simp)]
  refine wpAny_setField hT hdT hs3 ?_
  have ot : ∀ b, b ≠ T → (s.heap.update T (Obj.mapFields (·.setIfInBounds 3 (rawInt X.env.locals)))).get? b = s.heap.get? b := fun b hb => Heap.get?_update_other _ _ (Ne.symm hb)
  have hz : ∀ z ∈ [T], Ls X pins H z := fun z hz => by rw [List.mem_singleton.mp hz]; exact lT
  have f : Fl (frs X.stack) [T] s.heap (s.heap.update T (Obj.mapFields (·.setIfInBounds 3 (rawInt X.env.locals)))) := by
    refine ⟨fun b o h1 _ e => (ot b fun q => h1 (by simp [q])).trans e, fun b o hb e => ⟨o.slots, (ot b fun q => ?_).trans e⟩⟩
    obtain ⟨o', e1, e2⟩ := funFrames_mem I.stack b hb
    rw [q, hT] at e1; cases e1
    exact e2 ts hdT
  refine hq _ (I.fly hz f) ⟨oe, vs, _, _, a0, (ot e (Ne.symm hTe)).trans he, ⟨hc, h0⟩, hd, h1, hTe, Heap.get?_update_self _ hT (Obj.isFreed_of_fields (Obj.data_mapFields hdT _)), Obj.data_mapFields hdT _, by simp [hs3]⟩
end
/-- an exception passes the loops of its own frame -/
theorem owns {X : Cx} {E : XK} (O : Own X) : PassesOwn (model X.prog X.w) X.A X.env (XQ X E) := fun x s' h => by
  obtain ⟨pins, σ, H, e, C, rfl, I, le, hm, q⟩ := h
  refine note1 I O le hm fun h' T I' lT fl => ?_
  exact came_back I' O le lT fl fun h2 I2 f2 => ⟨pins, σ, H, e, C, rfl, I2, le, .inr ⟨T, _, lT, .inr rfl, f2⟩, q⟩

/-- the handlers: each a class of the top, by its address, and what its suite does (the names' values are forgotten there) -/
def tHand (X : Cx) : List (Addr × TS) → Ends → Value → Hp → Prop
  | [], _, _, _ => False
  | (c, t) :: r, D, C, H => (PySem.W.exmOne X.K C (.ref c) = some true ∧ t D (List.replicate X.N.length none) H) ∨ (PySem.W.exmOne X.K C (.ref c) = some false ∧ tHand X r D C H)
inductive Hands (X : Cx) : List ExceptHandler → List (Addr × TS) → Prop
  | nil : Hands X [] []
  | cons {x : Str} {np pos : Pos} {b₀ : Stmt} {suite : List Stmt} {hs : List ExceptHandler} {c : Addr} {t : TS} {r : List (Addr × TS)} (hg : Gl X x) (hm : X.mg x = some (.ref c)) (hd : (x == ("__debug__" : Str)) = false) (ht : ∀ e, PSs (X.marked e) (b₀ :: suite) t) (h : Hands X hs r) :
      Hands X (.ExceptHandler (some (.Name x np)) none (b₀ :: suite) pos :: hs) ((c, t) :: r)
def tTry (X : Cx) (tb : XK → TS) (hs : List (Addr × TS)) : TS := fun D σ H => tb (fun C _ H' => tHand X hs D C H') D σ H
section
variable {X : Cx} {D : Ends}
theorem hand_step (O : Own X) (hc : X.calm = true) : ∀ {hs : List ExceptHandler} {r : List (Addr × TS)}, Hands X hs r → ∀ {pins : List (Addr × Obj)} {σ : St} {H : Hp} {s : Shared} {e T : Addr} {C fl : Value}, Inv X pins σ H s → Ls X pins H e → Ls X pins H T → Flies s.heap e T C fl → tHand X r D C H →
    wpAny (model X.prog X.w) X.A (handleBy (.ref e) X.env hs) (SP X pins D) X.xe s
  | _, _, .nil, _, _, _, _, _, _, _, _, _, _, _, _, h => h.elim
  | _, _, .cons hg hm hd ht hr, pins, σ, H, s, e, T, C, fl, I, le, lT, up, h => by
    have hcls : ∃ oe, s.heap.get? e = some oe ∧ oe.cls = C := by
      obtain ⟨oe, vs, oT, ts, a0, he, ⟨hc, _⟩, _⟩ := up
      exact ⟨oe, he, hc⟩
    obtain ⟨oe, he, hce⟩ := hcls
    have LT : PySem.W.Looks (model X.prog X.w) s.heap (typeOf (.ref e)) C := hce ▸ (PySem.W.Looks.ld he).andThen .now
    refine wpAny_handleBy_cons (codeAny_handlers_test ?_) (by intro q; cases q)
    refine ld_glob (X := X.marked e) I.marked hg hm ?_ hd
    have I0 := I
    rcases h with ⟨hx, h⟩ | ⟨hx, h⟩
    · refine PySem.W.exm_one I.kIn LT hx _ _ _ s (fun _ _ q => q) ?_
      refine codeAny_handlers_suite ?_
      refine land I O le lT up fun h' _ I' _ _ => ?_
      have I2 : Inv X pins (List.replicate X.N.length none) H { s with heap := h' } := I'.weak (by rw [List.length_replicate, I'.len]) fun i v q => by
        rw [List.getElem?_replicate] at q; split at q <;> cases q
      refine wpAny_mono (ht e pins _ _ H D I2.marked h) (fun f s2 q => q.unmarked I.ok.hd) fun _ _ z => False.elim z
    · refine PySem.W.exm_one I.kIn LT hx _ _ _ s (fun _ _ q => q) ?_
      exact hand_step O hc hr I le lT up h
/-- the same body with more that stays -/
abbrev Cx.pinned (X : Cx) (pn : List (Addr × Obj)) : Cx := { X with pn := pn }
theorem Inv.pinIn {pins : List (Addr × Obj)} {σ : St} {H : Hp} {s : Shared} (I : Inv X pins σ H s) : Inv (X.pinned (X.pn ++ pins)) [] σ H s :=
  ⟨⟨I.ok.mod, I.ok.kind, I.ok.glob, I.ok.blt, I.ok.above, I.ok.inj, I.ok.has, I.ok.cab, I.ok.hd, I.ok.frames, I.ok.stk, I.ok.exf, I.ok.bs, I.ok.bsz, I.ok.noex, I.ok.exfs, I.ok.funs, I.ok.frf⟩, I.os, I.bare, I.base, I.loc, I.cell, I.free, I.freeC, fun p hp => I.pin p (by simpa using hp), I.hok, I.len⟩
theorem Inv.pinOut {pins pins' : List (Addr × Obj)} {σ : St} {H : Hp} {s : Shared} (I : Inv (X.pinned (X.pn ++ pins)) pins' σ H s) : Inv X pins σ H s :=
  ⟨⟨I.ok.mod, I.ok.kind, I.ok.glob, I.ok.blt, I.ok.above, I.ok.inj, I.ok.has, I.ok.cab, I.ok.hd, I.ok.frames, I.ok.stk, I.ok.exf, I.ok.bs, I.ok.bsz, I.ok.noex, I.ok.exfs, I.ok.funs, I.ok.frf⟩, I.os, I.bare, I.base, I.loc, I.cell, I.free, I.freeC, fun p hp => I.pin p (List.mem_append_left _ hp), I.hok, I.len⟩
theorem Ls.pinOut {pins pins' : List (Addr × Obj)} {H : Hp} {z : Addr} (l : Ls (X.pinned (X.pn ++ pins)) pins' H z) : Ls X pins H z := ⟨l.un, l.new, l.loc, l.cell, fun p hp => l.pin p (List.mem_append_left _ hp)⟩
theorem SP.pinOut {pins : List (Addr × Obj)} {f : Flow} {s' : Shared} (h : SP (X.pinned (X.pn ++ pins)) [] D f s') : SP X pins D f s' := by
  cases f with
  | next => obtain ⟨σ', H', I, q⟩ := h; exact ⟨σ', H', I.pinOut, q⟩
  | brk => obtain ⟨σ', H', I, q⟩ := h; exact ⟨σ', H', I.pinOut, q⟩
  | cont => obtain ⟨σ', H', I, q⟩ := h; exact ⟨σ', H', I.pinOut, q⟩
  | ret u => obtain ⟨v, σ', H', I, r, q⟩ := h; exact ⟨v, σ', H', I.pinOut, r, q⟩
/-- the context of a try's body -/
abbrev Cx.inTry (X : Cx) (pn : List (Addr × Obj)) (E : XK) : Cx := (X.pinned pn).wish (XQ (X.pinned pn) E)
theorem Own.inTry {pn : List (Addr × Obj)} {E : XK} (O : Own X) : Own (X.inTry pn E) := ⟨O.stk, O.fr, O.ex⟩
theorem passesT {pn : List (Addr × Obj)} {E : XK} (O : Own X) : Passes (CX1 X.prog X.w) (X.inTry pn E) E := passes1 (X := X.inTry pn E) (F := fun _ _ => True) O.inTry fun _ _ h => h.unwish
theorem ps_try {body : List Stmt} {h₀ : ExceptHandler} {hs : List ExceptHandler} {r : List (Addr × TS)} {tb : XK → TS} {pos : Pos} (O : Own X) (hc : X.calm = true) (hb : ∀ pn E, PSs (X.inTry pn E) body (tb E)) (hh : Hands X (h₀ :: hs) r) :
    PS X (.Try body (h₀ :: hs) [] [] pos) (tTry X tb r) := by
  intro pins s σ H D I h
  refine wpAny_Try_except (wpAny_mono (hb (X.pn ++ pins) _ [] s σ H D (I.pinIn.wish _) h) (fun f s1 q => ?_) fun x s1 z => ?_)
  · have q := q.unwish.pinOut
    cases f with
    | next => exact wpAny_execs_nil q
    | _ => exact q
  · obtain ⟨pins', σ', H', e, C, rfl, I1, le, hm, w⟩ := z
    refine note1 I1.pinOut O le.pinOut (hm.imp id fun ⟨T, f, lT, hf, fl⟩ => ⟨T, f, lT.pinOut, hf, fl⟩) fun h' T I2 lT fl => ?_
    exact land I2 O le.pinOut lT fl fun h2 T2 I3 lT2 f2 => hand_step (D := D) O hc hh I3 le.pinOut lT2 f2 w
end
/-- a raising body's own loops, a try's own loops -/
theorem ownsR {X : Cx} {E : XK} (O : Own X) : PassesOwn (model X.prog X.w) X.A X.env (X.wish (XQ X E)).xe := owns O
theorem ownsT {X : Cx} {E : XK} {pn : List (Addr × Obj)} (O : Own X) : PassesOwn (model X.prog X.w) X.A X.env (X.inTry pn E).xe := owns (X := X.pinned pn) ⟨O.stk, O.fr, O.ex⟩
/-- raise in a try's body -/
theorem try_xe {X : Cx} {E : XK} {pn : List (Addr × Obj)} : ∀ y s', XQ (X.inTry pn E) E y s' → (X.inTry pn E).xe y s' := fun _ _ h => h.unwish
end L2

set_option Elab.async false
set_option linter.all false
set_option maxRecDepth 100000
namespace L2
open PySem PySem.Spec PyProof.Rows

/-! ### dicts of the top: read out of the fragment, never tracked -/
/-- keys that are texts or ints -/
def TopK (P : Program) (w : World) (K : PySem.W.Frag) (a : Addr) (kvs : List (Key × V)) : Prop :=
  (a == sysModules) = false ∧ ∃ vs, KV kvs vs ∧ ∀ h : Heap, K.In h → h.DictOf (mixKind P w) a vs
/-- keys that are tuples of such -/
def TopT (P : Program) (w : World) (K : PySem.W.Frag) (a : Addr) (kvs : List (List Key × V)) : Prop :=
  (a == sysModules) = false ∧ ∃ xs : List (List Key × Addr × Value), Paired (fun (p : List Key × V) (q : List Key × Addr × Value) => p.1 = q.1 ∧ RelV p.2 q.2.2) kvs xs ∧ ∀ h : Heap, K.In h → h.DictOfH (tupleKind (mixKind P w)) a xs
theorem topT_val {kvs : List (List Key × V)} {xs : List (List Key × Addr × Value)} (r : Paired (fun (p : List Key × V) (q : List Key × Addr × Value) => p.1 = q.1 ∧ RelV p.2 q.2.2) kvs xs) (k : List Key) : RelO (valV kvs k) ((atKey xs k).map (·.2)) := by
  induction r with
  | nil => exact True.intro
  | @cons p q ps qs hq t ih =>
    obtain ⟨e, rv⟩ := hq
    by_cases hk : p.1 = k
    · rw [valV_pos hk]
      have : atKey (q :: qs) k = some q.2 := by simp [atKey, List.find?_cons, ← e, hk]
      rw [this]; exact rv
    · rw [valV_neg hk]
      have : atKey (q :: qs) k = atKey qs k := by simp [atKey, List.find?_cons, ← e, hk]
      rw [this]; exact ih
/-- what such a dict holds at y -/
def KGet (P : Program) (w : World) (K : PySem.W.Frag) (H : Hp) (a : Addr) (y : V) (r : Option V) : Prop :=
  (∃ kvs k, TopK P w K a kvs ∧ y = kV k ∧ r = valV kvs k) ∨ ∃ kvs k b, TopT P w K a kvs ∧ y = .ref b ∧ H b = some (.tup (k.map kV)) ∧ r = valV kvs k
section
variable {X : Cx} {pins : List (Addr × Obj)} {σ : St} {H : Hp} {s : Shared} {a : Addr} {y v : V} {u r : Value} {o : Option V} {A : Around} {E : Value → Shared → Prop}
theorem k_getItem {Q : Value → Shared → Prop} (hu : A.units + 1 < cLine) (I : Inv X pins σ H s) (g : KGet X.prog X.w X.K H a y (some v)) (ry : RelV y u) (h : ∀ w' s', Inv X pins σ H s' → RelV v w' → Q w' s') :
    wpAny (model X.prog X.w) A (getItem (.ref a) u) Q E s := by
  rcases g with ⟨kvs, k, ⟨hd, vs, rel, dd⟩, ey, l⟩ | ⟨kvs, k, b, ⟨hd, xs, rel, dd⟩, ey, eb, l⟩
  · subst ey
    obtain ⟨w', hw, rw'⟩ := RelO.some_of (v := v) (o := valueAt vs k) (by rw [l]; exact rel.val k)
    exact wpAny_getItem_of (kV_is ry) (dd _ I.kIn).mapOf hw (h w' _ (I.tok _) rw')
  · subst ey
    cases (show u = Value.ref b from ry)
    obtain ⟨w', hw, rw'⟩ := RelO.some_of (v := v) (o := (atKey xs k).map (·.2)) (by rw [l]; exact topT_val rel k)
    obtain ⟨p, hp, hp2⟩ := Option.map_eq_some_iff.mp hw
    refine wpAny_getItem_heap (tupleKind_room_in1 hu) (key_of I.hok eb) (dd _ I.kIn) hp ?_
    rw [hp2]
    exact h w' _ (I.tok _) rw'
theorem k_notIn {Q : Value → Shared → Prop} (hu : A.units + 1 < cLine) (I : Inv X pins σ H s) (g : KGet X.prog X.w X.K H a y o) (ry : RelV y u) (h : ∀ s', Inv X pins σ H s' → Q (.bool (!o.isSome)) s') :
    wpAny (model X.prog X.w) A (compareOp .NotIn u (.ref a)) Q E s := by
  rcases g with ⟨kvs, k, ⟨hd, vs, rel, dd⟩, ey, l⟩ | ⟨kvs, k, b, ⟨hd, xs, rel, dd⟩, ey, eb, l⟩
  · subst ey
    refine wpAny_notIn_of (kV_is ry) hd (dd _ I.kIn).mapOf ?_
    rw [← (rel.val k).isSome_eq, ← l]
    exact h _ (I.tok _)
  · subst ey
    cases (show u = Value.ref b from ry)
    refine wpAny_notIn_heap (tupleKind_room_in1 hu) (key_of I.hok eb) hd (dd _ I.kIn) ?_
    have q := (topT_val rel k).isSome_eq
    rw [Option.isSome_map] at q
    rw [← q, ← l]
    exact h _ (I.tok _)
theorem k_in {Q : Value → Shared → Prop} (hu : A.units + 1 < cLine) (I : Inv X pins σ H s) (g : KGet X.prog X.w X.K H a y o) (ry : RelV y u) (h : ∀ s', Inv X pins σ H s' → Q (.bool o.isSome) s') :
    wpAny (model X.prog X.w) A (compareOp .In u (.ref a)) Q E s := by
  rcases g with ⟨kvs, k, ⟨hd, vs, rel, dd⟩, ey, l⟩ | ⟨kvs, k, b, ⟨hd, xs, rel, dd⟩, ey, eb, l⟩
  · subst ey
    refine wpAny_in_of (kV_is ry) hd (dd _ I.kIn).mapOf ?_
    rw [← (rel.val k).isSome_eq, ← l]
    exact h _ (I.tok _)
  · subst ey
    cases (show u = Value.ref b from ry)
    refine wpAny_in_heap (tupleKind_room_in1 hu) (key_of I.hok eb) hd (dd _ I.kIn) ?_
    have q := (topT_val rel k).isSome_eq
    rw [Option.isSome_map] at q
    rw [← q, ← l]
    exact h _ (I.tok _)
theorem k_typeIs (I : Inv X pins σ H s) (g : KGet X.prog X.w X.K H a y o) : s.TypeIs (.ref a) "dict" := by
  rcases g with ⟨kvs, k, ⟨hd, vs, rel, dd⟩, ey, l⟩ | ⟨kvs, k, b, ⟨hd, xs, rel, dd⟩, ey, eb, l⟩
  · exact (dd _ I.kIn).typeIs
  · exact (dd _ I.kIn).typeIs
end
/-- d[y], y in d, y not in d: d a dict of the top -/
def tKGet (P : Program) (w : World) (K : PySem.W.Frag) (td ty : TE) : TE := fun σ H Q => td σ H fun x H1 => ty σ H1 fun y H2 => ∃ a v, x = .ref a ∧ KGet P w K H2 a y (some v) ∧ Q v H2
def tKIn (P : Program) (w : World) (K : PySem.W.Frag) (ty td : TE) : TE := fun σ H Q => ty σ H fun y H1 => td σ H1 fun x H2 => ∃ a o, x = .ref a ∧ KGet P w K H2 a y o ∧ Q (.bl o.isSome) H2
def tKNotIn (P : Program) (w : World) (K : PySem.W.Frag) (ty td : TE) : TE := fun σ H Q => ty σ H fun y H1 => td σ H1 fun x H2 => ∃ a o, x = .ref a ∧ KGet P w K H2 a y o ∧ Q (.bl (!o.isSome)) H2
section
variable {X : Cx} {o i e value : Expr} {pos pos' tpos : Pos} {td ty tv : TE}
theorem pe_kget (hu : X.A.units + 1 < cLine) (ho : PE X o td) (hi : PE X i ty) (hs : NoSl i) : PE X (.Subscript o i pos) (tKGet X.prog X.w X.K td ty) := by
  intro pins s σ H Q I h
  refine subD_of PySem.F.slot_dict_getitem.lookup hs (thn (ho pins s σ H _ I h) fun u s1 ⟨x, H1, I1, rx, q1⟩ => thn (hi pins s1 σ H1 _ I1 q1) fun iv s2 ⟨y, H2, I2, ry, a, v, ex, g, q2⟩ => ?_)
  subst ex
  obtain rfl : u = Value.ref a := rx
  exact ⟨k_typeIs I2 g, k_getItem hu I2 g ry fun w' s3 I3 rw' => ⟨v, H2, I3, rw', q2⟩⟩
theorem pc_kin (hu : X.A.units + 1 < cLine) (hi : PE X i ty) (ho : PE X o td) : PC X .In i o (tKIn X.prog X.w X.K ty td) := by
  intro pins s σ H Q I h
  refine thn (hi pins s σ H _ I h) fun iv s1 ⟨y, H1, I1, ry, q1⟩ => thn (ho pins s1 σ H1 _ I1 q1) fun u s2 ⟨x, H2, I2, rx, a, ov, ex, g, q2⟩ => ?_
  subst ex
  obtain rfl : u = Value.ref a := rx
  exact k_in hu I2 g ry fun s3 I3 => ⟨.bl ov.isSome, H2, I3, rfl, q2⟩
theorem pc_knotin (hu : X.A.units + 1 < cLine) (hi : PE X i ty) (ho : PE X o td) : PC X .NotIn i o (tKNotIn X.prog X.w X.K ty td) := by
  intro pins s σ H Q I h
  refine thn (hi pins s σ H _ I h) fun iv s1 ⟨y, H1, I1, ry, q1⟩ => thn (ho pins s1 σ H1 _ I1 q1) fun u s2 ⟨x, H2, I2, rx, a, ov, ex, g, q2⟩ => ?_
  subst ex
  obtain rfl : u = Value.ref a := rx
  exact k_notIn hu I2 g ry fun s3 I3 => ⟨.bl (!ov.isSome), H2, I3, rfl, q2⟩
end
/-- a dict keyed by texts, out of the fragment -/
theorem topK_texts {P : Program} {w : World} {K : PySem.W.Frag} {a : Addr} {xs : List (Str × Nat × Value)} {kvs : List (Key × V)} {n : Nat} (hl : K.lookup a = some ⟨.type "dict", none, .dict (xs.map fun x => (⟨PyData.keyHash w.params x.1, .str x.1 x.2.1, x.2.2⟩ : DictEntry)).toArray n, #[]⟩)
    (hs : (a == sysModules) = false) (hk : KV kvs (xs.map fun x => ((Sum.inr x.1 : Key), x.2.2))) (nd : (xs.map (·.1)).Nodup) : TopK P w K a kvs := by
  refine ⟨hs, _, hk, fun h X => ⟨_, _, _, X _ _ hl, ⟨rfl, rfl, rfl⟩, rfl, ?_, ?_, ?_⟩⟩
  · intro e he
    simp only [List.mem_toArray, List.mem_map] at he
    obtain ⟨x, _, rfl⟩ := he
    exact ⟨.inr x.1, keyIs_str x.1 x.2.1, rfl⟩
  · simp only
    clear hl hk nd
    induction xs with
    | nil => exact .nil
    | cons x r ih => exact .cons (keyIs_str x.1 x.2.1) rfl ih
  · rw [List.map_map]
    have : ((fun kv : Key × Value => kv.1) ∘ fun x : Str × Nat × Value => ((Sum.inr x.1 : Key), x.2.2)) = (fun x => Sum.inr x.1) := rfl
    rw [this]
    have e : (xs.map fun x => (Sum.inr x.1 : Key)) = (xs.map (·.1)).map Sum.inr := by rw [List.map_map]; rfl
    rw [e]
    exact List.pairwise_map.mpr (List.Pairwise.imp (fun h h' => h (Sum.inr.inj h')) nd)
/-- a dict keyed by pairs of texts -/
theorem topT_pairs {P : Program} {w : World} {K : PySem.W.Frag} {a : Addr} {xs : List ((Str × Nat) × (Str × Nat) × Addr × Value)} {kvs : List (List Key × V)} {n : Nat}
    (hl : K.lookup a = some ⟨.type "dict", none, .dict (xs.map fun x => (⟨reduceHash (Builtin.Tuple.tupleHashOf [PyData.keyHash w.params x.1.1, PyData.keyHash w.params x.2.1.1]), .ref x.2.2.1, x.2.2.2⟩ : DictEntry)).toArray n, #[]⟩)
    (ht : ∀ x ∈ xs, K.lookup x.2.2.1 = some ⟨.type "tuple", none, .seq #[.str x.1.1 x.1.2, .str x.2.1.1 x.2.1.2] 0, #[]⟩)
    (hs : (a == sysModules) = false) (hk : Paired (fun (p : List Key × V) (q : List Key × Addr × Value) => p.1 = q.1 ∧ RelV p.2 q.2.2) kvs (xs.map fun x => ([(Sum.inr x.1.1 : Key), Sum.inr x.2.1.1], x.2.2.1, x.2.2.2)))
    (nd : (xs.map fun x => (x.1.1, x.2.1.1)).Nodup) : TopT P w K a kvs := by
  refine ⟨hs, _, hk, fun h X => ⟨_, _, _, X _ _ hl, ⟨rfl, rfl, rfl⟩, rfl, ?_, ?_, ?_⟩⟩
  · rw [List.map_map]; rfl
  · intro y hy
    obtain ⟨x, hx, rfl⟩ := List.mem_map.mp hy
    exact ⟨_, _, _, X _ _ (ht x hx), rfl, rfl, .cons (keyIs_str x.1.1 x.1.2) (.cons (keyIs_str x.2.1.1 x.2.1.2) .nil)⟩
  · rw [List.map_map]
    have e : (xs.map ((fun y : List Key × Addr × Value => y.1) ∘ fun x => ([(Sum.inr x.1.1 : Key), Sum.inr x.2.1.1], x.2.2.1, x.2.2.2))) = (xs.map fun x => (x.1.1, x.2.1.1)).map fun p => [(Sum.inr p.1 : Key), Sum.inr p.2] := by rw [List.map_map]; rfl
    rw [e]
    refine List.pairwise_map.mpr (List.Pairwise.imp (fun {p q} h h' => h ?_) nd)
    injection h' with h1 h2
    injection h2 with h2 _
    exact Prod.ext (Sum.inr.inj h1) (Sum.inr.inj h2)
end L2

set_option Elab.async false
set_option linter.all false
set_option maxRecDepth 100000
namespace L2
open PySem PySem.Spec PyProof.Rows PySem.Builtin

/-! ### f-strings of texts -/
def tF (tv : TE) : TE := fun σ H Q => tv σ H fun x H1 => ∃ t : Str, x = .str t ∧ t.length ≤ sizeLine ∧ Q (.str t) H1
def tFr (tv : TE) : TE := fun σ H Q => tv σ H fun x H1 => ∃ t : Str, x = .str t ∧ (reprText t).length ≤ sizeLine ∧ Q (.str (reprText t)) H1
def tParts : List TE → Str → TE
  | [], out => fun _ H Q => out.length ≤ sizeLine ∧ Q (.str out) H
  | t :: r, out => fun σ H Q => t σ H fun x H1 => ∃ y : Str, x = .str y ∧ (out ++ y).length ≤ sizeLine ∧ tParts r (out ++ y) σ H1 Q
inductive PFs (X : Cx) : List Expr → List TE → Prop
  | nil : PFs X [] []
  | cons {e : Expr} {t : TE} {es : List Expr} {ts : List TE} : PE X e t → PFs X es ts → PFs X (e :: es) (t :: ts)
section
variable {X : Cx} {e v₁ v₂ : Expr} {es : List Expr} {ts : List TE} {tv : TE} {pos : Pos}
theorem pe_fplain (h : PE X e tv) : PE X (.FormattedValue e (-1) none pos) (tF tv) := by
  intro pins s σ H Q I hq
  refine wpAny_FormattedValue_plain (thn (h pins s σ H _ I hq) fun u s1 ⟨x, H1, I1, r, t, ex, hz, q⟩ => ?_)
  subst ex
  obtain ⟨tk, rfl⟩ := r
  exact formatField_str (fun t' tk' => ⟨.str t, H1, I1.tok tk', ⟨t', rfl⟩, q⟩) hz
theorem pe_frepr (h : PE X e tv) : PE X (.FormattedValue e 114 none pos) (tFr tv) := by
  intro pins s σ H Q I hq
  refine wpAny_FormattedValue_repr (thn (h pins s σ H _ I hq) fun u s1 ⟨x, H1, I1, r, t, ex, hz, q⟩ => ?_)
  subst ex
  obtain ⟨tk, rfl⟩ := r
  refine wpAny_pyReprObj_str ?_ hz
  exact formatField_str (fun t' tk' => ⟨.str (reprText t), H1, I1.tok tk', ⟨t', rfl⟩, q⟩) hz
theorem joins {pins : List (Addr × Obj)} {σ : St} {Q : VK} : ∀ {es : List Expr} {ts : List TE}, PFs X es ts → ∀ {out : Str} {s : Shared} {H : Hp}, Inv X pins σ H s → tParts ts out σ H Q → wpAny (model X.prog X.w) X.A (joinParts out (evalEach es X.env)) (EP X pins σ Q) X.xe s
  | _, _, .nil, out, s, H, I, ⟨hz, q⟩ => joinParts_nilE (joinParts_nil ⟨.str out, H, I.tok _, ⟨_, rfl⟩, q⟩ hz)
  | _, _, .cons he hr, out, s, H, I, hq => by
    refine joinParts_consE (joinParts_cons (thn (he pins s σ H _ I hq) fun u s1 ⟨x, H1, I1, r, y, ex, hz, q⟩ => ?_))
    subst ex
    obtain ⟨tk, rfl⟩ := r
    exact ⟨hz, joins hr I1 q⟩
theorem pe_joined (h : PFs X (v₁ :: v₂ :: es) ts) : PE X (.JoinedStr (v₁ :: v₂ :: es) pos) (tParts ts Str.empty) := by
  intro pins s σ H Q I hq
  rw [arm_eval_JoinedStr]
  show wpAny _ _ (joinParts Str.empty (evalEach (v₁ :: v₂ :: es) X.env)) _ _ _
  exact joins h I hq
end
end L2

set_option Elab.async false
set_option linter.all false
set_option maxRecDepth 100000
namespace L2
open PySem PySem.Spec PyProof.Rows

/-! ### a def of the text that may raise, for its callers -/
structure FnX (P : Program) (w : World) (K : PySem.W.Frag) (mg : Str → Option Value) (base : Heap) (x : Str) (k : Nat) (sp : Sp) : Prop where
  ex : ∃ (f : Addr) (fd : FuncData) (ps : List Str), FnOk P w K mg base (CX1 P w) k f fd ps sp ∧ mg x = some (.ref f) ∧ PySem.W.keepIn K (.ref f) = true ∧ Binds K fd ps []
theorem FnX.mk' {P : Program} {w : World} {K : PySem.W.Frag} {mg : Str → Option Value} {base : Heap} {x : Str} {k : Nat} {sp : Sp} {f : Addr} {fd : FuncData} {ps : List Str} (ok : FnOk P w K mg base (CX1 P w) k f fd ps sp) (m : mg x = some (.ref f))
    (kp : PySem.W.keepIn K (.ref f) = true) (b : Binds K fd ps []) : FnX P w K mg base x k sp := ⟨f, fd, ps, ok, m, kp, b⟩
theorem Fn.x {P : Program} {w : World} {K : PySem.W.Frag} {mg : Str → Option Value} {base : Heap} {x : Str} {k : Nat} {sp : Sp} (G : Fn P w K mg base x k sp) : FnX P w K mg base x k sp :=
  let ⟨f, fd, ps, ok, m, kp, b⟩ := G.ex; ⟨f, fd, ps, ok.calm, m, kp, b⟩
section
variable {X : Cx} {x : Str} {p pos : Pos} {e : Expr} {es : List Expr} {t : TA} {k j : Nat} {sp : Sp} {E : XK}
theorem pe_fnX (G : FnX X.prog X.w X.K X.mg X.base x j sp) (hx : Passes (CX1 X.prog X.w) X E) (hr : Room k X.A) (hg : Gl X x) (ha : PA X (e :: es) t) (hj : j ≤ k := by decide) (hdb : (x == ("__debug__" : Str)) = false := by decide)
    (he : starEach (e :: es) X.env = (false, eval e X.env) :: starEach es X.env := by rfl) (hpl : (backTo pos (starEach es X.env)).any (·.1) = false := by rfl) : PE X (.Call (.Name x p) (e :: es) [] pos) (tCall sp [] E t) := by
  obtain ⟨f, fd, ps, F, hm, hk, hb⟩ := G.ex
  exact pe_call F (hr.mono hj) hg hm hk hb .nil hx ha hdb he hpl
/-- nothing is raised -/
theorem passN : Passes (CX1 X.prog X.w) X E0 := fun _ _ _ _ _ _ _ h => by
  obtain ⟨_, _, _, _, _, _, _, _, _, _, _, _, q⟩ := h
  exact False.elim q
/-- what a callee raises goes on -/
theorem passR (O : Own X) : Passes (CX1 X.prog X.w) (X.wish (XQ X E)) E := passes1 (X := X.wish (XQ X E)) (F := fun _ _ => True) O.wish fun _ _ h => h.unwish
end
/-! a try of it -/
section
variable {P : Program} {w : World} {K : PySem.W.Frag} {mg : Str → Option Value} {base : Heap}
def spTest (c : Addr) : Sp := fun vs H Q E => ∃ k : Str, vs = [.str k] ∧ (reprText k).length ≤ 1000 ∧ if k = "row" ∨ k = "number" then Q .non H else E (.ref c) none H
end
end L2

set_option Elab.async false
set_option linter.all false
set_option maxRecDepth 100000
namespace HT
open PySem PySem.Spec PyProof.Rows
section
variable {prog : Program} {w : World} {A : Around} {E : Value → Shared → Prop} {s : Shared}
/-- t[a:b], the whole: t itself -/
theorem getItem_tuple_all {t sl : Addr} {items : Array Value} {vl vu : Value} {lo hi : Option Int} {Q : Value → Shared → Prop} (ht : IsTup s.heap t items) (hs : s.heap.IsSliceOf sl vl vu .none) (pl : IsPart vl lo) (pu : IsPart vu hi)
    (hw : sIx items.size 0 lo = 0 ∧ sIx items.size items.size hi = items.size) (h : Q (.ref t) s) (hsz : items.size ≤ sizeLine) : wpAny (model prog w) A (getItem (.ref t) (.ref sl)) Q E s := by
  obtain ⟨os, hos, hcs, hds⟩ := id hs
  have hTs : s.TypeIs (.ref sl) "slice" := ⟨os, hos, hcs⟩
  unfold getItem
  refine wpAny_holding ?_
  refine wpAny_bind (wpAny_sequenceKey ht.typeIs (by decide) ?_)
  refine wpAny_bind (wpAny_callSpecial?_slot (name := Str.ofString "__getitem__") ht.typeIs PyProof.Rows.slot_tuple_getitem
    (wpAny_call_entry PyProof.Rows.slot_tuple_getitem ht.typeIs entry_tuple_getitem ?_ (args_tuple_getitem _ _)))
  show wpAny _ _ (Builtin.Tuple.tupleItemsOf (.ref t) >>= _) _ _ s
  refine wpAny_bind (tupleItemsOf_ ht ?_)
  refine wpAny_bind (wpAny_typeOf hTs ?_)
  rw [if_pos (by decide)]
  refine wpAny_bind (sliceApplied_gen hs pl pu ?_)
  have hyes : (((sIx items.size 0 lo : Nat) : Int) == 0 && (1 : Int) == 1 && (sIx items.size items.size hi - sIx items.size 0 lo) == items.size) = true := by rw [hw.1, hw.2]; simp
  show wpAny _ _ (if (((sIx items.size 0 lo : Nat) : Int) == 0 && (1 : Int) == 1 && (sIx items.size items.size hi - sIx items.size 0 lo) == items.size) = true then _ else _) _ _ s
  rw [if_pos hyes]
  refine wpAny_bind (m := Builtin.Tuple.tupleIsExact _) ?_
  unfold Builtin.Tuple.tupleIsExact
  refine wpAny_bind (wpAny_typeOf ht.typeIs ?_)
  refine wpAny_pure ?_
  rw [if_pos (by decide)]
  exact wpAny_bind (wpAny_rule (wpAny_pure ⟨_, rfl, wpAny_pure h⟩))
end
end HT
namespace L2
open PySem PySem.Spec PyProof.Rows
/-- t[a:b], whatever it is: the whole is t itself -/
def rSlT' (K : PySem.W.Frag) : V → Option Int → Option Int → Hp → VK → Prop := fun x lo hi H Q => ∃ a xs, x = .ref a ∧ SqT K H a xs ∧
  ((HT.sIx xs.length 0 lo = 0 ∧ HT.sIx xs.length xs.length hi = xs.length ∧ Q (.ref a) H) ∨ (¬ (HT.sIx xs.length 0 lo = 0 ∧ HT.sIx xs.length xs.length hi = xs.length) ∧ ∀ p, H p = none → Q (.ref p) (upd H p (.tup (cutV xs lo hi)))))
theorem sl_tup' {X : Cx} : SlR X (rSlT' X.K) := by
  intro pins s σ H x v vl vu lo hi sl Q I rx hs pl pu h
  obtain ⟨a, xs, rfl, hx, h⟩ := h
  rcases h with ⟨h1, h2, q⟩ | ⟨hw, q⟩
  · cases rx
    obtain ⟨its, r, ht, hz⟩ := I.tuple hx
    have hlen : its.toArray.size = xs.length := by rw [List.size_toArray]; exact r.length.symm
    refine ⟨"tuple", _, PyProof.Rows.slot_tuple_getitem.lookup, ht.typeIs, ?_⟩
    exact HT.getItem_tuple_all ht hs pl pu (by rw [hlen]; exact ⟨h1, h2⟩) ⟨.ref a, H, I, rfl, q⟩ (by rw [hlen]; exact hz)
  · exact sl_tup pins s σ H _ v vl vu lo hi sl Q I rx hs pl pu ⟨a, xs, rfl, hx, hw, q⟩
end L2

set_option Elab.async false
set_option linter.all false
set_option maxRecDepth 100000
namespace L2
open PySem PySem.Spec PyProof.Rows

/-! ### isinstance, also of tuples and lists of the top, also with several types -/
def TyX (K : PySem.W.Frag) (H : Hp) (x : V) (t : Value) : Prop :=
  TyOf K H x t ∨ (t = .type "tuple" ∧ ∃ a ys, x = .ref a ∧ SqT K H a ys) ∨ (t = .type "list" ∧ ∃ a ys, x = .ref a ∧ SqL K H a ys)
section
variable {X : Cx} {pins : List (Addr × Obj)} {σ : St} {H : Hp} {s : Shared}
theorem kit_of {x : V} {u t : Value} (I : Inv X pins σ H s) (rx : RelV x u) (ty : TyX X.K H x t) : ∃ Z, PySem.W.KitX X.K u t Z ∧ Z s.heap ∧ u ≠ .builtin "__main__.__loader__#opaque" := by
  rcases ty with ty | ⟨rfl, a, ys, rfl, h⟩ | ⟨rfl, a, ys, rfl, h⟩
  · cases ty with
    | non => obtain rfl : u = Value.none := rx; exact ⟨_, PySem.W.kitx_none, True.intro, fun z => nomatch z⟩
    | bl y => obtain rfl : u = Value.bool y := rx; exact ⟨_, PySem.W.kitx_bool, True.intro, fun z => nomatch z⟩
    | int i => obtain ⟨_, rfl⟩ := rx; exact ⟨_, PySem.W.kitx_int, True.intro, fun z => nomatch z⟩
    | str y => obtain ⟨_, rfl⟩ := rx; exact ⟨_, PySem.W.kitx_str, True.intro, fun z => nomatch z⟩
    | flt y => obtain ⟨_, rfl⟩ := rx; exact ⟨_, PySem.W.kitx_float, True.intro, fun z => nomatch z⟩
    | @lst a xs ea =>
      obtain rfl : u = Value.ref a := rx
      obtain ⟨_, _, n, _, h1⟩ := I.hok a _ ea
      exact ⟨_, PySem.W.kitx_list, ⟨_, h1, rfl⟩, fun z => nomatch z⟩
    | @frz a ob xs ea =>
      obtain rfl : u = Value.ref a := rx
      obtain ⟨_, _, _, n, _, h1⟩ := I.hok a _ ea
      exact ⟨_, PySem.W.kitx_list, ⟨_, h1, rfl⟩, fun z => nomatch z⟩
    | @tup a xs ea =>
      obtain rfl : u = Value.ref a := rx
      obtain ⟨_, _, _, p⟩ := I.hok a _ ea
      obtain ⟨o, h1, h2, _⟩ := p
      exact ⟨_, PySem.W.kitx_tuple, ⟨o, h1, h2⟩, fun z => nomatch z⟩
    | @dK a kvs ea =>
      obtain rfl : u = Value.ref a := rx
      obtain ⟨_, _, vs, _, p⟩ := I.hok a _ ea
      obtain ⟨o, es, ep, h1, h2, _⟩ := p
      exact ⟨_, PySem.W.kitx_dict, ⟨o, h1, h2.1⟩, fun z => nomatch z⟩
    | @dT a kvs ea =>
      obtain rfl : u = Value.ref a := rx
      obtain ⟨_, _, xs, _, o, es, ep, h1, h2, _⟩ := I.hok a _ ea
      exact ⟨_, PySem.W.kitx_dict, ⟨o, h1, h2.1⟩, fun z => nomatch z⟩
    | @ins a C dx fs ea cl ha hn htk hm =>
      obtain rfl : u = Value.ref a := rx
      obtain ⟨mA, O, _⟩ := ins_get I.hok ea
      obtain ⟨od, J, _⟩ := O.look
      exact ⟨_, PySem.W.kitx_own (cl.get _) cl.hd ha hn htk hm, J, fun z => nomatch z⟩
  · obtain rfl : u = Value.ref a := rx
    obtain ⟨its, rv, ⟨o, e, hc, n, hd⟩, _⟩ := I.tuple h
    exact ⟨_, PySem.W.kitx_tuple, ⟨o, e, hc⟩, fun z => nomatch z⟩
  · obtain rfl : u = Value.ref a := rx
    obtain ⟨its, rv, ⟨o, n, e, hc, _⟩, _⟩ := I.list h
    exact ⟨_, PySem.W.kitx_list, ⟨o, e, hc⟩, fun z => nomatch z⟩
theorem vals_ty : ∀ {Ts : List String} {us : List Value}, Vals (Ts.map V.ty) us → us = Ts.map Value.type
  | [], us, r => by cases r; rfl
  | T :: Ts, us, r => by
    cases r with
    | cons r1 r2 =>
      rw [show _ = Value.type T from r1, vals_ty r2]
      rfl
end
def rIsi2 (K : PySem.W.Frag) : List V → Hp → VK → Prop := fun xs H Q => ∃ x c t b, xs = [x, c] ∧ TyX K H x t ∧
  ((∃ T, c = .ty T ∧ PySem.W.kitOne K t (.type T) = some b) ∨ ∃ (p : Addr) (Ts : List String), c = .ref p ∧ H p = some (.tup (Ts.map V.ty)) ∧ PySem.W.kitAny K t (Ts.map Value.type) = some b) ∧ Q (.bl b) H
section
variable {X : Cx}
theorem call_isi2 : CallR X (.builtin "isinstance") (rIsi2 X.K) := by
  intro pins s σ H xs us Q I r h
  obtain ⟨x, c, t, b, rfl, ty, hc, q⟩ := h
  obtain ⟨u, w', rfl, rx, rt⟩ := vals2 r
  obtain ⟨Z, hz, hp, hne⟩ := kit_of I rx ty
  rcases hc with ⟨T, rfl, e⟩ | ⟨p, Ts, rfl, hpp, e⟩
  · cases (show w' = Value.type T from rt)
    exact PySem.W.kia_one hz I.kIn hp e hne fun tk => ⟨.bl b, H, I.tok tk, rfl, q⟩
  · cases (show w' = Value.ref p from rt)
    obtain ⟨its, rv, ⟨⟨cls, dd, data, sl⟩, ho, hc, n, hd⟩, _⟩ := I.tuple (SqT.of hpp)
    simp only at hc hd
    subst hc hd
    rw [vals_ty rv] at ho
    exact PySem.W.kia_tup hz I.kIn hp ho e hne fun tk => ⟨.bl b, H, I.tok tk, rfl, q⟩
end
/-! ### sealed forms: the checker of terms does not look into them (a dict display written out is dear otherwise) -/
structure S1 (X : Cx) (st : Stmt) (t : TS) : Prop where
  out : PS X st t
structure SSs (X : Cx) (st : List Stmt) (t : TS) : Prop where
  out : PSs X st t
structure SPs (X : Cx) (pos : Pos) (keys : List (Option Expr)) (values : List Expr) (trs : List (TE × TE)) : Prop where
  out : PPs X pos keys values trs
section
variable {X : Cx} {pos : Pos}
theorem sss_cons {st : Stmt} {rest : List Stmt} {t u : TS} (h1 : S1 X st t) (h2 : SSs X rest u) : SSs X (st :: rest) (tSeq t u) := ⟨pss_cons h1.out h2.out⟩
theorem sss_one {st : Stmt} {t : TS} (h1 : S1 X st t) : SSs X [st] t := ⟨pss_one h1.out⟩
theorem sps_nil : SPs X pos [] [] [] := ⟨pps_nil⟩
theorem sps_cons {k v : Expr} {ks : List (Option Expr)} {vs : List Expr} {tk tv : TE} {trs : List (TE × TE)} (hk : PE X k tk) (hv : PE X v tv) (hr : SPs X pos ks vs trs) : SPs X pos (some k :: ks) (v :: vs) ((tk, tv) :: trs) := ⟨pps_cons hk hv hr.out⟩
theorem s1_disp {i : Nat} {x : Str} {pos' dpos : Pos} {keys : List (Option Expr)} {values : List Expr} {trs : List (TE × TE)} (hN : X.N.Nodup) (hi : X.N[i]? = some x) (hx : Loc X.env.scope x) (h : SPs X dpos keys values trs) (hall : keys.all (·.isSome) = true)
    (hl : keys.length = values.length) (h0 : keys ≠ []) (h15 : keys.length ≤ 15) (hf : X.fn x = true ∨ X.env.scope.names.lookup x = some .local := by first | exact .inl rfl | exact .inr rfl | assumption) :
    S1 X (.Assign [.Name x pos'] (.Dict keys values dpos) pos) (tAsg (tDisp trs) (gName i)) := ⟨ps_set hN hi hx (pe_disp h.out hall hl h0 h15) (hf := hf)⟩
end
end L2

set_option Elab.async false
set_option linter.all false
set_option maxRecDepth 100000
namespace L2
open PySem PySem.Spec PyProof.Rows
open PySem.SeqAt (noMix noMixAll)

/-! ### any, all of a list of bools -/
section
variable {X : Cx}
theorem vals_bl : ∀ {bs : List Bool} {us : List Value}, Vals (bs.map V.bl) us → us = bs.map Value.bool
  | [], us, r => by cases r; rfl
  | b :: bs, us, r => by
    cases r with
    | cons r1 r2 =>
      rw [show _ = Value.bool b from r1, vals_bl r2]
      rfl
theorem call_anyB (hc : X.calm = true) : CallR X (.builtin "any") (fun xs H Q => ∃ (p : Addr) (bs : List Bool), xs = [.ref p] ∧ SqL X.K H p (bs.map V.bl) ∧ Q (.bl (bs.any id)) H) := by
  intro pins s σ H xs us Q I r h
  obtain ⟨p, bs, rfl, hq, q⟩ := h
  obtain ⟨u, rfl, ru⟩ := vals1 r
  cases (show u = Value.ref p from ru)
  obtain ⟨its, rv, pl, hz⟩ := I.list hq
  have hl := pl.isList
  have hb := vals_bl rv
  subst hb
  have hlt : p < s.heap.objs.size := by obtain ⟨_, e, _⟩ := hl; exact Heap.lt_size e
  refine call_any_walk (wpAny_pyIter_list hl ?_)
  refine ⟨s.heap.objs.size, [s.heap.objs.size, p], [s.heap.objs.size], (bs.map Value.bool).toArray.size, _, _, fun i => (bs[i]?).getD false, rfl, Walks.list (A := X.A.in1) (I.ok.hd hc) _ p (Nat.ne_of_lt hlt) (bs.map Value.bool).toArray,
    ⟨⟨_, Heap.get?_push_size _ rfl, rfl, rfl⟩, hl.push _⟩, fun i v s' Q' E' hP hQ => ?_, fun h' tk hk => ?_⟩
  · have hP' : (bs.map Value.bool)[i]? = some v := by simpa using hP
    rw [List.getElem?_map] at hP'
    obtain ⟨b, e, rfl⟩ := Option.map_eq_some_iff.mp hP'
    simp only [e, Option.getD_some] at hQ
    exact wpAny_truthy_bool hQ
  · have e : ((List.range (bs.map Value.bool).toArray.size).any fun i => (bs[i]?).getD false) = bs.any id := by
      rw [List.size_toArray, List.length_map]; exact LSm.range_any bs
    rw [e]
    exact ⟨.bl (bs.any id), H, I.kept (t' := tk) (LSm.kept_iter hk), rfl, q⟩
theorem call_allB (hc : X.calm = true) : CallR X (.builtin "all") (fun xs H Q => ∃ (p : Addr) (bs : List Bool), xs = [.ref p] ∧ SqL X.K H p (bs.map V.bl) ∧ Q (.bl (bs.all id)) H) := by
  intro pins s σ H xs us Q I r h
  obtain ⟨p, bs, rfl, hq, q⟩ := h
  obtain ⟨u, rfl, ru⟩ := vals1 r
  cases (show u = Value.ref p from ru)
  obtain ⟨its, rv, pl, hz⟩ := I.list hq
  have hl := pl.isList
  have hb := vals_bl rv
  subst hb
  have hlt : p < s.heap.objs.size := by obtain ⟨_, e, _⟩ := hl; exact Heap.lt_size e
  refine call_all_walk (wpAny_pyIter_list hl ?_)
  refine ⟨s.heap.objs.size, [s.heap.objs.size, p], [s.heap.objs.size], (bs.map Value.bool).toArray.size, _, _, fun i => (bs[i]?).getD true, rfl, Walks.list (A := X.A.in1) (I.ok.hd hc) _ p (Nat.ne_of_lt hlt) (bs.map Value.bool).toArray,
    ⟨⟨_, Heap.get?_push_size _ rfl, rfl, rfl⟩, hl.push _⟩, fun i v s' Q' E' hP hQ => ?_, fun h' tk hk => ?_⟩
  · have hP' : (bs.map Value.bool)[i]? = some v := by simpa using hP
    rw [List.getElem?_map] at hP'
    obtain ⟨b, e, rfl⟩ := Option.map_eq_some_iff.mp hP'
    simp only [e, Option.getD_some] at hQ
    exact wpAny_truthy_bool hQ
  · have e : ((List.range (bs.map Value.bool).toArray.size).all fun i => (bs[i]?).getD true) = bs.all id := by
      rw [List.size_toArray, List.length_map]; exact LSm.range_all bs
    rw [e]
    exact ⟨.bl (bs.all id), H, I.kept (t' := tk) (LSm.kept_iter hk), rfl, q⟩

/-! ### sorted of a list of ints -/
theorem call_sortedI : CallR X (.builtin "sorted") (fun xs H Q => ∃ (p : Addr) (ns : List Int), xs = [.ref p] ∧ SqL X.K H p (ns.map V.int) ∧ ns.length < 64 ∧
    ∀ (l : Addr) (ns' : List Int), H l = none → ns'.Perm ns → ns'.Pairwise (· ≤ ·) → Q (.ref l) (upd H l (.lst (ns'.map V.int)))) := by
  intro pins s σ H xs us Q I r h
  obtain ⟨p, ns, rfl, hq, h64, q⟩ := h
  obtain ⟨u, rfl, ru⟩ := vals1 r
  cases (show u = Value.ref p from ru)
  obtain ⟨its, rv, pl, hz⟩ := I.list hq
  have hi : IntsAre its ns := intsAre_of rv
  have hlen : its.length = ns.length := by have := rv.length; rw [List.length_map] at this; omega
  have hsz : sizeLine = 16777216 := sizeLine_eq
  refine sorted_ints pl.isList hi (by omega) fun out ns' a1 a2 a3 => ?_
  obtain ⟨e, he⟩ := sortedAll_at s.heap its out
  refine ⟨.ref _, _, I.laid (a := s.heap.objs.size + 1) (t' := s.toks) (fun b o e => sortedAll_old e) (Nat.le_succ _) (show ObjOk X.prog X.w _ _ _ (.lst (ns'.map V.int)) from ⟨?_, out.toList, e, vals_ints a1, ?_⟩), rfl, q _ ns' (I.hok.fresh (Nat.le_succ _)) a2 a3⟩
  · rw [List.length_map, a2.length_eq]; omega
  · rw [he]

/-! ### list(range(n)) -/
theorem vals_at : ∀ {xs : List V} {us : List Value}, xs.length = us.length → (∀ (i : Nat) x y, xs[i]? = some x → us[i]? = some y → RelV x y) → Vals xs us
  | [], [], _, _ => .nil
  | [], _ :: _, h, _ => by simp at h
  | _ :: _, [], h, _ => by simp at h
  | x :: xs, u :: us, h, f => .cons (f 0 x u rfl rfl) (vals_at (by simpa using h) fun i y z hy hz => f (i + 1) y z (by simpa using hy) (by simpa using hz))
theorem call_rangeE : CallR X (.type "range") (fun xs H Q => ∃ n : Int, xs = [.int n] ∧ ∀ l, H l = none → Q (.ref l) (upd H l (.rng 0 n))) := by
  intro pins s σ H xs us Q I r h
  obtain ⟨n, rfl, q⟩ := h
  obtain ⟨u, rfl, t, rfl⟩ := vals1 r
  refine call_range_1 ?_
  exact ⟨.ref _, _, I.laid (a := s.heap.objs.size) (t' := s.toks + 1 + 1) (fun b o e => Heap.get?_push_of_some _ e) (Nat.le_refl _) (show ObjOk X.prog X.w _ _ _ (.rng 0 n) from ⟨_, _, _, Heap.get?_push_size _ rfl⟩), rfl, q _ (I.hok.fresh (Nat.le_refl _))⟩
theorem call_listR (hc : X.calm = true) : CallR X (.type "list") (fun xs H Q => ∃ (p : Addr) (n : Int), xs = [.ref p] ∧ H p = some (.rng 0 n) ∧ 0 ≤ n ∧ n ≤ 1000000 ∧ ∀ l, H l = none → Q (.ref l) (upd H l (.lst ((iotaZ 0 n.toNat).map V.int)))) := by
  intro pins s σ H xs us Q I r h
  obtain ⟨p, n, rfl, hp, h0, h1, q⟩ := h
  obtain ⟨u, rfl, ru⟩ := vals1 r
  cases (show u = Value.ref p from ru)
  have hsz : sizeLine = 16777216 := sizeLine_eq
  obtain ⟨t, u, v, e⟩ := (show ObjOk X.prog X.w H s.heap p (.rng 0 n) from I.hok p _ hp)
  have hr : Builtin.Range.rangeSize 0 n 1 = ((n.toNat : Nat) : Int) := by rw [rangeSize_one]; split <;> omega
  refine call_list_range (I.ok.hd hc) e (small_one (by omega) (by omega) (by omega) (by omega)) hr (by omega) fun h' tk acc' c' kp eL hI => ?_
  have hv : Vals ((iotaZ 0 n.toNat).map V.int) acc'.toList := by
    obtain ⟨hs, ha⟩ := hI
    refine vals_at (by rw [List.length_map]; simp [iotaZ, hs]) fun i x y hx hy => ?_
    rw [List.getElem?_map] at hx
    obtain ⟨z, hz, rfl⟩ := Option.map_eq_some_iff.mp hx
    have hi : i < n.toNat := by
      have := (List.getElem?_eq_some_iff.mp hz).1
      simpa [iotaZ] using this
    obtain ⟨t, e⟩ := ha i y (by simpa using hy)
    have hz' : z = 0 + (i : Int) := by
      have : (iotaZ 0 n.toNat)[i]? = some (0 + (i : Int)) := by simp [iotaZ, hi]
      rw [hz] at this
      exact Option.some.inj this
    exact ⟨t, by rw [e, hz', Int.mul_one]⟩
  exact ⟨.ref _, _, I.laid (a := s.heap.objs.size) (t' := tk) kp (Nat.le_refl _) (show ObjOk X.prog X.w _ _ _ (.lst ((iotaZ 0 n.toNat).map V.int)) from ⟨by rw [List.length_map]; simp [iotaZ]; omega, acc'.toList, c', hv, by rw [eL]⟩), rfl, q _ (I.hok.fresh (Nat.le_refl _))⟩
end

/-! ### enumerate of a list, in a for with two names -/
section
variable {X : Cx} {pins : List (Addr × Obj)} {σ : St} {H : Hp} {s : Shared} {h' : Heap}
/-- two untracked records of ours have turned, and a new object is laid and tracked -/
theorem Inv.turned2 {t' : Nat} {i1 i2 a : Addr} {ob : HO} (I : Inv X pins σ H s) (k : ∀ b o, b ≠ i1 → b ≠ i2 → s.heap.get? b = some o → h'.get? b = some o) (f1 : FpOk X pins H i1) (f2 : FpOk X pins H i2)
    (hp : s.heap.objs.size ≤ a) (new : ObjOk X.prog X.w (upd H a ob) h' a ob) : Inv X pins σ (upd H a ob) { s with heap := h', toks := t' } := by
  have kk : ∀ b o, b ∉ [i1, i2] → s.heap.get? b = some o → h'.get? b = some o := fun b o hc e => k b o (fun z => hc (by simp [z])) (fun z => hc (by simp [z])) e
  have nit : ∀ b u, H b = some u → b ∉ [i1, i2] := fun b u e z => by
    rcases List.mem_cons.mp z with z | z
    · rw [z, f1.1] at e; cases e
    · rw [List.mem_singleton.mp z, f2.1] at e; cases e
  have hn := I.hok.fresh hp
  refine I.step (g' := s.gens) (d' := s.drawn) (ch := [i1, i2]) (fun b hb => ?_) (fun b o _ _ hc e _ => kk b o hc e) (fun b o _ _ hc e _ => ⟨o.slots, kk b o hc e⟩) (fun b o _ q n => by rw [upd_ne (Nat.ne_of_lt (Nat.lt_of_lt_of_le (Heap.lt_size q) hp))]; exact n)
    (fun b o hc e => ⟨o, kk b o hc e⟩) (fun b xs q => by rw [upd_ne (ne_of_none q hn)]; exact q) (fun b o u q => by rw [upd_ne (ne_of_none q hn)]; exact q) (fun b ps q => ⟨#[], by rw [upd_ne (ne_of_none q hn), q]; simp⟩) (fun m hm => ?_) (fun b u e => ?_) I.bare
  · rcases List.mem_cons.mp hb with rfl | hb
    · exact ⟨f1.2.2.2.1, f1.2.1, f1.2.2.2.2.1, f1.2.2.2.2.2⟩
    · rw [List.mem_singleton.mp hb]
      exact ⟨f2.2.2.2.1, f2.2.1, f2.2.2.2.2.1, f2.2.2.2.2.2⟩
  · obtain ⟨o, es, ep, ho, r⟩ := hm
    exact ⟨o, es, ep, k _ o (Ne.symm f1.2.1) (Ne.symm f2.2.1) ho, r⟩
  · by_cases hb : b = a
    · subst hb; rw [upd_same] at e; cases e; exact new
    · rw [upd_ne hb] at e
      refine (I.hok b u e).stay (fun c v hc q => kk c v ?_ q) (fun c q => by rw [upd_ne (ne_of_none q hn)]; exact q) fun c xs q => by rw [upd_ne (ne_of_none q hn)]; exact q
      rcases hc with z | z
      · rw [z]; exact nit b u e
      · exact nit c _ z
end
/-- at turn i: the pair of i and the list's i-th -/
def Ite (K : PySem.W.Frag) (a : Addr) : It :=
  ⟨fun i H => ∃ xs x, SqL K H a xs ∧ xs[i]? = some x, fun i H x H' => ∃ t, x = .ref t ∧ H t = none ∧ ∀ xs y, SqL K H a xs → xs[i]? = some y → H' = upd H t (.tup [.int i, y]), fun i H => ∃ xs, SqL K H a xs ∧ xs.length ≤ i⟩
theorem turn_enum {P : Program} {w : World} {K : PySem.W.Frag} {elts : List Expr} {x1 : Nat} {tpos : Pos} (a e it : Addr) (hei : e ≠ it) : Turn P w K (.Tuple elts x1 tpos) (Ite K a) [e, it] e (fun i h => (∃ old, IsEnum h e it ((i : Nat) : Int) old) ∧ h.IsListIter it a i) where
  mem := by simp
  obj := fun i h ⟨⟨old, he⟩, st⟩ b hb => by
    rcases List.mem_cons.mp hb with rfl | hb
    · exact ⟨_, he, fun v z => by cases (show Data.fields _ = Data.cell v from z)⟩
    · rw [List.mem_singleton.mp hb]
      obtain ⟨o, e, c, d⟩ := st
      exact ⟨o, e, fun v z => by rw [d] at z; cases z⟩
  keep := fun i h h' ⟨⟨old, he⟩, st⟩ k => ⟨⟨old, k e (by simp) _ he⟩, st.at fun o q => k it (by simp) o q⟩
  item := by
    intro X hP hw hK hc i pins s σ H E I hf st hg
    subst hP hw hK
    obtain ⟨⟨old, he⟩, st⟩ := st
    obtain ⟨xs, x, hq, hx⟩ := hg
    obtain ⟨its, rv, p, hz⟩ := I.list hq
    obtain ⟨u, hu, ru⟩ := rv.get hx
    have g1 := hf e (by simp)
    have g2 := hf it (by simp)
    have hsz : sizeLine = 16777216 := sizeLine_eq
    refine wpAny_pyNext_enum_item he st p.isList (x := u) (by simpa using hu) hei fun h' heo hit' ht' hz' k' => ?_
    refine ⟨_, rfl, wpAny_letOwnedTupleGo_enum heo fun h2 he2 hs2 => ?_⟩
    have hlt : e < s.heap.objs.size := Heap.lt_size he
    have k2 : ∀ b o, b ≠ e → b ≠ it → s.heap.get? b = some o → h2.get? b = some o := fun b o b1 b2 q => hs2.extBut b o b1 (k' b o b1 b2 q)
    have ht2 : h2.get? s.heap.objs.size = some { cls := .type "tuple", data := .seq #[.int i s.toks, u] } := hs2.extBut _ _ (Nat.ne_of_gt hlt) ht'
    have hfr := I.hok.fresh (Nat.le_refl s.heap.objs.size)
    have I2 : Inv X pins σ (upd H s.heap.objs.size (.tup [.int i, x])) { s with heap := h2, toks := s.toks + 1 } :=
      I.turned2 k2 g1 g2 (Nat.le_refl _) (show ObjOk X.prog X.w _ h2 _ (.tup [.int i, x]) from ⟨by show 2 ≤ sizeLine; omega, [.int i s.toks, u], .cons ⟨_, rfl⟩ (.cons ru .nil), ⟨_, ht2, rfl, _, rfl⟩⟩)
    have hcast : ((i + 1 : Nat) : Int) = (i : Int) + 1 := by push_cast; rfl
    refine ⟨.ref s.heap.objs.size, _, I2, rfl, ⟨_, rfl, hfr, fun ys y hy hyi => ?_⟩, ⟨⟨u, hcast ▸ he2⟩, hit'.extBut hs2.extBut (Ne.symm hei)⟩, fun b hb => ?_⟩
    · rw [I.list_inj hy hq, hx] at hyi
      rw [Option.some.inj hyi]
    · have hb' : b < s.heap.objs.size := by
        rcases List.mem_cons.mp hb with rfl | hb
        · exact hlt
        · rw [List.mem_singleton.mp hb]
          obtain ⟨o, q, _⟩ := st
          exact Heap.lt_size q
      rw [upd_ne (Nat.ne_of_lt hb')]
      exact (hf b hb).1
  done := by
    intro X hP hw hK hc i pins s σ H E I hf st hg
    subst hP hw hK
    obtain ⟨⟨old, he⟩, st⟩ := st
    obtain ⟨xs, hq, hx⟩ := hg
    obtain ⟨its, rv, p, hz⟩ := I.list hq
    obtain ⟨f0, f1, f2, f3, f4, f5⟩ := hf it (by simp)
    have hl := rv.length
    exact wpAny_pyNext_enum_end (I.ok.hd hc) he st p.isList (by simp; omega) fun h' eb => ⟨rfl, I.turned (t' := s.toks) (fun b o hb e => eb b o hb e) f0 f1 f3 f4 f5⟩
  self := fun _ _ _ _ _ ⟨⟨_, he⟩, _⟩ h => wpAny_pyIter_enum he h
def iEnum (K : PySem.W.Frag) (ta : TA) : TI := fun σ H R => ta σ H fun vs H1 => ∃ a, vs = [.ref a] ∧ (∃ xs, SqL K H1 a xs) ∧ R (Ite K a) H1
section
variable {X : Cx}
theorem pi_enum {a : Expr} {ta : TA} {p pos tpos : Pos} {elts : List Expr} {x1 : Nat} (hg : Gl X "enumerate") (hm : X.mg "enumerate" = none) (ha : PA X [a] ta) (hs : starEach [a] X.env = [(false, eval a X.env)] := by rfl) :
    PI X (.Tuple elts x1 tpos) (.Call (.Name "enumerate" p) [a] [] pos) (iEnum X.K ta) := by
  intro pins s σ H R I h
  refine Call_ (ld_blt I hg hm boot_enumerate (PyProof.Rows.callWith_type1 (thn (ha pos pins s σ H _ I h) fun us s1 ⟨vs, H1, I1, r1, q1⟩ => ?_) hs rfl))
  obtain ⟨l, e, ⟨xs, hq⟩, q⟩ := q1
  subst e
  cases r1 with
  | cons r rr =>
    cases rr
    cases r
    obtain ⟨its, rv, pl, hz⟩ := I1.list hq
    refine call_enumerate_list pl.isList fun h' he hit hsz kp => ?_
    refine wpAny_pyIter_enum (s := { s1 with heap := h' }) he ⟨s1.heap.objs.size + 1, [s1.heap.objs.size + 1, s1.heap.objs.size], _, _, H1, rfl, I1.kept (t' := s1.toks) kp, turn_enum l _ _ (Nat.succ_ne_self _), ⟨⟨_, he⟩, hit⟩, fun b hb => ?_, q⟩
    rcases List.mem_cons.mp hb with rfl | hb
    · exact I1.fpOk (Nat.le_succ _) (I1.hok.fresh (Nat.le_succ _))
    · rw [List.mem_singleton.mp hb]
      exact I1.fpOk (Nat.le_refl _) (I1.hok.fresh (Nat.le_refl _))
/-- a for over it -/
theorem for_enum {K : PySem.W.Frag} {a : Addr} {xs : List V} {g : TG} {tb : TS} {D : Ends} {σ : St} {H : Hp} (Pv : Nat → St → Hp → Prop) (h0 : Pv 0 σ H) (hl : ∀ i σ H, i ≤ xs.length → Pv i σ H → SqL K H a xs)
    (hs : ∀ i x t σ H, xs[i]? = some x → Pv i σ H → H t = none → g (.ref t) σ (upd H t (.tup [.int i, x])) fun σ2 H2 => tb { D with nx := Pv (i + 1), ct := Pv (i + 1), bk := D.nx } σ2 H2) (hd : ∀ σ H, Pv xs.length σ H → D.nx σ H) :
    ∃ W : Nat → Nat → St → Hp → Prop, (∃ m, W 0 m σ H) ∧ ∀ i m σ H, W i m σ H →
      ((Ite K a).stop i H ∧ D.nx σ H) ∨ ((Ite K a).go i H ∧ ∃ N : St → Hp → Prop, (∀ σ' H', N σ' H' → ∃ m', m' < m ∧ W (i + 1) m' σ' H') ∧ ∀ x H', (Ite K a).yld i H x H' → g x σ H' fun σ2 H2 => tb { D with nx := N, ct := N, bk := D.nx } σ2 H2) := by
  refine ⟨fun i m σ H => m = xs.length - i ∧ i ≤ xs.length ∧ Pv i σ H, ⟨xs.length, by simp, Nat.zero_le _, h0⟩, ?_⟩
  rintro i m σ H ⟨rfl, hi, p⟩
  have hq := hl i σ H hi p
  by_cases hlt : i < xs.length
  · refine .inr ⟨⟨xs, xs[i], hq, List.getElem?_eq_getElem hlt⟩, fun σ' H' => Pv (i + 1) σ' H', fun σ' H' p' => ⟨xs.length - (i + 1), by omega, rfl, by omega, p'⟩, ?_⟩
    rintro x H' ⟨t, rfl, ht, hH⟩
    rw [hH xs _ hq (List.getElem?_eq_getElem hlt)]
    exact hs i _ t σ H (List.getElem?_eq_getElem hlt) p ht
  · have e : i = xs.length := by omega
    subst e
    exact .inl ⟨⟨xs, hq, Nat.le_refl _⟩, hd σ H p⟩
end
/-! ### insert -/
section
variable {X : Cx}
def rInsert : V → List V → Hp → VK → Prop := fun x vs H Q => ∃ (l : Addr) (xs : List V) (i : Int) (y : V), x = .ref l ∧ vs = [.int i, y] ∧ H l = some (.lst xs) ∧ 0 ≤ i ∧ i ≤ xs.length ∧ xs.length < sizeLine ∧ Q .non (upd H l (.lst (xs.take i.toNat ++ y :: xs.drop i.toNat)))
theorem mt_insert : MtM X "list.insert" rInsert := by
  intro pins s σ H x vs v us Q I rx rv h
  obtain ⟨l, xs, i, y, rfl, rfl, hH, h0, h1, hz, q⟩ := h
  cases rx
  have hsz : sizeLine = 16777216 := sizeLine_eq
  obtain ⟨u1, u2, rfl, r1, ru⟩ := vals2 rv
  obtain ⟨t, rfl⟩ := (show ∃ t, u1 = Value.int i t from r1)
  obtain ⟨z, its, n, r, hl, e⟩ := I.lstM hH
  have hf : Builtin.List.listFitsIndex i = true := by
    unfold Builtin.List.listFitsIndex
    simp
    omega
  refine call_meets F.slot_list_insert ⟨_, e, rfl⟩ F.entry_list_insert (F.args_list_insert_3 _ _ _) (PySem.AutoSeq1.list_insert_list_int_val_1 l its.toArray n i t u2 (by simp [hf]) (by rw [List.size_toArray]; omega)) ⟨e, ?_⟩
  refine ⟨.non, _, I.lset (its' := its.take i.toNat ++ u2 :: its.drop i.toNat) hH e ?_ ((r.take i.toNat).append (.cons ru (r.drop i.toNat))) ?_, rfl, q⟩
  · have hm : min i.toNat its.length = i.toNat := by omega
    apply Array.toList_inj.mp
    have hn : ¬ i < 0 := by omega
    simp [hn, hm, List.take_append, List.drop_append]
    exact List.take_of_length_le (by rw [List.length_drop]; omega)
  · rw [List.length_append, List.length_cons, List.length_take, List.length_drop]
    omega
end
/-! ### a statement whose branches meet again -/
def tJoin (t : TS) : TS := fun D σ H => ∃ J : St → Hp → Prop, t { D with nx := J } σ H ∧ ∀ σ' H', J σ' H' → D.nx σ' H'
theorem ps_join {X : Cx} {st : Stmt} {t : TS} (h : PS X st t) : PS X st (tJoin t) := by
  intro pins s σ H D I ⟨J, h1, h2⟩
  refine thn (h pins s σ H _ I h1) fun f s' q => ?_
  cases f with
  | next => obtain ⟨σ', H', I', q⟩ := q; exact ⟨σ', H', I', h2 _ _ q⟩
  | brk => exact q
  | cont => exact q
  | ret u => exact q
/-! ### comprehensions whose elements lay objects: by an invariant -/
theorem lc_rangeI {lo : Int} {n : Nat} {idx : List Nat} {te : TE} {σ : St} {H : Hp} {Q : VK} (Iv : Addr → Nat → List V → Hp → Prop) (hl : n ≤ sizeLine)
    (h0 : ∀ D, H D = none → Iv D 0 [] (upd H D (.lst []))) (hD : ∀ D i ys H', Iv D i ys H' → H' D = some (.lst ys) ∧ ys.length = i)
    (he : ∀ D i ys H' (R : VK), H D = none → i < n → Iv D i ys H' → (∀ v H4, H4 D = some (.lst ys) → Iv D (i + 1) (ys ++ [v]) (upd H4 D (.lst (ys ++ [v]))) → R v H4) → te (some (.int (lo + (i : Nat))) :: cap σ idx) H' R)
    (hQ : ∀ D ys H', H D = none → Iv D n ys H' → Q (.ref D) H') : LCW idx (Itr lo n) (gName 0) tNoIf te Q σ H := by
  intro D hn
  refine ⟨fun i m ys ρ H' => m = n - i ∧ i ≤ n ∧ (∃ y0, ρ = y0 :: cap σ idx) ∧ Iv D i ys H', ⟨n, by simp, Nat.zero_le _, ⟨none, rfl⟩, h0 D hn⟩, ?_⟩
  rintro i m ys ρ H' ⟨rfl, hi, ⟨y0, rfl⟩, hv⟩
  obtain ⟨d1, d2⟩ := hD D i ys H' hv
  refine ⟨d1, ?_⟩
  by_cases hlt : i < n
  · refine .inr ⟨hlt, by omega, fun x H2 y => ?_⟩
    obtain ⟨e, y⟩ := y
    subst e y
    show te (some (.int (lo + i)) :: cap σ idx) H2 _
    exact he D i ys H2 _ hn hlt hv fun v H4 h1 h2 => ⟨h1, n - (i + 1), by omega, rfl, hlt, ⟨_, rfl⟩, h2⟩
  · have e : i = n := by omega
    subst e
    exact .inl ⟨Nat.le_refl _, hQ D ys H' hn hv⟩
/-! ### == of lists of bools -/
section
variable {X : Cx}
theorem isAll_bls {K : PySem.W.Frag} {H : Hp} : ∀ bs : List Bool, IsAll K H (bs.map PyData.bool) (bs.map V.bl)
  | [] => by simp [IsAll]
  | b :: r => by
    rw [List.map_cons, List.map_cons]
    simp only [IsAll]
    exact ⟨_, _, rfl, by simp [Is], isAll_bls r⟩
theorem lay_bls : ∀ bs : List Bool, PyData.canLayAll0 (bs.map PyData.bool) = true
  | [] => by simp [PyData.canLayAll0]
  | b :: r => by simp [PyData.canLayAll0, PyData.canLay0, lay_bls r]
theorem depth_bls : ∀ bs : List Bool, PyData.depthAll (bs.map PyData.bool) = 0
  | [] => by simp [PyData.depthAll]
  | b :: r => by simp [PyData.depthAll, PyData.depth, depth_bls r]
theorem shaped_bls (bs : List Bool) : SeqAt.shaped (.list (bs.map PyData.bool)) = true := by
  have h := depth_bls bs
  unfold SeqAt.shaped
  rw [Bool.and_eq_true]
  exact ⟨by simp only [PyData.canLay0]; exact lay_bls bs, decide_eq_true (by simp only [PyData.depth]; omega)⟩
theorem noMix_bls : ∀ bs cs : List Bool, noMixAll (bs.map PyData.bool) (cs.map PyData.bool) = true
  | [], cs => by cases cs <;> simp [noMixAll]
  | b :: bs, [] => by simp [noMixAll]
  | b :: bs, c :: cs => by simp [noMixAll, noMix, noMix_bls bs cs]
theorem sameAll_bls : ∀ bs cs : List Bool, sameAll (bs.map PyData.bool) (cs.map PyData.bool) = decide (bs = cs)
  | [], [] => by simp [sameAll]
  | [], _ :: _ => by simp [sameAll]
  | _ :: _, [] => by simp [sameAll]
  | b :: bs, c :: cs => by
    rw [List.map_cons, List.map_cons]
    simp only [sameAll, same]
    rw [sameAll_bls bs cs, Bool.eq_iff_iff]
    simp
theorem op_eqBL (hu : X.A.units + 64 < cLine) : OpR X (compareOp .Eq) (fun x y H Q => ∃ (a b : Addr) (bs cs : List Bool), x = .ref a ∧ y = .ref b ∧ SqL X.K H a (bs.map V.bl) ∧ SqL X.K H b (cs.map V.bl) ∧ Q (.bl (decide (bs = cs))) H) := by
  intro pins s σ H x y v u Q I rx ry h
  obtain ⟨a, b, bs, cs, rfl, rfl, h1, h2, q⟩ := h
  have i1 : Is X.K H (.list (bs.map PyData.bool)) (.ref a) := by simp only [Is]; exact ⟨a, _, rfl, h1, isAll_bls bs⟩
  have i2 : Is X.K H (.list (cs.map PyData.bool)) (.ref b) := by simp only [Is]; exact ⟨b, _, rfl, h2, isAll_bls cs⟩
  obtain ⟨as, ra⟩ := Is.reads I _ _ v i1 rx
  obtain ⟨bs', rb⟩ := Is.reads I _ _ u i2 ry
  refine eq_dataH_same ra rb (shaped_bls bs) (shaped_bls cs) hu (by simp only [noMix]; exact noMix_bls bs cs) ⟨.bl _, H, I, rfl, ?_⟩
  have e : same (.list (bs.map PyData.bool)) (.list (cs.map PyData.bool)) = decide (bs = cs) := by simp only [same]; exact sameAll_bls bs cs
  rw [e]
  exact q
end
/-- a comprehension over a list, by an invariant -/
theorem lc_listI {K : PySem.W.Frag} {a : Addr} {xs : List V} {idx : List Nat} {te : TE} {σ : St} {H : Hp} {Q : VK} (Iv : Addr → Nat → List V → Hp → Prop) (hl : xs.length ≤ sizeLine)
    (h0 : ∀ D, H D = none → Iv D 0 [] (upd H D (.lst []))) (hD : ∀ D i ys H', Iv D i ys H' → H' D = some (.lst ys) ∧ ys.length = i ∧ SqL K H' a xs)
    (he : ∀ D (i : Nat) x ys H' (R : VK), H D = none → xs[i]? = some x → Iv D i ys H' → (∀ v H4, H4 D = some (.lst ys) → Iv D (i + 1) (ys ++ [v]) (upd H4 D (.lst (ys ++ [v]))) → R v H4) → te (some x :: cap σ idx) H' R)
    (hQ : ∀ D ys H', H D = none → Iv D xs.length ys H' → Q (.ref D) H') : LCW idx (Itl K a) (gName 0) tNoIf te Q σ H := by
  intro D hn
  refine ⟨fun i m ys ρ H' => m = xs.length - i ∧ i ≤ xs.length ∧ (∃ y0, ρ = y0 :: cap σ idx) ∧ Iv D i ys H', ⟨xs.length, by simp, Nat.zero_le _, ⟨none, rfl⟩, h0 D hn⟩, ?_⟩
  rintro i m ys ρ H' ⟨rfl, hi, ⟨y0, rfl⟩, hv⟩
  obtain ⟨d1, d2, d3⟩ := hD D i ys H' hv
  refine ⟨d1, ?_⟩
  by_cases hlt : i < xs.length
  · refine .inr ⟨⟨xs, xs[i], d3, List.getElem?_eq_getElem hlt⟩, by omega, fun x H2 y => ?_⟩
    obtain ⟨e, y⟩ := y
    subst e
    exact he D i x ys H2 _ hn (y xs d3) hv fun v H4 h1 h2 => ⟨h1, xs.length - (i + 1), by omega, rfl, hlt, ⟨_, rfl⟩, h2⟩
  · have e : i = xs.length := by omega
    subst e
    exact .inl ⟨⟨xs, d3, Nat.le_refl _⟩, hQ D ys H' hn hv⟩
end L2

set_option Elab.async false
set_option linter.all false
set_option maxRecDepth 100000
namespace L2
open PySem PySem.Spec PyProof.Rows PySem.W

/-! ### the outcomes of a sort, whatever the comparisons say -/
def KOut {α : Type} (N : Nat) (P : α → Prop) : KasT α → Prop
  | .ret a => P a
  | .ask i j k => i < N ∧ j < N ∧ ∀ b, KOut N P (k b)
theorem KOut.bind {α β : Type} {N : Nat} {P : α → Prop} {P' : β → Prop} {f : α → KasT β} (hf : ∀ a, P a → KOut N P' (f a)) : ∀ t : KasT α, KOut N P t → KOut N P' (t.bind f)
  | .ret a, h => hf a h
  | .ask i j k, h => ⟨h.1, h.2.1, fun b => KOut.bind hf (k b) (h.2.2 b)⟩
theorem KOut.wp {α : Type} {N : Nat} {P : α → Prop} {cmp : Nat → Nat → (Bool → Shared → Prop) → Shared → Prop} {s : Shared} {Q : α → Shared → Prop} (hc : ∀ i j C, i < N → j < N → (∀ b, C b s) → cmp i j C s) (hq : ∀ a, P a → Q a s) :
    ∀ t : KasT α, KOut N P t → t.kasWp cmp Q s
  | .ret a, h => hq a h
  | .ask i j k, h => hc i j _ h.1 h.2.1 fun b => KOut.wp hc hq (k b) (h.2.2 b)
/-- a rearrangement of 0, 1, .. -/
def Rr (N : Nat) (p : Array Nat) : Prop := p.toList.Perm (List.range N)
theorem Rr.lt {N : Nat} {p : Array Nat} (h : Rr N p) (h0 : 0 < N) (k : Nat) : p.getD k 0 < N := by
  by_cases hk : k < p.size
  · have hm : p[k] ∈ List.range N := h.mem_iff.mp (by simp)
    have e : p.getD k 0 = p[k] := by simp [Array.getD, hk]
    rw [e]
    exact List.mem_range.mp hm
  · have e : p.getD k 0 = 0 := by simp [Array.getD, hk]
    rw [e]; exact h0
theorem Rr.rev {N : Nat} {p : Array Nat} (h : Rr N p) (i j : Nat) : Rr N (kas_rev p i j) := (Array.perm_iff_toList_perm.mp (mirror_perm p i j _)).trans h
theorem Rr.bub {N : Nat} {p : Array Nat} (h : Rr N p) (i j : Nat) : Rr N (bubble p i j) := (Array.perm_iff_toList_perm.mp (bubble_perm p i j)).trans h
section
variable {N : Nat} (h0 : 0 < N)
include h0
theorem out_asc {p : Array Nat} (hp : Rr N p) : ∀ f n, KOut N (fun _ => True) (kas_asc p f n)
  | 0, _ => trivial
  | f + 1, n => ⟨hp.lt h0 _, hp.lt h0 _, fun b => by
    cases b with
    | true => exact trivial
    | false => exact out_asc hp f (n + 1)⟩
theorem out_desc : ∀ (f : Nat) (p : Array Nat) (n q : Nat), Rr N p → KOut N (fun r => Rr N r.1) (kas_desc f p n q)
  | 0, _, _, _, hp => hp
  | f + 1, p, n, q, hp => ⟨hp.lt h0 _, hp.lt h0 _, fun b => by
    cases b with
    | true =>
      show KOut N _ (if q > 0 then _ else _)
      split
      · exact out_desc f _ _ _ (hp.rev _ _)
      · exact out_desc f _ _ _ hp
    | false =>
      refine ⟨hp.lt h0 _, hp.lt h0 _, fun d => ?_⟩
      cases d with
      | true => exact hp
      | false => exact out_desc f _ _ _ hp⟩
theorem out_tail {p : Array Nat} (hp : Rr N p) (n r : Nat) : KOut N (fun r => Rr N r.2) (kas_tail3 n r p) := by
  refine KOut.bind (P := fun _ => True) (fun m _ => ?_) _ (out_asc h0 (hp.rev _ _) _ _)
  exact Rr.rev hp 0 n
theorem out_descPart {p : Array Nat} (hp : Rr N p) (n r : Nat) : KOut N (fun r => Rr N r.2) (kas_descPart n r p) := by
  refine KOut.bind (fun x hx => ?_) _ (out_desc h0 _ p _ _ hp)
  show KOut N _ (if x.2.2 > 0 then _ else _)
  split
  · exact out_tail h0 (Rr.rev hx _ _) _ _
  · exact out_tail h0 hx _ _
theorem out_count {p : Array Nat} (hp : Rr N p) (r : Nat) : KOut N (fun r => Rr N r.2) (kas_count r p) := by
  refine KOut.bind (fun n _ => ?_) _ (out_asc h0 hp _ _)
  show KOut N _ (if (n == r) = true then _ else _)
  split
  · exact hp
  · show KOut N _ (if n > 1 then _ else _)
    split
    · refine ⟨hp.lt h0 _, hp.lt h0 _, fun c => ?_⟩
      cases c with
      | true => exact hp
      | false => exact out_descPart h0 (hp.rev _ _) _ _
    · exact out_descPart h0 hp _ _
theorem out_place {p : Array Nat} (hp : Rr N p) (k : Nat) : ∀ f l r, KOut N (fun _ => True) (kas_place p k f l r)
  | 0, _, _ => trivial
  | f + 1, l, r => by
    show KOut N _ (if l ≥ r then _ else _)
    split
    · exact trivial
    · refine ⟨hp.lt h0 _, hp.lt h0 _, fun c => ?_⟩
      cases c with
      | true => exact out_place hp k f _ _
      | false => exact out_place hp k f _ _
theorem out_bin : ∀ (f : Nat) (p : Array Nat) (k : Nat), Rr N p → KOut N (fun p => Rr N p) (kas_bin f p k)
  | 0, _, _, hp => hp
  | f + 1, p, k, hp => KOut.bind (fun _ _ => out_bin f _ _ (hp.bub _ _)) _ (out_place h0 hp k _ _ _)
theorem out_sort : KOut N (fun p => Rr N p) (kas_sort N) := by
  refine KOut.bind (fun r hr => ?_) _ (out_count h0 (p := List.toArray (List.range N)) (by simp [Rr]) N)
  show KOut N _ (if r.1 < N then _ else _)
  split
  · exact out_bin h0 _ _ _ hr
  · exact hr
end

/-! ### sorted of a list of pairs of ints: some rearrangement -/
theorem Vals.get' {xs : List V} {us : List Value} (h : Vals xs us) {i : Nat} {u : Value} (hu : us[i]? = some u) : ∃ v, xs[i]? = some v ∧ RelV v u := by
  induction h generalizing i with
  | nil => simp at hu
  | cons r t ih =>
    cases i with
    | zero => exact ⟨_, rfl, (Option.some.inj hu) ▸ r⟩
    | succ j => exact ih (by simpa using hu)
/-- the values follow a rearrangement -/
theorem Vals.perm {xs : List V} {us out : List Value} (h : Vals xs us) (p : out.Perm us) : ∃ ys : List V, ys.Perm xs ∧ Vals ys out := by
  have q := p.symm
  clear p
  induction q generalizing xs with
  | nil => exact ⟨_, .refl _, h⟩
  | cons x _ ih =>
    cases h with
    | cons r t =>
      obtain ⟨ys, h1, h2⟩ := ih t
      exact ⟨_ :: ys, h1.cons _, .cons r h2⟩
  | swap x y l =>
    cases h with
    | cons r t =>
      cases t with
      | cons r' t => exact ⟨_, .swap _ _ _, .cons r' (.cons r t)⟩
  | trans _ _ ih1 ih2 =>
    obtain ⟨ys, h1, h2⟩ := ih1 h
    obtain ⟨zs, h3, h4⟩ := ih2 h2
    exact ⟨zs, h3.trans h1, h4⟩
section
variable {prog : Program} {w : World} {A : Around} {E : Value → Shared → Prop} {s : Shared}
/-- a pair of ints -/
def Pair2 (h : Heap) (v : Value) : Prop := ∃ a x y t u n o, v = .ref a ∧ h.get? a = some o ∧ o.cls = .type "tuple" ∧ o.data = .seq #[.int x t, .int y u] n
theorem pair_lt {v u : Value} {C : Bool → Shared → Prop} (hv : Pair2 s.heap v) (hu : Pair2 s.heap u) (h : ∀ b, C b s) : wpAny (model prog w) A (keyLt' (tuples' true) v u) C E s := by
  obtain ⟨a, x, y, t1, t2, n, o, rfl, ho, hc, hd⟩ := hv
  obtain ⟨a', x', y', t1', t2', n', o', rfl, ho', hc', hd'⟩ := hu
  refine kat_lt ho hd ho' hd' ?_
  refine kat_cons (wpAny_eqBool_int (kat_go (fun _ => kat_yes ?_) fun _ => kat_no ?_))
  · refine kat_cons (wpAny_eqBool_int (kat_go (fun _ => kat_yes (kat_nil (h _))) fun _ => kat_no ?_))
    refine kat_one _ _ (lt_int ?_)
    exact h _
  · exact oneLt_int (h _)
theorem tups_of : ∀ (vs : List Value), (∀ v ∈ vs, Pair2 s.heap v) → ∃ fs, KatTups s.heap vs fs ∧ fs.length = vs.length ∧ ∀ f ∈ fs, ∃ i t, f = Value.int i t
  | [], _ => ⟨[], KatTups.nil, rfl, fun _ h => by simp at h⟩
  | v :: vs, h => by
    obtain ⟨fs, h1, h2, h3⟩ := tups_of vs fun v hv => h v (by simp [hv])
    obtain ⟨a, x, y, t1, t2, n, o, rfl, ho, hc, hd⟩ := h v (by simp)
    refine ⟨.int x t1 :: fs, KatTups.cons ho hc hd rfl h1, by simp [h2], fun f hf => ?_⟩
    rcases List.mem_cons.mp hf with rfl | hf
    · exact ⟨_, _, rfl⟩
    · exact h3 f hf
theorem sort_pairs {a : Addr} {vs : List Value} {n : Nat} {P : PySem.Fin → Shared → Prop} (ho : s.heap.get? a = some (seqObj "list" vs.toArray n)) (hp : ∀ v ∈ vs, Pair2 s.heap v) (h64 : vs.length < 64)
    (hnl : ∀ v ∈ vs, v ≠ .ref a) (h : ∀ out : List Value, out.Perm vs → P (.done (.ret .none)) { s with heap := sortedHeap s.heap a vs out.toArray }) :
    wpAny (model prog w) A (Builtin.«list.sort» ⟨[.ref a], []⟩) P E s := by
  rw [list_sort_plain]
  have ha : a < s.heap.objs.size := Heap.lt_size ho
  refine wpAny_bind (listItems_at ho rfl ?_)
  refine wpAny_bind (listUpdate_at ho rfl ?_)
  obtain ⟨e1, ho1⟩ : ∃ e1, (s.heap.update a (Obj.mapSeq fun _ => #[])).get? a = some (seqObj "list" #[] e1) := ⟨_, get?_update_seq ho (fun _ => #[])⟩
  refine wpAny_bind (seqEpoch_at ho1 rfl ?_)
  refine wpAny_bind (wpAny_newTuple ?_)
  refine wpAny_bind (wpAny_newList ?_)
  refine wpAny_holding ?_
  have ho6 : (((s.heap.update a (Obj.mapSeq fun _ => #[])).push (seqObj "tuple" vs.toArray 0)).push (seqObj "list" #[] 0)).get? a = some (seqObj "list" #[] e1) := by
    rw [Heap.get?_push_ne _ _ _ (by rw [size_push', Heap.size_update]; exact Nat.ne_of_lt (Nat.lt_succ_of_lt ha)), Heap.get?_push_ne _ _ _ (by rw [Heap.size_update]; exact Nat.ne_of_lt ha)]
    exact ho1
  have keep : ∀ b o, b ≠ a → s.heap.get? b = some o → (((s.heap.update a (Obj.mapSeq fun _ => #[])).push (seqObj "tuple" vs.toArray 0)).push (seqObj "list" #[] 0)).get? b = some o := fun b o hb q => by
    have hlt : b < s.heap.objs.size := Heap.lt_size q
    rw [Heap.get?_push_ne _ _ _ (by rw [size_push', Heap.size_update]; exact Nat.ne_of_lt (Nat.lt_succ_of_lt hlt)), Heap.get?_push_ne _ _ _ (by rw [Heap.size_update]; exact Nat.ne_of_lt hlt), Heap.get?_update_ne _ _ _ _ hb]
    exact q
  have hp6 : ∀ v ∈ vs, Pair2 (((s.heap.update a (Obj.mapSeq fun _ => #[])).push (seqObj "tuple" vs.toArray 0)).push (seqObj "list" #[] 0)) v := fun v hv => by
    obtain ⟨c, x, y, t1, t2, n, o, rfl, hc, r⟩ := hp v hv
    exact ⟨c, x, y, t1, t2, n, o, rfl, keep c o (fun z => hnl _ hv (by rw [z])) hc, r⟩
  show wpAny (model prog w) A _ P E { s with heap := ((s.heap.update a (Obj.mapSeq fun _ => #[])).push (seqObj "tuple" vs.toArray 0)).push (seqObj "list" #[] 0) }
  dsimp only
  have hsz : vs.toArray.size = vs.length := by simp
  by_cases h2 : vs.toArray.size < 2
  · rw [if_pos h2, if_pos h2]
    refine wpAny_bind (wpAny_pure ?_)
    rw [StateT.run_pure]
    refine wpAny_bind (wpAny_pure ?_)
    dsimp only
    refine wpAny_bind (seqEpoch_at ho6 rfl ?_)
    refine wpAny_bind (listUpdate_at ho6 rfl ?_ (hsz2 := by rw [Array.size_map]; show (pairsOf vs).size ≤ _; rw [pairsOf_size, sizeLine_eq]; omega))
    simp only [bne_self_eq_false, Bool.false_eq_true, if_false]
    refine wpAny_pure ?_
    have e : ((vs.toArray.zip vs.toArray).map (·.2)) = vs.toArray := by
      apply Array.toList_inj.mp
      rw [Array.toList_map, Array.toList_zip]
      exact List.map_snd_zip (Nat.le_refl _)
    have := h vs (List.Perm.refl _)
    rw [← e] at this
    exact this
  · rw [if_neg h2, if_neg h2]
    obtain ⟨fs, t1, t2, t3⟩ := tups_of (s := { s with heap := ((s.heap.update a (Obj.mapSeq fun _ => #[])).push (seqObj "tuple" vs.toArray 0)).push (seqObj "list" #[] 0) }) vs hp6
    refine wpAny_bind (kat_kind (T := .type "int") t1 (by omega) (fun v hv => by obtain ⟨i, t, rfl⟩ := t3 v hv; exact Looks.of_pure rfl) (by decide) ?_)
    refine wpAny_bind (wpAny_mono (kat_run (ks := vs) (vs := vs) (Q := fun st' s' => s' = { s with heap := ((s.heap.update a (Obj.mapSeq fun _ => #[])).push (seqObj "tuple" vs.toArray 0)).push (seqObj "list" #[] 0) } ∧ failedOf st' = none ∧ ∃ p : Array Nat, Rr vs.length p ∧ (arrOf st').map (·.2) = (p.toList.map fun i => vs.getD i Value.none).toArray)
      rfl (by omega) h64 (G := fun p s' => s' = { s with heap := ((s.heap.update a (Obj.mapSeq fun _ => #[])).push (seqObj "tuple" vs.toArray 0)).push (seqObj "list" #[] 0) } ∧ Rr vs.length p) (fun p st' s' _ har hf hg => ⟨hg.1, hf, p, hg.2, kat_snds rfl har⟩)
      (KOut.wp (N := vs.length) (P := fun p => Rr vs.length p) (fun i j C hi hj hC => ?_) (fun p hp => ⟨rfl, hp⟩) _ (out_sort (by omega)))) ?_ fun _ _ e => e)
    · have g1 : vs.getD i Value.none ∈ vs := by rw [List.getD_eq_getElem?_getD, List.getElem?_eq_getElem hi]; exact List.getElem_mem hi
      have g2 : vs.getD j Value.none ∈ vs := by rw [List.getD_eq_getElem?_getD, List.getElem?_eq_getElem hj]; exact List.getElem_mem hj
      exact pair_lt (hp6 _ g1) (hp6 _ g2) hC
    · rintro ⟨⟨⟩, st'⟩ s' ⟨rfl, hf, p, hpr, hout⟩
      dsimp only
      have hpm : (p.toList.map fun i => vs.getD i Value.none).Perm vs := by
        have h1 := hpr.map fun i => vs.getD i Value.none
        have h3 : (List.range vs.length).map (fun i => vs.getD i Value.none) = vs := by
          apply List.ext_getElem?
          intro i
          rw [List.getElem?_map]
          by_cases hi : i < vs.length
          · rw [List.getElem?_range hi, List.getElem?_eq_getElem hi]
            simp [List.getD_eq_getElem?_getD, List.getElem?_eq_getElem hi]
          · rw [List.getElem?_eq_none (by simpa using hi), List.getElem?_eq_none (by omega)]
            rfl
        rw [h3] at h1
        exact h1
      refine wpAny_bind (seqEpoch_at ho6 rfl ?_)
      refine wpAny_bind (listUpdate_at ho6 rfl ?_ (hsz2 := by rw [hout, List.size_toArray, hpm.length_eq, sizeLine_eq]; omega))
      rw [hf]
      simp only [bne_self_eq_false, Bool.false_eq_true, if_false]
      refine wpAny_pure ?_
      rw [hout]
      exact h _ hpm
end
section
variable {X : Cx}
theorem call_sortedP : CallR X (.builtin "sorted") (fun xs H Q => ∃ (p : Addr) (vs : List V), xs = [.ref p] ∧ H p = some (.lst vs) ∧ vs.length < 64 ∧ (∀ v ∈ vs, ∃ t x y, v = .ref t ∧ H t = some (.tup [.int x, .int y])) ∧
    ∀ (l : Addr) (ys : List V), H l = none → ys.Perm vs → Q (.ref l) (upd H l (.lst ys))) := by
  intro pins s σ H xs us Q I r h
  obtain ⟨p, vs, rfl, hp, h64, hv, q⟩ := h
  obtain ⟨u, rfl, ru⟩ := vals1 r
  cases (show u = Value.ref p from ru)
  obtain ⟨its, rv, pl, hz⟩ := I.list (SqL.of (K := X.K) hp)
  have hlen : its.length = vs.length := by have := rv.length; omega
  have hsz : sizeLine = 16777216 := sizeLine_eq
  have hl := pl.isList
  have hpr : ∀ u ∈ its, Pair2 s.heap u := fun u hu => by
    obtain ⟨i, hi⟩ := List.getElem?_of_mem hu
    obtain ⟨v, hvi, hru⟩ := rv.get' hi
    obtain ⟨t, x, y, rfl, ht⟩ := hv v (List.mem_of_getElem? hvi)
    cases (show u = Value.ref t from hru)
    obtain ⟨its2, r2, ⟨⟨cls, dd, data, sl⟩, ho, hc, n, hd⟩, _⟩ := I.tuple (SqT.of (K := X.K) ht)
    obtain ⟨u1, u2, e, q1, q2⟩ := vals2 r2
    obtain ⟨t1, rfl⟩ := (show ∃ t1, u1 = Value.int x t1 from q1)
    obtain ⟨t2, rfl⟩ := (show ∃ t2, u2 = Value.int y t2 from q2)
    exact ⟨t, x, y, t1, t2, n, _, rfl, ho, hc, by rw [hd, e]⟩
  refine Calls.call_function_entry kind_sorted plain_sorted entry_sorted (args_sorted1 _) ?_
  unfold Builtin.«sorted»
  refine wpAny_bind (m := checkCount "sorted" 1 1 _) (wpAny_pure ?_)
  refine wpAny_bind (collect_list hl ?_)
  refine wpAny_bind (wpAny_newList ?_)
  have hsz2 : ((s.heap.push (seqObj "list" #[] 0)).update s.heap.objs.size (Obj.mapSeq (· ++ its.toArray))).objs.size = s.heap.objs.size + 1 := by
    rw [Heap.size_update, size_push']
  have hoL : (((s.heap.push (seqObj "list" #[] 0)).update s.heap.objs.size (Obj.mapSeq (· ++ its.toArray))).push (seqObj "list" its.toArray 0)).get? (s.heap.objs.size + 1) = some (seqObj "list" its.toArray 0) := by
    rw [← hsz2]; exact Heap.get?_push_size _ rfl
  have keep : ∀ b o, s.heap.get? b = some o → (((s.heap.push (seqObj "list" #[] 0)).update s.heap.objs.size (Obj.mapSeq (· ++ its.toArray))).push (seqObj "list" its.toArray 0)).get? b = some o := fun b o q => by
    have hlt : b < s.heap.objs.size := Heap.lt_size q
    rw [Heap.get?_push_ne _ _ _ (by rw [hsz2]; exact Nat.ne_of_lt (Nat.lt_succ_of_lt hlt)), Heap.get?_update_ne _ _ _ _ (Nat.ne_of_lt hlt), Heap.get?_push_ne _ _ _ (Nat.ne_of_lt hlt)]
    exact q
  show wpAny _ _ _ _ _ { s with heap := ((s.heap.push (seqObj "list" #[] 0)).update s.heap.objs.size (Obj.mapSeq (· ++ its.toArray))).push (seqObj "list" its.toArray 0) }
  rw [hsz2]
  refine wpAny_bind (wpAny_holding (wpAny_call_entry slot_list_sort ⟨_, hoL, rfl⟩ entry_list_sort (sort_pairs hoL (fun u hu => ?_) (by omega) (fun u hu z => ?_) fun out hpm => ⟨_, rfl, ?_⟩) (args_list_sort _)))
  · obtain ⟨c, x, y, t1, t2, n, o, e, hc, r⟩ := hpr u hu
    exact ⟨c, x, y, t1, t2, n, o, e, keep c o hc, r⟩
  · obtain ⟨c, x, y, t1, t2, n, o, e, hc, r⟩ := hpr u hu
    rw [e] at z
    have h1 := Heap.lt_size hc
    have h2 := Value.ref.inj z
    rw [h2] at h1
    exact Nat.lt_irrefl _ (Nat.lt_trans (Nat.lt_succ_self _) h1)
  · refine wpAny_pure ⟨_, rfl, ?_⟩
    obtain ⟨e, he⟩ := sortedAll_at s.heap its out.toArray
    obtain ⟨ys, hys, hvy⟩ := rv.perm hpm
    exact ⟨.ref _, _, I.laid (a := s.heap.objs.size + 1) (t' := s.toks) (fun b o e => sortedAll_old e) (Nat.le_succ _) (show ObjOk X.prog X.w _ _ _ (.lst ys) from ⟨by rw [hys.length_eq]; omega, out, e, hvy, he⟩), rfl, q _ ys (I.hok.fresh (Nat.le_succ _)) hys⟩
end
end L2

set_option Elab.async false
set_option linter.all false
set_option maxRecDepth 100000
set_option maxHeartbeats 4000000
namespace L2
open PySem PySem.Spec PyProof.Rows
/-! ### list(reversed(x)) -/
theorem nolen_lr : typeLookup (.type "list_reverseiterator") "__len__" = pure none := by rw [typeLookup_type, builtinLookup_eq_fast]; kernel_rfl
theorem hint_lr : typeLookup (.type "list_reverseiterator") "__length_hint__" = pure (some (.builtin "list_reverseiterator.__length_hint__")) := by rw [typeLookup_type, builtinLookup_eq_fast]; kernel_rfl
section
variable {prog : Program} {w : World} {A : Around} {E : Value → Shared → Prop} {s : Shared}
theorem extend_rev {R : Result → Shared → Prop} {I l : Addr} {items : Array Value} (hh : A.handled = none) (hit : s.heap.IsRevIter I l ((items.size : Int) - 1)) (hl : s.heap.IsList l items) (hne : l ≠ I) (hn : items.size ≤ sizeLine) (S : Addr) (res : Value) (c₀ : Nat)
    (hS : s.heap.get? S = some { cls := .type "list", data := .seq #[] c₀ }) (hSI : S ≠ I) (hSl : S ≠ l)
    (hR : ∀ h' tk acc' c', (∀ b o, b ≠ S → b ≠ I → s.heap.get? b = some o → h'.get? b = some o) → h'.get? S = some { cls := .type "list", dict := none, data := .seq acc' c', slots := #[] } →
      ItemsOf (fun i v => items[items.size - 1 - i]? = some v) acc' items.size → R (.ok (.ret res)) { s with heap := h', toks := tk }) :
    wpAny (model prog w) A.in1 (Builtin.List.listExtendWith (.ref S) (.ref I) res)
      (fun fin s' => match fin with | .done f => R (.ok f) s' | .again c' => c'.quiet = true ∧ codeAny (model prog w) A c' R s') (fun e s' => R (.error e) s') s := by
  have W := (Walks.listRev (prog := prog) (w := w) (A := A.in1) hh I l hne items).toS
  have hst : 0 ≤ items.size ∧ s.heap.IsRevIter I l ((items.size : Int) - 1 - ((0 : Nat) : Int)) ∧ s.heap.IsList l items := ⟨Nat.zero_le _, by simpa using hit, hl⟩
  have hT : s.TypeIs (.ref I) "list_reverseiterator" := hit.typeIs
  have h1 : Builtin.List.listSameRef (.ref S) (.ref I) = false := by simp [Builtin.List.listSameRef, hSI]
  have hSf : S ∉ [I, l] := fun hm => by
    rcases List.mem_cons.mp hm with z | z
    · exact hSI z
    · exact hSl (List.mem_singleton.mp z)
  unfold Builtin.List.listExtendWith
  refine wpAny_bind (wpAny_typeOf hT ?_)
  rw [if_neg (by rw [h1]; decide)]
  refine wpAny_bind (W.self 0 _ _ _ hst ?_)
  refine wpAny_bind (wpAny_holding ?_)
  unfold Builtin.List.listLengthHint
  refine wpAny_bind (wpAny_specialOf hT nolen_lr ?_)
  show wpAny _ A.in1 (specialOf (Value.ref I) (Str.ofString "__length_hint__") >>= _) _ _ _
  refine wpAny_bind (wpAny_specialOf hT hint_lr ?_)
  generalize hid : ("list_reverseiterator.__length_hint__" : String) = id0
  wp_delta
  rw [show splitId id0 = some ("list_reverseiterator", "__length_hint__") from by subst hid; decide +kernel]
  subst hid
  refine wpAny_bind (wpAny_isInstance (b := true) hT (by rw [isSubtype_type]; kernel_rfl) ?_)
  refine wpAny_pure ?_
  rw [if_neg (by decide)]
  refine wpAny_pure ⟨plainId_quiet F.plain_extend_loop _, codeAny_extend_loopS W hn S hSf res items.size 0 _ #[] c₀ rfl (Nat.zero_le _) hst hS (ItemsOf.nil _) fun s' acc' c' hm hS' hacc => ?_⟩
  rw [Moved.eq_with hm]
  refine hR s'.heap s'.toks acc' c' (fun b o hb hbI e => hm.heap b o (fun hmem => ?_) e) hS' hacc
  rcases List.mem_cons.mp hmem with z | z
  · exact hb z
  · exact hbI (List.mem_singleton.mp z)
theorem init_rev {R : Result → Shared → Prop} {I l : Addr} {items : Array Value} (hh : A.handled = none) (hit : s.heap.IsRevIter I l ((items.size : Int) - 1)) (hl : s.heap.IsList l items) (hne : l ≠ I) (hn : items.size ≤ sizeLine) (S : Addr)
    (hS : s.heap.get? S = some { cls := .type "list", data := .seq #[] }) (hSI : S ≠ I) (hSl : S ≠ l)
    (hR : ∀ h' tk acc' c', (∀ b o, b ≠ S → b ≠ I → s.heap.get? b = some o → h'.get? b = some o) → h'.get? S = some { cls := .type "list", dict := none, data := .seq acc' c', slots := #[] } →
      ItemsOf (fun i v => items[items.size - 1 - i]? = some v) acc' items.size → R (.ok (.ret .none)) { s with heap := h', toks := tk }) :
    wpAny (model prog w) A.in1 (Builtin.«list.__init__» ⟨[.ref S, .ref I], []⟩)
      (fun fin s' => match fin with | .done f => R (.ok f) s' | .again c' => c'.quiet = true ∧ codeAny (model prog w) A c' R s') (fun e s' => R (.error e) s') s := by
  show wpAny _ _ (do let old ← Builtin.List.listItems (.ref S); Builtin.List.listUpdate (.ref S) (fun _ => #[]); letGo old.toList.reverse; Builtin.List.listExtendWith (.ref S) (.ref I) .none) _ _ s
  refine wpAny_bind ?_
  unfold Builtin.List.listItems
  refine wpAny_bind (wpAny_seqItems hS rfl (wpAny_pure ?_))
  show wpAny _ _ (updateSeq S (fun _ => #[]) >>= fun _ => letGo (#[] : Array Value).toList.reverse >>= fun _ => Builtin.List.listExtendWith (.ref S) (.ref I) .none) _ _ s
  refine wpAny_bind (wpAny_updateSeq hS rfl ?_)
  have hS₂ := Heap.get?_update_self (Obj.mapSeq (fun _ => (#[] : Array Value))) hS rfl
  have oth : ∀ b o, b ≠ S → s.heap.get? b = some o → (s.heap.update S (Obj.mapSeq (fun _ => (#[] : Array Value)))).get? b = some o :=
    fun b o hb e => (Heap.get?_update_other _ _ (Ne.symm hb)).trans e
  refine wpAny_bind (wpAny_letGo ?_)
  refine extend_rev hh (hit.at fun o e => oth I o (Ne.symm hSI) e) (hl.at fun o e => oth l o (Ne.symm hSl) e) hne hn S .none _ hS₂ hSI hSl fun h' tk acc' c' hk hS' hacc => ?_
  exact hR h' tk acc' c' (fun b o hb hbI e => hk b o hb hbI (oth b o hb e)) hS' hacc
theorem call_list_rev {Q : Value → Shared → Prop} {I l : Addr} {items : Array Value} (hh : A.handled = none) (hit : s.heap.IsRevIter I l ((items.size : Int) - 1)) (hl : s.heap.IsList l items) (hne : l ≠ I) (hn : items.size ≤ sizeLine)
    (hQ : ∀ h' tk acc' c', (∀ b o, b ≠ I → s.heap.get? b = some o → h'.get? b = some o) → h'.get? s.heap.objs.size = some { cls := .type "list", dict := none, data := .seq acc' c', slots := #[] } →
      ItemsOf (fun i v => items[items.size - 1 - i]? = some v) acc' items.size → Q (.ref s.heap.objs.size) { s with heap := h', toks := tk }) :
    wpAny (model prog w) A (call (.type "list") [.ref I]) Q E s := by
  refine callType_codes (Q₁ := fun obj s₁ => obj = .ref s.heap.objs.size ∧ s₁ = { s with heap := s.heap.push { cls := .type "list", data := .seq #[] } }) F.called_list (F.typeCall_list_1 _) F.entry_list_init
    (code_list_new _ ⟨rfl, rfl⟩) fun obj s₁ h₁ => ?_
  obtain ⟨rfl, rfl⟩ := h₁
  have hS : (s.heap.push { cls := .type "list", data := .seq #[] }).get? s.heap.objs.size = some { cls := .type "list", data := .seq #[] } := Heap.get?_push_size _ rfl
  obtain ⟨oI, eI, _⟩ := id hit
  obtain ⟨ol, el, _⟩ := id hl
  refine ⟨⟨_, hS, rfl⟩, F.args_list_init_2 _ _, init_rev (A := A.in1) hh (hit.at fun o e => Heap.get?_push_of_some _ e) (hl.push _) hne hn _ hS (Nat.ne_of_gt (Heap.lt_size eI)) (Nat.ne_of_gt (Heap.lt_size el)) fun h' tk acc' c' hk hS' hacc => ?_⟩
  exact ⟨rfl, hQ h' tk acc' c' (fun b o hb e => hk b o (Nat.ne_of_lt (Heap.lt_size e)) hb (Heap.get?_push_of_some _ e)) hS' hacc⟩
end
section
variable {X : Cx} {e : Expr} {ta : TA} {p1 p2 c1 c2 : Pos}
def tListRev (K : PySem.W.Frag) (ta : TA) : TE := fun σ H Q => ta σ H fun vs H1 => ∃ a ys, vs = [.ref a] ∧ SqL K H1 a ys ∧ ∀ l, H1 l = none → Q (.ref l) (upd H1 l (.lst ys.reverse))
theorem pe_listrev (hg : Gl X "list") (hm : X.mg "list" = none) (hg2 : Gl X "reversed") (hm2 : X.mg "reversed" = none) (hc : X.calm = true) (ha : PA X [e] ta)
    (hs : starEach [e] X.env = [(false, eval e X.env)] := by rfl) (hs2 : starEach [Expr.Call (.Name "reversed" p2) [e] [] c2] X.env = [(false, eval (Expr.Call (.Name "reversed" p2) [e] [] c2) X.env)] := by rfl) :
    PE X (.Call (.Name "list" p1) [.Call (.Name "reversed" p2) [e] [] c2] [] c1) (tListRev X.K ta) := by
  intro pins s σ H Q I h
  have hsz : sizeLine = 16777216 := sizeLine_eq
  refine Call_ (ld_blt I hg hm boot_list (PyProof.Rows.callWith_type1 ?_ hs2 rfl))
  rw [hs2]
  show wpAny _ _ (spliced [(false, eval (Expr.Call (.Name "reversed" p2) [e] [] c2) X.env)]) _ _ s
  refine Calls.spliced_cons ?_
  refine Call_ (ld_blt I hg2 hm2 boot_reversed (PyProof.Rows.callWith_type1 (thn (ha c2 pins s σ H _ I h) fun us s1 ⟨vs, H1, I1, r1, q1⟩ => ?_) hs rfl))
  obtain ⟨a, ys, rfl, hq, q⟩ := q1
  cases r1 with
  | cons r rr =>
    cases rr
    cases r
    obtain ⟨its, rv, pl, hz⟩ := I1.list hq
    have hl := pl.isList
    refine call_reversed_list hl ?_
    refine Calls.spliced_nil ?_
    have hlen := rv.length
    have I2 : Inv X pins σ H1 { s1 with heap := s1.heap.push (revObj a ((its.toArray.size : Int) - 1)) } := I1.kept (t' := s1.toks) fun b o e => Heap.get?_push_of_some _ e
    have hit : (s1.heap.push (revObj a ((its.toArray.size : Int) - 1))).IsRevIter s1.heap.objs.size a ((its.toArray.size : Int) - 1) := ⟨_, Heap.get?_push_size _ rfl, rfl, rfl⟩
    have hlt : a < s1.heap.objs.size := by obtain ⟨_, e, _⟩ := hl; exact Heap.lt_size e
    have fp : FpOk X pins H1 s1.heap.objs.size := I1.fpOk (Nat.le_refl _) (I1.hok.fresh (Nat.le_refl _))
    refine call_list_rev (I1.ok.hd hc) hit (hl.push _) (Nat.ne_of_lt hlt) (by rw [List.size_toArray]; omega) fun h' tk acc' c' hk eL hI => ?_
    have hv : Vals ys.reverse acc'.toList := by
      obtain ⟨hsA, ha⟩ := hI
      refine vals_at (by rw [List.length_reverse]; simp [hsA]; omega) fun i x y hx hy => ?_
      have hi : i < ys.length := by have := (List.getElem?_eq_some_iff.mp hx).1; rwa [List.length_reverse] at this
      have hy' := ha i y (by simpa using hy)
      rw [List.getElem?_reverse hi] at hx
      obtain ⟨u, hu, ru⟩ := rv.get hx
      have : its.toArray[its.toArray.size - 1 - i]? = some u := by
        rw [List.size_toArray, ← hlen]; simpa using hu
      rw [this] at hy'
      rw [← Option.some.inj hy']
      exact ru
    have J := I2.turned2 (t' := tk) (h' := h') (a := (s1.heap.push (revObj a ((its.toArray.size : Int) - 1))).objs.size) (ob := .lst ys.reverse) (fun b o hb _ e => hk b o hb e) fp fp (Nat.le_refl _)
      (show ObjOk X.prog X.w _ h' _ (.lst ys.reverse) from ⟨by rw [List.length_reverse]; omega, acc'.toList, c', hv, by rw [eL]⟩)
    exact ⟨.ref _, _, J, rfl, q _ (I2.hok.fresh (Nat.le_refl _))⟩
end
end L2

set_option Elab.async false
set_option linter.all false
set_option maxRecDepth 100000
namespace HD
open PySem PySem.W PySem.Calls PyProof.Rows

/-! ### a dict asked by a key that is an object -/
section
variable (d : Addr) (a : Addr) (h : Int) (es : Array DictEntry)
/-- the places one after the other -/
def asked (tells few : Bool) : List Nat → Option Nat → Sem (Option Nat)
  | [], hit => pure hit
  | i :: r, hit => match es[i]? with
    | none => asked tells few r hit
    | some e => dictEpoch d none >>= fun b => eqBool e.key (.ref a) >>= fun same => dictEpoch d none >>= fun b' =>
      if (b' != b) = true then .unsupported "dict.changed-during-lookup"
      else if same = true then
        (if hit.isSome = true then .unsupported "dict.find:order-among-keys-of-one-hash" else rule "dict.find.hit" >>= fun _ => if few = true then pure (some i) else asked tells few r (some i))
      else rule "dict.find.same-hash-other-key" >>= fun _ => if (tells && !(decide (0 ≤ h) && decide (h < 32))) = true then .unsupported "dict.find:asked-again-or-not-hangs-on-the-table" else asked tells few r hit
def keysAt (pl : List Nat) : List Value := pl.filterMap fun i => es[i]?.map (·.key)
def behind (pl : List Nat) : Sem (Option Nat) :=
  if (es.any fun e => e.key == .ref a && e.hash != h) = true then .unsupported "dict.find:a-stored-key-whose-hash-has-changed"
  else (if (keysAt es pl == [.ref a]) = true then pure false else tableMayTell (.ref a) (keysAt es pl)) >>= fun tells =>
    if (tells && decide ((keysAt es pl).length ≥ 2)) = true then .unsupported "dict.find:order-among-keys-of-one-hash" else asked d a h es tells (decide ((keysAt es pl).length < 2)) pl none
end

theorem asked_of (d a : Addr) (h : Int) (es : Array DictEntry) (tells : Bool) (n : Nat) (F : Nat → Option (Option Nat) × Option Nat → Sem (ForInStep (Option (Option Nat) × Option Nat))) (post : Option (Option Nat) × Option Nat → Sem (Option Nat)) (p1 : ∀ x, post (none, x) = pure x) (p2 : ∀ r x, post (some r, x) = pure r)
    (hF : ∀ i hit, F i (none, hit) = match es[i]? with
      | some e => if (e.hash == h) = true then (dictEpoch d none >>= fun b => eqBool e.key (.ref a) >>= fun same => dictEpoch d none >>= fun b' =>
          if (b' != b) = true then .unsupported "dict.changed-during-lookup"
          else if same = true then
            (if hit.isSome = true then .unsupported "dict.find:order-among-keys-of-one-hash" else rule "dict.find.hit" >>= fun _ => if n < 2 then pure (ForInStep.done (some (some i), hit)) else pure (ForInStep.yield (none, some i)))
          else rule "dict.find.same-hash-other-key" >>= fun _ => if (tells && !(decide (0 ≤ h) && decide (h < 32))) = true then .unsupported "dict.find:asked-again-or-not-hangs-on-the-table" else pure (ForInStep.yield (none, hit)))
        else pure (ForInStep.yield (none, hit))
      | none => pure (ForInStep.yield (none, hit))) :
    ∀ (pl : List Nat) (hit : Option Nat), (∀ i ∈ pl, ∀ e, es[i]? = some e → (e.hash == h) = true) →
      (forIn pl ((none : Option (Option Nat)), hit) F >>= post) = asked d a h es tells (decide (n < 2)) pl hit
  | [], hit, _ => p1 hit
  | i :: r, hit, ha => by
    have ih := asked_of d a h es tells n F post p1 p2 hF r
    have hr : ∀ j ∈ r, ∀ e, es[j]? = some e → (e.hash == h) = true := fun j hj => ha j (List.mem_cons_of_mem _ hj)
    rw [List.forIn_cons, hF i hit]
    unfold asked
    cases he : es[i]? with
    | none => exact ih hit hr
    | some e =>
      simp only [ha i (List.mem_cons_self ..) e he, if_true, bind_assoc]
      refine congrArg _ (funext fun b => congrArg _ (funext fun same => congrArg _ (funext fun b' => ?_)))
      by_cases h1 : (b' != b) = true
      · simp only [h1, if_true]; rfl
      · simp only [h1]
        cases same with
        | true =>
          cases hh : hit.isSome with
          | true => rfl
          | false =>
            by_cases hn : n < 2
            · simp only [hn]
              simp only [Bool.false_eq_true, if_false, if_true, bind_assoc, pure_bind, decide_true, p2]
            · simp only [hn]
              simp only [Bool.false_eq_true, if_false, if_true, bind_assoc, pure_bind, decide_false]
              simp only [decide_eq_false hn] at ih
              exact congrArg _ (funext fun _ => ih _ hr)
        | false =>
          by_cases ht : (tells && !(decide (0 ≤ h) && decide (h < 32))) = true
          · simp only [ht, Bool.false_eq_true, if_false, if_true]; rfl
          · simp only [ht, Bool.false_eq_true, if_false, bind_assoc, pure_bind]
            exact congrArg _ (funext fun _ => ih _ hr)

theorem find_behind (d a : Addr) (h : Int) : dictFind d (.ref a) h = holding [.ref a] (dictEntries d none >>= fun es => behind d a h es (placesWithHash es.size (fun i => es[i]?.map (·.hash)) h)) := by
  refine congrArg (holding [Value.ref a]) (congrArg (dictEntries d none >>= ·) (funext fun es => ?_))
  have hp : ∀ i ∈ placesWithHash es.size (fun i => es[i]?.map (·.hash)) h, ∀ e, es[i]? = some e → (e.hash == h) = true := fun i hi e he => by
    unfold placesWithHash at hi
    have this : (es[i]?.map (·.hash) == some h) = true := (List.mem_filter.mp hi).2
    rw [he] at this
    exact this
  generalize placesWithHash es.size (fun i => es[i]?.map (·.hash)) h = pl at hp
  unfold behind
  show (if (Value.ref a :: keysAt es pl).all carriedByValue = true then _ else _) = _
  rw [if_neg (by simp [carriedByValue])]
  by_cases h0 : (es.any fun e => e.key == .ref a && e.hash != h) = true
  · simp only [h0, if_true]; rfl
  · simp only [h0]
    by_cases h2 : (keysAt es pl == [.ref a]) = true
    · refine Eq.trans (if_pos h2) (Eq.trans ?_ (congrArg (fun x : Sem Bool => x >>= _) (if_pos h2)).symm)
      refine congrArg (fun f => (pure false : Sem Bool) >>= f) (funext fun tells => ?_)
      by_cases h3 : (tells && decide ((keysAt es pl).length ≥ 2)) = true
      · refine (if_pos h3).trans (Eq.trans ?_ (if_pos h3).symm); rfl
      · refine (if_neg h3).trans (Eq.trans ?_ (if_neg h3).symm)
        refine asked_of d a h es tells (keysAt es pl).length _ _ (fun _ => rfl) (fun _ _ => rfl) ?_ pl none hp
        intro i hit
        show (match es[i]? with | some e => _ | _ => _) = _
        cases es[i]? <;> rfl
    · refine Eq.trans (if_neg h2) (Eq.trans ?_ (congrArg (fun x : Sem Bool => x >>= _) (if_neg h2)).symm)
      refine congrArg (fun f => tableMayTell (.ref a) (keysAt es pl) >>= f) (funext fun tells => ?_)
      by_cases h3 : (tells && decide ((keysAt es pl).length ≥ 2)) = true
      · refine (if_pos h3).trans (Eq.trans ?_ (if_pos h3).symm); rfl
      · refine (if_neg h3).trans (Eq.trans ?_ (if_neg h3).symm)
        refine asked_of d a h es tells (keysAt es pl).length _ _ (fun _ => rfl) (fun _ _ => rfl) ?_ pl none hp
        intro i hit
        show (match es[i]? with | some e => _ | _ => _) = _
        cases es[i]? <;> rfl

/-! ### runs -/
section
variable {tb : String → Option Builtin} {p : Program} {w : World} {n₀ : Nat} {ann : Option Value}
theorem segRun_up {b : Nat} (k : Nat) : ∀ (n : Nat) (s : Shared) (t : Thread) (r : Flow × Shared × Code × Pos), segRun tb p w n₀ ann b n s t = some r → segRun tb p w n₀ ann b (n + k) s t = some r
  | 0, _, _, _, e => by cases e
  | n + 1, s, t, r, e => by
    rw [Nat.add_right_comm]
    simp only [segRun] at e ⊢
    cases h1 : endAt b t with
    | some f => rw [h1] at e; exact e
    | none =>
      cases h2 : stepOk n₀ ann t with
      | false => rw [h1, h2] at e; cases e
      | true =>
        rw [h1, h2] at e
        cases h3 : step (denote tb) p w s t with
        | halt _ _ => rw [h3] at e; cases e
        | go s' t' => rw [h3] at e; exact segRun_up k n s' t' r e
def atRule (tag : String) (t : Thread) : Bool := match t.stack, t.cur with
  | [_], .rule g _ => g == tag
  | _, _ => false
/-- till the rule of that name stands at the base -/
def tillT (tb : String → Option Builtin) (p : Program) (w : World) (n₀ : Nat) (ann : Option Value) (tag : String) : Nat → SharedT → Thread → Option (SharedT × Thread)
  | 0, _, _ => none
  | n + 1, s, t => match atRule tag t with
    | true => some (s, t)
    | false => match endAt 1 t, stepOk n₀ ann t with
      | none, true => (stepT (denote tb) p w s t).bind fun x => tillT tb p w n₀ ann tag n x.1 x.2
      | _, _ => none
theorem till_seg {tag : String} : ∀ {n N : Nat} {s s' : SharedT} {t t' : Thread} {r : Flow × Shared × Code × Pos}, tillT tb p w n₀ ann tag n s t = some (s', t') → segRun tb p w n₀ ann 1 N s'.abs t' = some r →
    segRun tb p w n₀ ann 1 (n + N) s.abs t = some r
  | 0, _, _, _, _, _, _, e, _ => by cases e
  | n + 1, N, s, s', t, t', r, e, k => by
    unfold tillT at e
    cases h0 : atRule tag t with
    | true =>
      rw [h0] at e
      obtain ⟨rfl, rfl⟩ : s = s' ∧ t = t' := by simpa using e
      rw [Nat.add_comm]; exact segRun_up _ _ _ _ _ k
    | false =>
      rw [h0] at e
      rw [Nat.add_right_comm]
      simp only [segRun]
      cases h1 : endAt 1 t with
      | some f => rw [h1] at e; cases e
      | none =>
        cases h2 : stepOk n₀ ann t with
        | false => rw [h1, h2] at e; cases e
        | true =>
          rw [h1, h2] at e
          obtain ⟨⟨s2, t2⟩, h3, h4⟩ := Option.bind_eq_some_iff.mp e
          rw [stepT_spec h3]
          exact till_seg h4 k
theorem goT_seg {n N M : Nat} {s s' : SharedT} {t t' : Thread} {r : Flow × Shared × Code × Pos} (e : segGoT tb p w n₀ ann 1 n s t = some (s', t')) (k : segRun tb p w n₀ ann 1 N s'.abs t' = some r) (h : n + N = M) : segRun tb p w n₀ ann 1 M s.abs t = some r := by
  subst h; exact seg_go (segGo_of e) k
end

/-! ### trees -/
section
variable {α β : Type} {K : α → Sem β} {H : Value → Sem β} {gd : Bool → Bool} {lv : List Value → List Value}
theorem wrap_pure (a : α) : (pure a : Sem α).wrap K H gd lv = K a := rfl
theorem wrap_bind {γ : Type} (m : Sem γ) (f : γ → Sem α) : (m >>= f).wrap K H gd lv = m.wrap (fun a => (f a).wrap K H gd lv) H gd lv := by
  rw [Sem.bind_eq_wrap', Sem.wrap_wrap]; rfl
theorem wrap_keep (vs : List Value) (m : Sem α) : (m.keep vs).wrap K H gd lv = m.wrap K H gd (fun l => lv (vs ++ l)) := by
  rw [Sem.keep_eq_wrap, Sem.wrap_wrap]; rfl
end
def setAll (d : Addr) : List (Value × Value) → Sem Unit
  | [] => pure ()
  | x :: r => dictSet d x.1 x.2 >>= fun _ => setAll d r
theorem setAll_of (d : Addr) (F : Value × Value → PUnit → Sem (ForInStep PUnit)) (hF : ∀ x u, F x u = (dictSet d x.1 x.2 >>= fun _ => pure (ForInStep.yield PUnit.unit))) :
    ∀ vs : List (Value × Value), (forIn vs PUnit.unit F >>= fun _ => (pure () : Sem Unit)) = setAll d vs
  | [] => rfl
  | x :: r => by
    rw [List.forIn_cons, hF, setAll, bind_assoc, bind_assoc]
    refine congrArg _ (funext fun _ => ?_)
    rw [pure_bind]
    exact setAll_of d F hF r
def refsIn (vs : List (Value × Value)) : List Value := (vs.flatMap fun x => [x.1, x.2]).filter Value.isRef
theorem sub_form (pairs : List (Sem Value × Sem Value)) (hl : pairs.length ≤ 15) : subDict pairs =
    (alloc { cls := .type "dict", data := .dict #[] } >>= fun d => ((evalPairs pairs >>= fun vs => (setAll d vs).keep (refsIn vs)).keep [.ref d]) >>= fun _ => pure d) := by
  unfold subDict
  refine congrArg _ (funext fun d => ?_)
  rw [if_pos hl, holding_eq_keep]
  refine congrArg (fun m : Sem Unit => m >>= fun _ => pure d) ?_
  refine congrArg (Sem.keep [.ref d]) (congrArg _ (funext fun vs => ?_))
  rw [holding_eq_keep]
  exact congrArg _ (setAll_of d _ (fun _ _ => rfl) vs)
theorem stmt_form (env : Env) (x : Str) (pos' dpos pos : Pos) (ks : List (Option Expr)) (vs : List Expr) (pairs : List (Sem Value × Sem Value))
    (hs : swapsWith (.Dict ks vs dpos) (some (.Name x pos')) pos.line env = pure false) (hd : eval (.Dict ks vs dpos) env = (standAt dpos >>= fun _ => (subDict pairs >>= fun d => pure (Value.ref d)))) (hl : pairs.length ≤ 15)
    (K : Flow → Sem Fin) (H : Value → Sem Fin) :
    (exec (.Assign [.Name x pos'] (.Dict ks vs dpos) pos) env).wrap K H id id =
      (standAt pos >>= fun _ => standAt dpos >>= fun _ => alloc { cls := .type "dict", data := .dict #[] }).wrap (fun d => (evalPairs pairs).wrap (fun vs =>
        (setAll d vs).wrap (fun _ => (standAt pos' >>= fun _ => bindName env x (.ref d) >>= fun _ => pure Flow.next).wrap K H id id) H id (fun l => [.ref d] ++ (refsIn vs ++ l))) H id (fun l => [.ref d] ++ l)) H id id := by
  rw [exec_Assign_Name env x pos' _ pos hs, hd, sub_form pairs hl]
  simp only [wrap_bind, wrap_keep, wrap_pure, id]
theorem set_form (d a : Addr) (v : Value) (hv : v.isRef = false) : ∃ G : Int → Option Nat → Sem Unit, (∀ h, G h none = (rule "dict.set.new-key-at-the-end" >>= fun _ => updateDictKeys d (·.push ⟨h, .ref a, v⟩) none)) ∧
    ∀ {β : Type} (K : Unit → Sem β) (H : Value → Sem β) (gd : Bool → Bool) (lv : List Value → List Value), (dictSet d (.ref a) v).wrap K H gd lv =
      (pyHash (.ref a)).wrap (fun h => (dictEntries d none).wrap (fun es => (behind d a h es (placesWithHash es.size (fun i => es[i]?.map (·.hash)) h)).wrap
        (fun r => (G h r).wrap K H gd (fun l => lv ([.ref a] ++ ([.ref a] ++ l)))) H gd (fun l => lv ([.ref a] ++ ([.ref a] ++ ([.ref a] ++ l))))) H gd (fun l => lv ([.ref a] ++ ([.ref a] ++ ([.ref a] ++ l))))) H gd (fun l => lv ([.ref a] ++ l)) := by
  have hf : ([Value.ref a, v].filter Value.isRef) = [.ref a] := by cases v <;> first | rfl | cases hv
  refine ⟨?G, ?g1, ?g2⟩
  case g2 =>
    intro β K H gd lv
    unfold dictSet
    rw [holding_eq_keep, hf, wrap_keep, wrap_bind]
    refine Sem.wrap_congr _ _ _ (fun h => ?_) fun _ => rfl
    unfold dictSetHashed
    rw [holding_eq_keep, hf, wrap_keep, wrap_bind, find_behind, holding_eq_keep, show ([Value.ref a].filter Value.isRef) = [.ref a] from rfl, wrap_keep, wrap_bind]
  case g1 => intro h; rfl
theorem range_acc (acc : Nat) (h : acc < 2 ^ 64) (r : Int) (e : r = if (acc == 2 ^ 64 - 1) = true then 1546275796 else if acc < 2 ^ 63 then (acc : Int) else (acc : Int) - ((2 ^ 64 : Nat) : Int)) :
    (decide (-(2 ^ 63 : Int) ≤ r) && decide (r < 2 ^ 63)) = true := by
  simp only [Bool.and_eq_true, decide_eq_true_eq]
  subst e
  split
  · exact ⟨by decide, by decide⟩
  · split <;> omega
theorem hash_range (l : List Int) : (decide (-(2 ^ 63 : Int) ≤ Builtin.Tuple.tupleHashOf l) && decide (Builtin.Tuple.tupleHashOf l < 2 ^ 63)) = true := range_acc _ (Nat.mod_lt _ (by decide)) _ rfl
theorem reduced_of (l : List Int) : pyHashByItsType.reduced (Builtin.Tuple.tupleHashOf l) = pure (reduceHash (Builtin.Tuple.tupleHashOf l)) := by
  have e := hash_range l
  unfold pyHashByItsType.reduced reduceHash
  generalize Builtin.Tuple.tupleHashOf l = i at e
  rw [if_pos e, if_pos e]
def hashB (hf : List Int → Int) : Builtin := fun args => slotArgs "__hash__" 0 args >>= fun x => Builtin.Tuple.tupleItemsOf x.1 >>= fun xs => forIn xs #[] (fun y hs => pyHash y >>= fun h => pure (.yield (hs.push h))) >>= fun hs => retInt (hf hs.toList)
noncomputable def tbH (hf : List Int → Int) : String → Option Builtin := fun id => if id = "tuple.__hash__" then some (hashB hf) else treeTable id
theorem tbH_eq : tbH Builtin.Tuple.tupleHashOf = treeTable := funext fun id => by
  unfold tbH
  by_cases h : id = "tuple.__hash__"
  · rw [if_pos h, h]; kernel_rfl
  · rw [if_neg h]
def hsh (P : Params) (x : String) : Int := if (PySem.Str.ofString x).cps.isEmpty then 0 else reduceHash (P.strHash (PySem.Str.ofString x).cps)
abbrev fol (b : Bool) (w : World) : World := w.withFollow "special-get-raises" b
def pl (bs : List Bool) : List Nat := (List.range bs.length).filter fun i => (bs[i]?).getD false
def ent (i : Nat) (v : Value) (h : Int) : DictEntry := ⟨h, .ref i, v⟩
/-- the hash of a pair of texts, as it stands in the dict -/
def hP (P : Params) (x y : String) : Int := reduceHash (Builtin.Tuple.tupleHashOf [hsh P x, hsh P y])
end HD

set_option Elab.async false
set_option linter.all false
set_option maxRecDepth 100000
namespace HD
open PySem PySem.W PySem.Calls PyProof.Rows
/-- a head whose last part is run by the kernel from a state of one's own -/
theorem left_mid {p q : Program} {loose : List Str} {Xt : Shared → Bool} {α : Type} {Yf : Shared → α} {Ya : World → α} {N : Nat} {g0 : Bool} {H₀ : Params → Heap} {gs₀ : Array GenState} {d₀ : Drawn} {k₀ m₀ M n : Nat} {ann : Option Value}
    {T : World → OsState → SharedT} {rest : List Stmt} {env : Env} {c : Code} {pos pos' fp : Pos}
    (open_ : ∀ w : World, (fencedOpening treeTable p w N).map (fun s => (s.heap, s.gens, s.drawn, s.toks)) = some (H₀ w.params, gs₀, d₀, k₀))
    (size : ∀ w : World, ((H₀ w.params).isNs mainGlobals && gs₀.size == 0, (H₀ w.params).objs.size, (H₀ w.params).nsMap mainGlobals "__annotations__") = (true, m₀, ann))
    (run : ∀ (w : World) (os : OsState) (N' : Nat) (r : Shared), topRun treeTable p w m₀ ann N' (T w os).abs (restOf rest env c pos [topFrame fp]) = some r → topRun treeTable p w m₀ ann (M + N') ⟨H₀ w.params, gs₀, d₀, k₀, os⟩ (topStub p) = some r)
    (fin : ∀ (w : World) (s : Shared), topRun treeTable p w m₀ ann 2 s ⟨doneF .next, c, pos', [topFrame fp]⟩ = some s)
    (suf : ∀ (w : World) (os : OsState), (segRunT treeTable p w m₀ ann 1 n (T w os) (piecesOf rest env c pos [topFrame fp])).map (fun x => (x.1, x.2.2,
        (staticsOk (importedModules p.main.body) (H₀ w.params) x.2.1.abs.heap && namesBound p x.2.1.abs.heap && gensDone x.2.1.abs && laidKept (H₀ w.params) x.2.1.abs.heap), openSeen q loose (importedModules p.main.body) Xt g0 x.2.1.abs, Yf x.2.1.abs)) =
      some (.next, (c, pos'), true, openGood q loose, Ya w))
    (le : Nat.ble (M + (n + 2)) N = true) : LeftO p q loose Xt Yf Ya N g0 := fun w => by
  obtain ⟨⟨h, gs, d, k, os⟩, e1, e2⟩ := Option.map_eq_some_iff.mp (open_ w)
  obtain ⟨rfl, rfl, rfl, rfl⟩ : h = H₀ w.params ∧ gs = gs₀ ∧ d = d₀ ∧ k = k₀ := by simpa only [Prod.mk.injEq] using e2
  obtain ⟨z1, z2, z3⟩ : _ ∧ _ ∧ _ := by simpa only [Prod.mk.injEq] using size w
  obtain ⟨⟨f, s1, c1, q1⟩, e3, e4⟩ := Option.map_eq_some_iff.mp (suf w os)
  obtain ⟨rfl, ⟨rfl, rfl⟩, l1, l2, l3⟩ : f = .next ∧ (c1 = c ∧ q1 = pos') ∧ _ ∧ _ ∧ _ := by simpa only [Prod.mk.injEq] using e4
  have r1 : topRun treeTable p w m₀ ann (n + 2) (T w os).abs (restOf (rest ++ []) env c1 pos [topFrame fp]) = some s1.abs := piece_app (segRun_of e3) (piece_nil (fin w s1.abs))
  rw [List.append_nil] at r1
  have r2 := topRun_mono (N - (M + (n + 2))) _ _ _ _ (run w os _ _ r1)
  rw [Nat.add_sub_of_le (Nat.le_of_ble_eq_true le)] at r2
  have t : topFrom treeTable p w N ⟨H₀ w.params, gs, d, k, os⟩ = some s1.abs := by
    simp only [topFrom, z1, z2, z3, r2, Option.bind_some]
    rw [l1]
  show ((fencedOpening treeTable p w N).bind (topFrom treeTable p w N)).map _ = _
  rw [e1, Option.bind_some, t]
  exact congrArg some (Prod.ext l2 l3)
end HD

set_option Elab.async false
set_option linter.all false
set_option maxRecDepth 100000
set_option maxHeartbeats 0
namespace HD
open PySem PySem.W PySem.Calls PyProof.Rows
noncomputable abbrev pR : Program := PySem.Challenge.rw_callorder_k03_orders_judged.prog
def pA : Program := { PySem.Challenge.rw_callorder_k03_orders_judged.prog with main := { PySem.Challenge.rw_callorder_k03_orders_judged.prog.main with body := PySem.Challenge.rw_callorder_k03_orders_judged.prog.main.body.take 6 } }
open_shared sh for pA leaving 0
def twoOf : Option Expr → Option Expr
  | some (.Tuple [_, e] _ _) => some e
  | k => k
def fourOf : Option Expr → Expr → Expr
  | some (.Tuple [e1, e2] c p), v => .Tuple [e1, e2, v, v] c p
  | _, v => v
def otherStmt : Stmt → Stmt
  | .Assign [.Name x p1] (.Dict ks vs p2) p3 => .Assign [.Name x p1] (.Dict (ks.map twoOf) (List.zipWith fourOf ks vs) p2) p3
  | s => s
def pZ : Program := { PySem.Challenge.rw_callorder_k03_orders_judged.prog with main := { PySem.Challenge.rw_callorder_k03_orders_judged.prog.main with body := PySem.Challenge.rw_callorder_k03_orders_judged.prog.main.body.take 6 ++ (((PySem.Challenge.rw_callorder_k03_orders_judged.prog.main.body.drop 6).take 1).map otherStmt ++ PySem.Challenge.rw_callorder_k03_orders_judged.prog.main.body.drop 7) } }
open_shared shZ for pZ leaving 0
noncomputable def stmtAt (i : Nat) : Stmt := (pR.main.body[i]?).getD (.Pass default)
structure DictStmt where
  x : PySem.Str
  posN : Pos
  ks : List (Option Expr)
  vs : List Expr
  dpos : Pos
  pos : Pos
noncomputable def dictStmt : Stmt → Option DictStmt
  | .Assign [.Name x p1] (.Dict ks vs p2) p3 => some ⟨x, p1, ks, vs, p2, p3⟩
  | _ => none
noncomputable def ds : DictStmt := (dictStmt (stmtAt 6)).getD ⟨"", default, [], [], default, default⟩
theorem st6 : stmtAt 6 = .Assign [.Name ds.x ds.posN] (.Dict ds.ks ds.vs ds.dpos) ds.pos := by kernel_rfl
noncomputable def cE : Code := .body (behindTheImports pR) sh.env_1
def pos0 : Pos := { line := 0, col := 0, endLine := 0, endCol := 0 }
def posB : Pos := { line := 0, col := 0, endLine := 0, endCol := 0 }
def posK : Pos := { line := 9, col := 0, endLine := 9, endCol := 6 }
def posZ : Pos := { line := 189, col := 0, endLine := 199, endCol := 70 }
noncomputable abbrev B0 : List Frame := [topFrame pos0]
abbrev ann0 : Option Value := some (.ref 6)
noncomputable def pairs : List (Sem Value × Sem Value) := ((ds.ks.filterMap id).map fun k => eval k sh.env_1).zip (ds.vs.map fun v => (do let x ← eval v sh.env_1; standAt ds.dpos; pure x))
noncomputable def SA (w : World) (os : OsState) : SharedT := { tree := sh.tree_53 w.params, n := 54, life := { }, gens := { toList := [] }, drawn := { }, toks := 247, os := os }
theorem noSwap : swapsWith (.Dict ds.ks ds.vs ds.dpos) (some (.Name ds.x ds.posN)) ds.pos.line sh.env_1 = pure false := by kernel_rfl
theorem pairs_len : pairs.length = 6 := by kernel_rfl
theorem disp : eval (.Dict ds.ks ds.vs ds.dpos) sh.env_1 = (standAt ds.dpos >>= fun _ => (subDict pairs >>= fun d => pure (Value.ref d))) := by
  have hl := pairs_len
  rw [show (subDict pairs >>= fun d => pure (Value.ref d)) = dictDisplay (pairs.map fun p => (some p.1, p.2)) from (dictDisplay_pairs pairs (by intro e; rw [e] at hl; cases hl) (by omega)).symm]
  kernel_rfl
def tup (x y : String) (t : Nat) : Obj := ⟨.type "tuple", none, .seq #[.str (PySem.Str.ofString x) t, .str (PySem.Str.ofString y) (t + 1)] 0, #[]⟩
def dictAt (es : List DictEntry) : Obj := ⟨.type "dict", none, .dict es.toArray es.length, #[]⟩
noncomputable def tree1 (P : Params) : BT := (((((((sh.tree_53 P).ins 54 (dictAt [])).ins 55 (tup "row" "put" 247)).ins 56 (tup "row" "take" 250)).ins 57 (tup "row" "look" 253)).ins 58 (tup "number" "set" 256)).ins 59 (tup "number" "add" 259)).ins 60 (tup "number" "look" 262)
def vs0 : List (Value × Value) := [(.ref 55, .int 3 249), (.ref 56, .int 2 252), (.ref 57, .int 2 255), (.ref 58, .int 3 258), (.ref 59, .int 3 261), (.ref 60, .int 2 264)]
noncomputable def S (P : Params) (os : OsState) (es : List DictEntry) (toks : Nat) : SharedT := { tree := (tree1 P).set 54 (fun _ => dictAt es), n := 61, life := { }, gens := { toList := [] }, drawn := { }, toks := toks, os := os }
theorem go1 (w : World) (os : OsState) (K : Addr → Unit → Sem Fin) (H : Value → Sem Fin) :
    segGoT treeTable pR w 11 ann0 1 39 (SA w os) ⟨(standAt ds.pos >>= fun _ => standAt ds.dpos >>= fun _ => alloc { cls := .type "dict", data := .dict #[] }).wrap (fun d => (evalPairs pairs).wrap (fun vs =>
        (setAll d vs).wrap (K d) H id (fun l => [.ref d] ++ (refsIn vs ++ l))) H id (fun l => [.ref d] ++ l)) H id id, cE, posK, B0⟩ =
      some (S w.params os [] 265, ⟨(setAll 54 vs0).wrap (K 54) H id (fun l => [.ref 54] ++ (refsIn vs0 ++ l)), cE, ds.dpos, B0⟩) := by kernel_rfl
def gOf (h : Int) (a : Addr) (v : Value) (G : Nat → Sem Unit) : Option Nat → Sem Unit
  | none => rule "dict.set.new-key-at-the-end" >>= fun _ => updateDictKeys 54 (·.push ⟨h, .ref a, v⟩) none
  | some i => G i
section
variable {W : World} {s0 s1 s2 : SharedT} {a : Addr} {v : Value} {l : List Int} {es : Array DictEntry} {K : Unit → Sem Fin} {H : Value → Sem Fin} {lv : List Value → List Value} {r : Flow × Shared × Code × Pos} {N : Nat}
theorem put_run (hv : v.isRef = false)
    (h1 : ∀ (K : Int → Sem Fin) lv, segGoT treeTable pR W 11 ann0 1 25 s0 ⟨(pyHash (.ref a)).wrap K H id lv, cE, ds.dpos, B0⟩ = some (s1, ⟨(pyHashByItsType.reduced (Builtin.Tuple.tupleHashOf l)).wrap K H id lv, cE, ds.dpos, B0⟩))
    (h2 : ∀ (K : Array DictEntry → Sem Fin) lv, segGoT treeTable pR W 11 ann0 1 1 s1 ⟨(dictEntries 54 none).wrap K H id lv, cE, ds.dpos, B0⟩ = some (s1, ⟨K es, cE, ds.dpos, B0⟩))
    (h3 : ∀ (h : Int) G (K : Unit → Sem Fin) lv lv', tillT treeTable pR W 11 ann0 "dict.set.new-key-at-the-end" 500 s1 ⟨(behind 54 a h es (placesWithHash es.size (fun i => es[i]?.map (·.hash)) h)).wrap (fun r => (gOf h a v G r).wrap K H id lv') H id lv, cE, ds.dpos, B0⟩ =
      some (s1, ⟨(gOf h a v G none).wrap K H id lv', cE, ds.dpos, B0⟩))
    (h4 : ∀ G (K : Unit → Sem Fin) lv, segGoT treeTable pR W 11 ann0 1 4 s1 ⟨(gOf (reduceHash (Builtin.Tuple.tupleHashOf l)) a v G none).wrap K H id lv, cE, ds.dpos, B0⟩ = some (s2, ⟨K (), cE, ds.dpos, B0⟩))
    (k : segRun treeTable pR W 11 ann0 1 N s2.abs ⟨K (), cE, ds.dpos, B0⟩ = some r) :
    segRun treeTable pR W 11 ann0 1 (530 + N) s0.abs ⟨(dictSet 54 (.ref a) v).wrap K H id lv, cE, ds.dpos, B0⟩ = some r := by
  obtain ⟨G, g1, g2⟩ := set_form 54 a v hv
  rw [g2 K H id lv]
  refine goT_seg (h1 _ _) (N := 505 + N) ?_ (by omega)
  rw [reduced_of, wrap_pure]
  refine goT_seg (h2 _ _) (N := 504 + N) ?_ (by omega)
  generalize hh : reduceHash (Builtin.Tuple.tupleHashOf l) = h at *
  rw [show (fun r => (G h r).wrap K H id (fun l => lv ([.ref a] ++ ([.ref a] ++ l)))) = (fun r => (gOf h a v (fun i => G h (some i)) r).wrap K H id (fun l => lv ([.ref a] ++ ([.ref a] ++ l)))) from funext fun r => by
    cases r with
    | none => rw [g1 h]; rfl
    | some i => rfl]
  rw [show 504 + N = 500 + (4 + N) by omega]
  refine till_seg (h3 _ _ _ _ _) ?_
  exact goT_seg (h4 _ _ _) k rfl
end
section
variable (hf : List Int → Int) (b : Bool) (w : World) (os : OsState) (H : Value → Sem Fin) (es : List DictEntry)
theorem hash55 (tk : Nat) (K : Int → Sem Fin) (lv : List Value → List Value) : segGoT (tbH hf) pR (fol b w) 11 ann0 1 25 (S w.params os es tk) ⟨(pyHash (.ref 55)).wrap K H id lv, cE, ds.dpos, B0⟩ =
    some (S w.params os es (tk + 3), ⟨(pyHashByItsType.reduced (hf [hsh w.params "row", hsh w.params "put"])).wrap K H id lv, cE, ds.dpos, B0⟩) := by cases b <;> kernel_rfl
theorem hash56 (tk : Nat) (K : Int → Sem Fin) (lv : List Value → List Value) : segGoT (tbH hf) pR (fol b w) 11 ann0 1 25 (S w.params os es tk) ⟨(pyHash (.ref 56)).wrap K H id lv, cE, ds.dpos, B0⟩ =
    some (S w.params os es (tk + 3), ⟨(pyHashByItsType.reduced (hf [hsh w.params "row", hsh w.params "take"])).wrap K H id lv, cE, ds.dpos, B0⟩) := by cases b <;> kernel_rfl
theorem hash57 (tk : Nat) (K : Int → Sem Fin) (lv : List Value → List Value) : segGoT (tbH hf) pR (fol b w) 11 ann0 1 25 (S w.params os es tk) ⟨(pyHash (.ref 57)).wrap K H id lv, cE, ds.dpos, B0⟩ =
    some (S w.params os es (tk + 3), ⟨(pyHashByItsType.reduced (hf [hsh w.params "row", hsh w.params "look"])).wrap K H id lv, cE, ds.dpos, B0⟩) := by cases b <;> kernel_rfl
theorem hash58 (tk : Nat) (K : Int → Sem Fin) (lv : List Value → List Value) : segGoT (tbH hf) pR (fol b w) 11 ann0 1 25 (S w.params os es tk) ⟨(pyHash (.ref 58)).wrap K H id lv, cE, ds.dpos, B0⟩ =
    some (S w.params os es (tk + 3), ⟨(pyHashByItsType.reduced (hf [hsh w.params "number", hsh w.params "set"])).wrap K H id lv, cE, ds.dpos, B0⟩) := by cases b <;> kernel_rfl
theorem hash59 (tk : Nat) (K : Int → Sem Fin) (lv : List Value → List Value) : segGoT (tbH hf) pR (fol b w) 11 ann0 1 25 (S w.params os es tk) ⟨(pyHash (.ref 59)).wrap K H id lv, cE, ds.dpos, B0⟩ =
    some (S w.params os es (tk + 3), ⟨(pyHashByItsType.reduced (hf [hsh w.params "number", hsh w.params "add"])).wrap K H id lv, cE, ds.dpos, B0⟩) := by cases b <;> kernel_rfl
theorem hash60 (tk : Nat) (K : Int → Sem Fin) (lv : List Value → List Value) : segGoT (tbH hf) pR (fol b w) 11 ann0 1 25 (S w.params os es tk) ⟨(pyHash (.ref 60)).wrap K H id lv, cE, ds.dpos, B0⟩ =
    some (S w.params os es (tk + 3), ⟨(pyHashByItsType.reduced (hf [hsh w.params "number", hsh w.params "look"])).wrap K H id lv, cE, ds.dpos, B0⟩) := by cases b <;> kernel_rfl
theorem load0 (tk : Nat) (K : Array DictEntry → Sem Fin) (lv : List Value → List Value) : segGoT treeTable pR (fol b w) 11 ann0 1 1 (S w.params os [] tk) ⟨(dictEntries 54 none).wrap K H id lv, cE, ds.dpos, B0⟩ =
    some (S w.params os [] tk, ⟨K #[], cE, ds.dpos, B0⟩) := by kernel_rfl
theorem upd0 (h0 : Int) (tk : Nat) (G : Nat → Sem Unit) (K : Unit → Sem Fin) (lv : List Value → List Value) : segGoT treeTable pR (fol b w) 11 ann0 1 4 (S w.params os [] tk) ⟨(gOf h0 55 (.int 3 249) G none).wrap K H id lv, cE, ds.dpos, B0⟩ =
    some (S w.params os [ent 55 (.int 3 249) h0] tk, ⟨K (), cE, ds.dpos, B0⟩) := by kernel_rfl
theorem findB0 (h : Int) (tk : Nat) (G : Nat → Sem Unit) (K : Unit → Sem Fin) (lv lv' : List Value → List Value) : tillT treeTable pR (fol b w) 11 ann0 "dict.set.new-key-at-the-end" 500 (S w.params os [] tk)
    ⟨(behind 54 55 h #[] (pl [])).wrap (fun r => (gOf h 55 (.int 3 249) G r).wrap K H id lv') H id lv, cE, ds.dpos, B0⟩ =
    some (S w.params os [] tk, ⟨(gOf h 55 (.int 3 249) G none).wrap K H id lv', cE, ds.dpos, B0⟩) := by cases b <;> kernel_rfl
theorem places0 (h : Int) : placesWithHash (#[] : Array DictEntry).size (fun i => (#[] : Array DictEntry)[i]?.map (·.hash)) h = pl [] := by kernel_rfl
theorem load1 (h0 : Int) (tk : Nat) (K : Array DictEntry → Sem Fin) (lv : List Value → List Value) : segGoT treeTable pR (fol b w) 11 ann0 1 1 (S w.params os [ent 55 (.int 3 249) h0] tk) ⟨(dictEntries 54 none).wrap K H id lv, cE, ds.dpos, B0⟩ =
    some (S w.params os [ent 55 (.int 3 249) h0] tk, ⟨K #[ent 55 (.int 3 249) h0], cE, ds.dpos, B0⟩) := by kernel_rfl
theorem upd1 (h0 : Int) (h1 : Int) (tk : Nat) (G : Nat → Sem Unit) (K : Unit → Sem Fin) (lv : List Value → List Value) : segGoT treeTable pR (fol b w) 11 ann0 1 4 (S w.params os [ent 55 (.int 3 249) h0] tk) ⟨(gOf h1 56 (.int 2 252) G none).wrap K H id lv, cE, ds.dpos, B0⟩ =
    some (S w.params os [ent 55 (.int 3 249) h0, ent 56 (.int 2 252) h1] tk, ⟨K (), cE, ds.dpos, B0⟩) := by kernel_rfl
theorem findB1 (h0 : Int) (b0 : Bool) (h : Int) (tk : Nat) (G : Nat → Sem Unit) (K : Unit → Sem Fin) (lv lv' : List Value → List Value) : tillT treeTable pR (fol b w) 11 ann0 "dict.set.new-key-at-the-end" 500 (S w.params os [ent 55 (.int 3 249) h0] tk)
    ⟨(behind 54 56 h #[ent 55 (.int 3 249) h0] (pl [b0])).wrap (fun r => (gOf h 56 (.int 2 252) G r).wrap K H id lv') H id lv, cE, ds.dpos, B0⟩ =
    some (S w.params os [ent 55 (.int 3 249) h0] tk, ⟨(gOf h 56 (.int 2 252) G none).wrap K H id lv', cE, ds.dpos, B0⟩) := by cases b <;> cases b0 <;> kernel_rfl
theorem places1 (h0 h : Int) : placesWithHash (#[ent 55 (.int 3 249) h0] : Array DictEntry).size (fun i => (#[ent 55 (.int 3 249) h0] : Array DictEntry)[i]?.map (·.hash)) h = pl [h0 == h] := by kernel_rfl
theorem load2 (h0 h1 : Int) (tk : Nat) (K : Array DictEntry → Sem Fin) (lv : List Value → List Value) : segGoT treeTable pR (fol b w) 11 ann0 1 1 (S w.params os [ent 55 (.int 3 249) h0, ent 56 (.int 2 252) h1] tk) ⟨(dictEntries 54 none).wrap K H id lv, cE, ds.dpos, B0⟩ =
    some (S w.params os [ent 55 (.int 3 249) h0, ent 56 (.int 2 252) h1] tk, ⟨K #[ent 55 (.int 3 249) h0, ent 56 (.int 2 252) h1], cE, ds.dpos, B0⟩) := by kernel_rfl
theorem upd2 (h0 h1 : Int) (h2 : Int) (tk : Nat) (G : Nat → Sem Unit) (K : Unit → Sem Fin) (lv : List Value → List Value) : segGoT treeTable pR (fol b w) 11 ann0 1 4 (S w.params os [ent 55 (.int 3 249) h0, ent 56 (.int 2 252) h1] tk) ⟨(gOf h2 57 (.int 2 255) G none).wrap K H id lv, cE, ds.dpos, B0⟩ =
    some (S w.params os [ent 55 (.int 3 249) h0, ent 56 (.int 2 252) h1, ent 57 (.int 2 255) h2] tk, ⟨K (), cE, ds.dpos, B0⟩) := by kernel_rfl
theorem findB2 (h0 h1 : Int) (b0 b1 : Bool) (h : Int) (tk : Nat) (G : Nat → Sem Unit) (K : Unit → Sem Fin) (lv lv' : List Value → List Value) : tillT treeTable pR (fol b w) 11 ann0 "dict.set.new-key-at-the-end" 500 (S w.params os [ent 55 (.int 3 249) h0, ent 56 (.int 2 252) h1] tk)
    ⟨(behind 54 57 h #[ent 55 (.int 3 249) h0, ent 56 (.int 2 252) h1] (pl [b0, b1])).wrap (fun r => (gOf h 57 (.int 2 255) G r).wrap K H id lv') H id lv, cE, ds.dpos, B0⟩ =
    some (S w.params os [ent 55 (.int 3 249) h0, ent 56 (.int 2 252) h1] tk, ⟨(gOf h 57 (.int 2 255) G none).wrap K H id lv', cE, ds.dpos, B0⟩) := by cases b <;> cases b0 <;> cases b1 <;> kernel_rfl
theorem places2 (h0 h1 h : Int) : placesWithHash (#[ent 55 (.int 3 249) h0, ent 56 (.int 2 252) h1] : Array DictEntry).size (fun i => (#[ent 55 (.int 3 249) h0, ent 56 (.int 2 252) h1] : Array DictEntry)[i]?.map (·.hash)) h = pl [h0 == h, h1 == h] := by kernel_rfl
theorem load3 (h0 h1 h2 : Int) (tk : Nat) (K : Array DictEntry → Sem Fin) (lv : List Value → List Value) : segGoT treeTable pR (fol b w) 11 ann0 1 1 (S w.params os [ent 55 (.int 3 249) h0, ent 56 (.int 2 252) h1, ent 57 (.int 2 255) h2] tk) ⟨(dictEntries 54 none).wrap K H id lv, cE, ds.dpos, B0⟩ =
    some (S w.params os [ent 55 (.int 3 249) h0, ent 56 (.int 2 252) h1, ent 57 (.int 2 255) h2] tk, ⟨K #[ent 55 (.int 3 249) h0, ent 56 (.int 2 252) h1, ent 57 (.int 2 255) h2], cE, ds.dpos, B0⟩) := by kernel_rfl
theorem upd3 (h0 h1 h2 : Int) (h3 : Int) (tk : Nat) (G : Nat → Sem Unit) (K : Unit → Sem Fin) (lv : List Value → List Value) : segGoT treeTable pR (fol b w) 11 ann0 1 4 (S w.params os [ent 55 (.int 3 249) h0, ent 56 (.int 2 252) h1, ent 57 (.int 2 255) h2] tk) ⟨(gOf h3 58 (.int 3 258) G none).wrap K H id lv, cE, ds.dpos, B0⟩ =
    some (S w.params os [ent 55 (.int 3 249) h0, ent 56 (.int 2 252) h1, ent 57 (.int 2 255) h2, ent 58 (.int 3 258) h3] tk, ⟨K (), cE, ds.dpos, B0⟩) := by kernel_rfl
theorem findB3 (h0 h1 h2 : Int) (b0 b1 b2 : Bool) (h : Int) (tk : Nat) (G : Nat → Sem Unit) (K : Unit → Sem Fin) (lv lv' : List Value → List Value) : tillT treeTable pR (fol b w) 11 ann0 "dict.set.new-key-at-the-end" 500 (S w.params os [ent 55 (.int 3 249) h0, ent 56 (.int 2 252) h1, ent 57 (.int 2 255) h2] tk)
    ⟨(behind 54 58 h #[ent 55 (.int 3 249) h0, ent 56 (.int 2 252) h1, ent 57 (.int 2 255) h2] (pl [b0, b1, b2])).wrap (fun r => (gOf h 58 (.int 3 258) G r).wrap K H id lv') H id lv, cE, ds.dpos, B0⟩ =
    some (S w.params os [ent 55 (.int 3 249) h0, ent 56 (.int 2 252) h1, ent 57 (.int 2 255) h2] tk, ⟨(gOf h 58 (.int 3 258) G none).wrap K H id lv', cE, ds.dpos, B0⟩) := by cases b <;> cases b0 <;> cases b1 <;> cases b2 <;> kernel_rfl
theorem places3 (h0 h1 h2 h : Int) : placesWithHash (#[ent 55 (.int 3 249) h0, ent 56 (.int 2 252) h1, ent 57 (.int 2 255) h2] : Array DictEntry).size (fun i => (#[ent 55 (.int 3 249) h0, ent 56 (.int 2 252) h1, ent 57 (.int 2 255) h2] : Array DictEntry)[i]?.map (·.hash)) h = pl [h0 == h, h1 == h, h2 == h] := by kernel_rfl
theorem load4 (h0 h1 h2 h3 : Int) (tk : Nat) (K : Array DictEntry → Sem Fin) (lv : List Value → List Value) : segGoT treeTable pR (fol b w) 11 ann0 1 1 (S w.params os [ent 55 (.int 3 249) h0, ent 56 (.int 2 252) h1, ent 57 (.int 2 255) h2, ent 58 (.int 3 258) h3] tk) ⟨(dictEntries 54 none).wrap K H id lv, cE, ds.dpos, B0⟩ =
    some (S w.params os [ent 55 (.int 3 249) h0, ent 56 (.int 2 252) h1, ent 57 (.int 2 255) h2, ent 58 (.int 3 258) h3] tk, ⟨K #[ent 55 (.int 3 249) h0, ent 56 (.int 2 252) h1, ent 57 (.int 2 255) h2, ent 58 (.int 3 258) h3], cE, ds.dpos, B0⟩) := by kernel_rfl
theorem upd4 (h0 h1 h2 h3 : Int) (h4 : Int) (tk : Nat) (G : Nat → Sem Unit) (K : Unit → Sem Fin) (lv : List Value → List Value) : segGoT treeTable pR (fol b w) 11 ann0 1 4 (S w.params os [ent 55 (.int 3 249) h0, ent 56 (.int 2 252) h1, ent 57 (.int 2 255) h2, ent 58 (.int 3 258) h3] tk) ⟨(gOf h4 59 (.int 3 261) G none).wrap K H id lv, cE, ds.dpos, B0⟩ =
    some (S w.params os [ent 55 (.int 3 249) h0, ent 56 (.int 2 252) h1, ent 57 (.int 2 255) h2, ent 58 (.int 3 258) h3, ent 59 (.int 3 261) h4] tk, ⟨K (), cE, ds.dpos, B0⟩) := by kernel_rfl
theorem findB4 (h0 h1 h2 h3 : Int) (b0 b1 b2 b3 : Bool) (h : Int) (tk : Nat) (G : Nat → Sem Unit) (K : Unit → Sem Fin) (lv lv' : List Value → List Value) : tillT treeTable pR (fol b w) 11 ann0 "dict.set.new-key-at-the-end" 500 (S w.params os [ent 55 (.int 3 249) h0, ent 56 (.int 2 252) h1, ent 57 (.int 2 255) h2, ent 58 (.int 3 258) h3] tk)
    ⟨(behind 54 59 h #[ent 55 (.int 3 249) h0, ent 56 (.int 2 252) h1, ent 57 (.int 2 255) h2, ent 58 (.int 3 258) h3] (pl [b0, b1, b2, b3])).wrap (fun r => (gOf h 59 (.int 3 261) G r).wrap K H id lv') H id lv, cE, ds.dpos, B0⟩ =
    some (S w.params os [ent 55 (.int 3 249) h0, ent 56 (.int 2 252) h1, ent 57 (.int 2 255) h2, ent 58 (.int 3 258) h3] tk, ⟨(gOf h 59 (.int 3 261) G none).wrap K H id lv', cE, ds.dpos, B0⟩) := by cases b <;> cases b0 <;> cases b1 <;> cases b2 <;> cases b3 <;> kernel_rfl
theorem places4 (h0 h1 h2 h3 h : Int) : placesWithHash (#[ent 55 (.int 3 249) h0, ent 56 (.int 2 252) h1, ent 57 (.int 2 255) h2, ent 58 (.int 3 258) h3] : Array DictEntry).size (fun i => (#[ent 55 (.int 3 249) h0, ent 56 (.int 2 252) h1, ent 57 (.int 2 255) h2, ent 58 (.int 3 258) h3] : Array DictEntry)[i]?.map (·.hash)) h = pl [h0 == h, h1 == h, h2 == h, h3 == h] := by kernel_rfl
theorem load5 (h0 h1 h2 h3 h4 : Int) (tk : Nat) (K : Array DictEntry → Sem Fin) (lv : List Value → List Value) : segGoT treeTable pR (fol b w) 11 ann0 1 1 (S w.params os [ent 55 (.int 3 249) h0, ent 56 (.int 2 252) h1, ent 57 (.int 2 255) h2, ent 58 (.int 3 258) h3, ent 59 (.int 3 261) h4] tk) ⟨(dictEntries 54 none).wrap K H id lv, cE, ds.dpos, B0⟩ =
    some (S w.params os [ent 55 (.int 3 249) h0, ent 56 (.int 2 252) h1, ent 57 (.int 2 255) h2, ent 58 (.int 3 258) h3, ent 59 (.int 3 261) h4] tk, ⟨K #[ent 55 (.int 3 249) h0, ent 56 (.int 2 252) h1, ent 57 (.int 2 255) h2, ent 58 (.int 3 258) h3, ent 59 (.int 3 261) h4], cE, ds.dpos, B0⟩) := by kernel_rfl
theorem upd5 (h0 h1 h2 h3 h4 : Int) (h5 : Int) (tk : Nat) (G : Nat → Sem Unit) (K : Unit → Sem Fin) (lv : List Value → List Value) : segGoT treeTable pR (fol b w) 11 ann0 1 4 (S w.params os [ent 55 (.int 3 249) h0, ent 56 (.int 2 252) h1, ent 57 (.int 2 255) h2, ent 58 (.int 3 258) h3, ent 59 (.int 3 261) h4] tk) ⟨(gOf h5 60 (.int 2 264) G none).wrap K H id lv, cE, ds.dpos, B0⟩ =
    some (S w.params os [ent 55 (.int 3 249) h0, ent 56 (.int 2 252) h1, ent 57 (.int 2 255) h2, ent 58 (.int 3 258) h3, ent 59 (.int 3 261) h4, ent 60 (.int 2 264) h5] tk, ⟨K (), cE, ds.dpos, B0⟩) := by kernel_rfl
theorem findB5 (h0 h1 h2 h3 h4 : Int) (b0 b1 b2 b3 b4 : Bool) (h : Int) (tk : Nat) (G : Nat → Sem Unit) (K : Unit → Sem Fin) (lv lv' : List Value → List Value) : tillT treeTable pR (fol b w) 11 ann0 "dict.set.new-key-at-the-end" 500 (S w.params os [ent 55 (.int 3 249) h0, ent 56 (.int 2 252) h1, ent 57 (.int 2 255) h2, ent 58 (.int 3 258) h3, ent 59 (.int 3 261) h4] tk)
    ⟨(behind 54 60 h #[ent 55 (.int 3 249) h0, ent 56 (.int 2 252) h1, ent 57 (.int 2 255) h2, ent 58 (.int 3 258) h3, ent 59 (.int 3 261) h4] (pl [b0, b1, b2, b3, b4])).wrap (fun r => (gOf h 60 (.int 2 264) G r).wrap K H id lv') H id lv, cE, ds.dpos, B0⟩ =
    some (S w.params os [ent 55 (.int 3 249) h0, ent 56 (.int 2 252) h1, ent 57 (.int 2 255) h2, ent 58 (.int 3 258) h3, ent 59 (.int 3 261) h4] tk, ⟨(gOf h 60 (.int 2 264) G none).wrap K H id lv', cE, ds.dpos, B0⟩) := by cases b <;> cases b0 <;> cases b1 <;> cases b2 <;> cases b3 <;> cases b4 <;> kernel_rfl
theorem places5 (h0 h1 h2 h3 h4 h : Int) : placesWithHash (#[ent 55 (.int 3 249) h0, ent 56 (.int 2 252) h1, ent 57 (.int 2 255) h2, ent 58 (.int 3 258) h3, ent 59 (.int 3 261) h4] : Array DictEntry).size (fun i => (#[ent 55 (.int 3 249) h0, ent 56 (.int 2 252) h1, ent 57 (.int 2 255) h2, ent 58 (.int 3 258) h3, ent 59 (.int 3 261) h4] : Array DictEntry)[i]?.map (·.hash)) h = pl [h0 == h, h1 == h, h2 == h, h3 == h, h4 == h] := by kernel_rfl
end
def parts (P : Params) : List DictEntry := [ent 55 (.int 3 249) (hP P "row" "put"), ent 56 (.int 2 252) (hP P "row" "take"), ent 57 (.int 2 255) (hP P "row" "look"), ent 58 (.int 3 258) (hP P "number" "set"), ent 59 (.int 3 261) (hP P "number" "add"), ent 60 (.int 2 264) (hP P "number" "look")]
noncomputable def SB (w : World) (os : OsState) : SharedT := { S w.params os (parts w.params) 284 with tree := ((tree1 w.params).set 54 (fun _ => dictAt (parts w.params))).set 3 (Obj.mapDictKeys (·.push ⟨PyData.keyHash w.params (PySem.Str.ofString "PARTS"), .str (PySem.Str.ofString "PARTS") 283, .ref 54⟩)) }
theorem S_fol (b : Bool) (w : World) (os : OsState) (es : List DictEntry) (tk : Nat) : S (fol b w).params os es tk = S w.params os es tk := by kernel_rfl
theorem last (b : Bool) (w : World) (os : OsState) (hs : List DictEntry) (e : hs = parts w.params) : segRunT treeTable pR (fol b w) 11 ann0 1 8 (S w.params os hs 283) ⟨(standAt ds.posN >>= fun _ => bindName sh.env_1 ds.x (.ref 54) >>= fun _ => pure Flow.next).wrap doneF deadEnd id id, cE, ds.dpos, B0⟩ =
    some (.next, { S w.params os hs 284 with tree := ((tree1 w.params).set 54 (fun _ => dictAt hs)).set 3 (Obj.mapDictKeys (·.push ⟨PyData.keyHash w.params (PySem.Str.ofString "PARTS"), .str (PySem.Str.ofString "PARTS") 283, .ref 54⟩)) }, cE, ds.posN) := by kernel_rfl
theorem mid (b : Bool) (w : World) (os : OsState) : segRun treeTable pR (fol b w) 11 ann0 1 (39 + (530 + (530 + (530 + (530 + (530 + (530 + 8))))))) (SA (fol b w) os).abs (pieceOf (stmtAt 6) sh.env_1 cE posK B0) = some (.next, (SB (fol b w) os).abs, cE, ds.posN) := by
  rw [st6]
  show segRun treeTable pR (fol b w) 11 ann0 1 _ (SA (fol b w) os).abs ⟨(exec (.Assign [.Name ds.x ds.posN] (.Dict ds.ks ds.vs ds.dpos) ds.pos) sh.env_1).wrap doneF deadEnd id id, cE, posK, B0⟩ = _
  rw [stmt_form sh.env_1 ds.x ds.posN ds.dpos ds.pos ds.ks ds.vs pairs noSwap disp (by rw [pairs_len]; decide) doneF deadEnd]
  refine goT_seg (go1 (fol b w) os (fun d _ => (standAt ds.posN >>= fun _ => bindName sh.env_1 ds.x (.ref d) >>= fun _ => pure Flow.next).wrap doneF deadEnd id id) deadEnd) ?_ rfl
  rw [S_fol]
  unfold vs0
  rw [setAll, wrap_bind]
  refine put_run (l := [hsh w.params "row", hsh w.params "put"]) (es := #[]) (s1 := S w.params os [] 268) (s2 := S w.params os [ent 55 (.int 3 249) (hP w.params "row" "put")] 268) rfl (fun K lv => tbH_eq ▸ hash55 Builtin.Tuple.tupleHashOf b w os deadEnd [] 265 K lv) (fun K lv => load0 b w os deadEnd  268 K lv)
    (fun h G K lv lv' => by rw [places0]; exact findB0 b w os deadEnd   h 268 G K lv lv') (fun G K lv => upd0 b w os deadEnd  _ 268 G K lv) ?_
  rw [setAll, wrap_bind]
  refine put_run (l := [hsh w.params "row", hsh w.params "take"]) (es := #[ent 55 (.int 3 249) (hP w.params "row" "put")]) (s1 := S w.params os [ent 55 (.int 3 249) (hP w.params "row" "put")] 271) (s2 := S w.params os [ent 55 (.int 3 249) (hP w.params "row" "put"), ent 56 (.int 2 252) (hP w.params "row" "take")] 271) rfl (fun K lv => tbH_eq ▸ hash56 Builtin.Tuple.tupleHashOf b w os deadEnd [ent 55 (.int 3 249) (hP w.params "row" "put")] 268 K lv) (fun K lv => load1 b w os deadEnd (hP w.params "row" "put") 271 K lv)
    (fun h G K lv lv' => by rw [places1]; exact findB1 b w os deadEnd (hP w.params "row" "put") _ h 271 G K lv lv') (fun G K lv => upd1 b w os deadEnd (hP w.params "row" "put") _ 271 G K lv) ?_
  rw [setAll, wrap_bind]
  refine put_run (l := [hsh w.params "row", hsh w.params "look"]) (es := #[ent 55 (.int 3 249) (hP w.params "row" "put"), ent 56 (.int 2 252) (hP w.params "row" "take")]) (s1 := S w.params os [ent 55 (.int 3 249) (hP w.params "row" "put"), ent 56 (.int 2 252) (hP w.params "row" "take")] 274) (s2 := S w.params os [ent 55 (.int 3 249) (hP w.params "row" "put"), ent 56 (.int 2 252) (hP w.params "row" "take"), ent 57 (.int 2 255) (hP w.params "row" "look")] 274) rfl (fun K lv => tbH_eq ▸ hash57 Builtin.Tuple.tupleHashOf b w os deadEnd [ent 55 (.int 3 249) (hP w.params "row" "put"), ent 56 (.int 2 252) (hP w.params "row" "take")] 271 K lv) (fun K lv => load2 b w os deadEnd (hP w.params "row" "put") (hP w.params "row" "take") 274 K lv)
    (fun h G K lv lv' => by rw [places2]; exact findB2 b w os deadEnd (hP w.params "row" "put") (hP w.params "row" "take") _ _ h 274 G K lv lv') (fun G K lv => upd2 b w os deadEnd (hP w.params "row" "put") (hP w.params "row" "take") _ 274 G K lv) ?_
  rw [setAll, wrap_bind]
  refine put_run (l := [hsh w.params "number", hsh w.params "set"]) (es := #[ent 55 (.int 3 249) (hP w.params "row" "put"), ent 56 (.int 2 252) (hP w.params "row" "take"), ent 57 (.int 2 255) (hP w.params "row" "look")]) (s1 := S w.params os [ent 55 (.int 3 249) (hP w.params "row" "put"), ent 56 (.int 2 252) (hP w.params "row" "take"), ent 57 (.int 2 255) (hP w.params "row" "look")] 277) (s2 := S w.params os [ent 55 (.int 3 249) (hP w.params "row" "put"), ent 56 (.int 2 252) (hP w.params "row" "take"), ent 57 (.int 2 255) (hP w.params "row" "look"), ent 58 (.int 3 258) (hP w.params "number" "set")] 277) rfl (fun K lv => tbH_eq ▸ hash58 Builtin.Tuple.tupleHashOf b w os deadEnd [ent 55 (.int 3 249) (hP w.params "row" "put"), ent 56 (.int 2 252) (hP w.params "row" "take"), ent 57 (.int 2 255) (hP w.params "row" "look")] 274 K lv) (fun K lv => load3 b w os deadEnd (hP w.params "row" "put") (hP w.params "row" "take") (hP w.params "row" "look") 277 K lv)
    (fun h G K lv lv' => by rw [places3]; exact findB3 b w os deadEnd (hP w.params "row" "put") (hP w.params "row" "take") (hP w.params "row" "look") _ _ _ h 277 G K lv lv') (fun G K lv => upd3 b w os deadEnd (hP w.params "row" "put") (hP w.params "row" "take") (hP w.params "row" "look") _ 277 G K lv) ?_
  rw [setAll, wrap_bind]
  refine put_run (l := [hsh w.params "number", hsh w.params "add"]) (es := #[ent 55 (.int 3 249) (hP w.params "row" "put"), ent 56 (.int 2 252) (hP w.params "row" "take"), ent 57 (.int 2 255) (hP w.params "row" "look"), ent 58 (.int 3 258) (hP w.params "number" "set")]) (s1 := S w.params os [ent 55 (.int 3 249) (hP w.params "row" "put"), ent 56 (.int 2 252) (hP w.params "row" "take"), ent 57 (.int 2 255) (hP w.params "row" "look"), ent 58 (.int 3 258) (hP w.params "number" "set")] 280) (s2 := S w.params os [ent 55 (.int 3 249) (hP w.params "row" "put"), ent 56 (.int 2 252) (hP w.params "row" "take"), ent 57 (.int 2 255) (hP w.params "row" "look"), ent 58 (.int 3 258) (hP w.params "number" "set"), ent 59 (.int 3 261) (hP w.params "number" "add")] 280) rfl (fun K lv => tbH_eq ▸ hash59 Builtin.Tuple.tupleHashOf b w os deadEnd [ent 55 (.int 3 249) (hP w.params "row" "put"), ent 56 (.int 2 252) (hP w.params "row" "take"), ent 57 (.int 2 255) (hP w.params "row" "look"), ent 58 (.int 3 258) (hP w.params "number" "set")] 277 K lv) (fun K lv => load4 b w os deadEnd (hP w.params "row" "put") (hP w.params "row" "take") (hP w.params "row" "look") (hP w.params "number" "set") 280 K lv)
    (fun h G K lv lv' => by rw [places4]; exact findB4 b w os deadEnd (hP w.params "row" "put") (hP w.params "row" "take") (hP w.params "row" "look") (hP w.params "number" "set") _ _ _ _ h 280 G K lv lv') (fun G K lv => upd4 b w os deadEnd (hP w.params "row" "put") (hP w.params "row" "take") (hP w.params "row" "look") (hP w.params "number" "set") _ 280 G K lv) ?_
  rw [setAll, wrap_bind]
  refine put_run (l := [hsh w.params "number", hsh w.params "look"]) (es := #[ent 55 (.int 3 249) (hP w.params "row" "put"), ent 56 (.int 2 252) (hP w.params "row" "take"), ent 57 (.int 2 255) (hP w.params "row" "look"), ent 58 (.int 3 258) (hP w.params "number" "set"), ent 59 (.int 3 261) (hP w.params "number" "add")]) (s1 := S w.params os [ent 55 (.int 3 249) (hP w.params "row" "put"), ent 56 (.int 2 252) (hP w.params "row" "take"), ent 57 (.int 2 255) (hP w.params "row" "look"), ent 58 (.int 3 258) (hP w.params "number" "set"), ent 59 (.int 3 261) (hP w.params "number" "add")] 283) (s2 := S w.params os [ent 55 (.int 3 249) (hP w.params "row" "put"), ent 56 (.int 2 252) (hP w.params "row" "take"), ent 57 (.int 2 255) (hP w.params "row" "look"), ent 58 (.int 3 258) (hP w.params "number" "set"), ent 59 (.int 3 261) (hP w.params "number" "add"), ent 60 (.int 2 264) (hP w.params "number" "look")] 283) rfl (fun K lv => tbH_eq ▸ hash60 Builtin.Tuple.tupleHashOf b w os deadEnd [ent 55 (.int 3 249) (hP w.params "row" "put"), ent 56 (.int 2 252) (hP w.params "row" "take"), ent 57 (.int 2 255) (hP w.params "row" "look"), ent 58 (.int 3 258) (hP w.params "number" "set"), ent 59 (.int 3 261) (hP w.params "number" "add")] 280 K lv) (fun K lv => load5 b w os deadEnd (hP w.params "row" "put") (hP w.params "row" "take") (hP w.params "row" "look") (hP w.params "number" "set") (hP w.params "number" "add") 283 K lv)
    (fun h G K lv lv' => by rw [places5]; exact findB5 b w os deadEnd (hP w.params "row" "put") (hP w.params "row" "take") (hP w.params "row" "look") (hP w.params "number" "set") (hP w.params "number" "add") _ _ _ _ _ h 283 G K lv lv') (fun G K lv => upd5 b w os deadEnd (hP w.params "row" "put") (hP w.params "row" "take") (hP w.params "row" "look") (hP w.params "number" "set") (hP w.params "number" "add") _ 283 G K lv) ?_
  exact segRun_of (last b w os _ rfl)
theorem mid_all (w : World) (os : OsState) : segRun treeTable pR w 11 ann0 1 3227 (SA w os).abs (pieceOf (stmtAt 6) sh.env_1 cE posK B0) = some (.next, (SB w os).abs, cE, ds.posN) :=
  byRow2 "special-get-raises" (P := fun w => segRun treeTable pR w 11 ann0 1 3227 (SA w os).abs (pieceOf (stmtAt 6) sh.env_1 cE posK B0) = some (.next, (SB w os).abs, cE, ds.posN)) (fun w => mid false w os) (fun w => mid true w os) w
noncomputable def KF (P : Params) : Frag := [(2, PySem.W.boot_o_2 P), (3, shZ.o_208 P), (15, shZ.o_7 P), (22, shZ.o_14 P), (23, shZ.o_15 P), (24, shZ.o_39 P), (25, shZ.o_17 P), (28, shZ.o_24 P), (35, shZ.o_31 P), (36, shZ.o_32 P), (37, shZ.o_33 P), (40, shZ.o_40 P), (47, shZ.o_47 P), (48, shZ.o_48 P), (49, shZ.o_49 P), (52, shZ.o_52 P), (53, shZ.o_53 P), (54, dictAt (parts P)), (55, tup "row" "put" 247), (56, tup "row" "take" 250), (57, tup "row" "look" 253), (58, tup "number" "set" 256), (59, tup "number" "add" 259), (60, tup "number" "look" 262), (61, shZ.o_66 P), (63, shZ.o_68 P), (64, shZ.o_69 P), (66, shZ.o_71 P), (67, shZ.o_72 P), (68, shZ.o_73 P), (70, shZ.o_75 P), (71, shZ.o_76 P), (73, shZ.o_78 P), (74, shZ.o_79 P), (75, shZ.o_80 P), (77, shZ.o_82 P), (78, shZ.o_83 P), (80, shZ.o_85 P), (81, shZ.o_86 P), (82, shZ.o_87 P), (84, shZ.o_89 P), (85, shZ.o_90 P), (87, shZ.o_92 P), (88, shZ.o_93 P), (89, shZ.o_94 P), (91, shZ.o_96 P), (92, shZ.o_97 P), (94, shZ.o_99 P), (95, shZ.o_100 P), (96, shZ.o_101 P), (98, shZ.o_103 P), (99, shZ.o_104 P), (101, shZ.o_106 P), (102, shZ.o_107 P), (103, shZ.o_108 P), (105, shZ.o_110 P), (106, shZ.o_111 P), (108, shZ.o_113 P), (109, shZ.o_114 P), (110, shZ.o_115 P), (112, shZ.o_117 P), (113, shZ.o_118 P), (115, shZ.o_120 P), (116, shZ.o_121 P), (117, shZ.o_127 P), (119, shZ.o_129 P), (120, shZ.o_130 P), (122, shZ.o_132 P), (123, shZ.o_133 P), (124, shZ.o_134 P), (126, shZ.o_136 P), (127, shZ.o_137 P), (129, shZ.o_139 P), (130, shZ.o_140 P), (131, shZ.o_141 P), (133, shZ.o_143 P), (134, shZ.o_144 P), (136, shZ.o_146 P), (137, shZ.o_147 P), (138, shZ.o_148 P), (140, shZ.o_150 P), (141, shZ.o_151 P), (143, shZ.o_153 P), (144, shZ.o_154 P), (145, shZ.o_155 P), (147, shZ.o_157 P), (148, shZ.o_158 P), (150, shZ.o_160 P), (151, shZ.o_161 P), (152, shZ.o_162 P), (154, shZ.o_164 P), (155, shZ.o_165 P), (157, shZ.o_167 P), (158, shZ.o_168 P), (159, shZ.o_169 P), (162, shZ.o_172 P), (163, shZ.o_173 P), (164, shZ.o_174 P), (167, shZ.o_177 P), (168, shZ.o_178 P), (169, shZ.o_179 P), (171, shZ.o_181 P), (172, shZ.o_182 P), (174, shZ.o_184 P), (175, shZ.o_185 P), (176, shZ.o_186 P), (178, shZ.o_188 P), (179, shZ.o_189 P), (181, shZ.o_191 P), (182, shZ.o_192 P), (183, shZ.o_193 P), (185, shZ.o_195 P), (186, shZ.o_196 P), (188, shZ.o_198 P), (189, shZ.o_199 P), (190, shZ.o_200 P), (192, shZ.o_202 P), (193, shZ.o_203 P), (195, shZ.o_205 P), (196, shZ.o_206 P), (197, shZ.o_210 P), (199, shZ.o_212 P), (200, shZ.o_213 P), (202, shZ.o_215 P), (203, shZ.o_216 P), (204, shZ.o_217 P), (206, shZ.o_219 P), (207, shZ.o_220 P), (209, shZ.o_222 P), (210, shZ.o_223 P), (211, shZ.o_224 P), (213, shZ.o_226 P), (214, shZ.o_227 P), (216, shZ.o_229 P), (217, shZ.o_230 P), (218, shZ.o_231 P), (220, shZ.o_233 P), (221, shZ.o_234 P), (223, shZ.o_236 P), (224, shZ.o_237 P), (225, shZ.o_238 P), (228, shZ.o_241 P), (229, shZ.o_242 P), (230, shZ.o_243 P), (232, shZ.o_245 P), (233, shZ.o_246 P), (235, shZ.o_248 P), (236, shZ.o_249 P), (237, shZ.o_250 P), (239, shZ.o_252 P), (240, shZ.o_253 P), (242, shZ.o_255 P), (243, shZ.o_256 P)]
def as0 : List Addr := [2, 3, 15, 22, 23, 24, 25, 28, 35, 36, 37, 40, 47, 48, 49, 52, 53, 54, 55, 56, 57, 58, 59, 60, 61, 63, 64, 66, 67, 68, 70, 71, 73, 74, 75, 77, 78, 80, 81, 82, 84, 85, 87, 88, 89, 91, 92, 94, 95, 96, 98, 99, 101, 102, 103, 105, 106, 108, 109, 110, 112, 113, 115, 116, 117, 119, 120, 122, 123, 124, 126, 127, 129, 130, 131, 133, 134, 136, 137, 138, 140, 141, 143, 144, 145, 147, 148, 150, 151, 152, 154, 155, 157, 158, 159, 162, 163, 164, 167, 168, 169, 171, 172, 174, 175, 176, 178, 179, 181, 182, 183, 185, 186, 188, 189, 190, 192, 193, 195, 196, 197, 199, 200, 202, 203, 204, 206, 207, 209, 210, 211, 213, 214, 216, 217, 218, 220, 221, 223, 224, 225, 228, 229, 230, 232, 233, 235, 236, 237, 239, 240, 242, 243]
noncomputable def q0 : Program := { PySem.Challenge.rw_callorder_k03_orders_judged.prog with main := { PySem.Challenge.rw_callorder_k03_orders_judged.prog.main with body := [stmtAt 1, stmtAt 2, stmtAt 3, stmtAt 5, stmtAt 6, stmtAt 7, stmtAt 8, stmtAt 9, stmtAt 10, stmtAt 11, stmtAt 12, stmtAt 13, stmtAt 14, stmtAt 15, stmtAt 16, stmtAt 18, stmtAt 19, stmtAt 21, stmtAt 22, stmtAt 23, stmtAt 24, stmtAt 25, stmtAt 27, stmtAt 28, stmtAt 29, stmtAt 30, stmtAt 31, stmtAt 32, stmtAt 33, stmtAt 34, stmtAt 35, stmtAt 36] } }
abbrev loose0 : List PySem.Str := [PySem.Str.ofString "STARTS", PySem.Str.ofString "PARTS"]
noncomputable def restS : List Stmt := (behindTheImports pR).drop 7
theorem body_eq : behindTheImports pR = sh.sts_4 ++ (sh.sts_21 ++ (sh.sts_37 ++ (stmtAt 6 :: restS))) := by kernel_rfl
theorem opens : ∀ w : World, (fencedOpening treeTable pR w 20000).map (fun s => (s.heap, s.gens, s.drawn, s.toks)) = some (boot_heap w.params, Array.mk [], boot_drawn, boot_toks) := boot_open (p := pR) (N := 20000) (by kernel_rfl) (by decide) (fun s => by kernel_rfl)
theorem pre0 (w : World) (os : OsState) : topGo treeTable pR w 11 ann0 12 ⟨boot_heap w.params, Array.mk [], boot_drawn, boot_toks, os⟩ (topStub pR) =
    some (({ tree := sh.tree_4 w.params, n := 15, life := { }, gens := { toList := [] }, drawn := { }, toks := 187, os := os } : SharedT).abs, ⟨denote treeTable cE, cE, posB, B0⟩) := by kernel_rfl
theorem block0 (w : World) (os : OsState) : segRun treeTable pR w 11 ann0 1 1 ({ tree := sh.tree_4 w.params, n := 15, life := { }, gens := { toList := [] }, drawn := { }, toks := 187, os := os } : SharedT).abs (blockOf (behindTheImports pR) sh.env_1 cE posB B0) =
    some (.next, ({ tree := sh.tree_4 w.params, n := 15, life := { }, gens := { toList := [] }, drawn := { }, toks := 187, os := os } : SharedT).abs, cE, posB) := by kernel_rfl
theorem run0 (w : World) (os : OsState) (N' : Nat) (r : Shared) (h : topRun treeTable pR w 11 ann0 N' (SB w os).abs (restOf restS sh.env_1 cE ds.posN B0) = some r) :
    topRun treeTable pR w 11 ann0 (12 + (1 + (196 + (214 + (264 + 3227)))) + N') ⟨boot_heap w.params, Array.mk [], boot_drawn, boot_toks, os⟩ (topStub pR) = some r := by
  have h1 := piece_cons (mid_all w os) h
  have h2 := sh.chain pR (behindTheImports pR) w os (stmtAt 6 :: restS) (3227 + N') r h1
  have h3 := piece_block (n := 1) (block0 w os) (b := behindTheImports pR) (r := r) (N := (Nat.add 196 (Nat.add 214 (Nat.add 264 (3227 + N'))))) (by rw [← body_eq] at h2; exact h2)
  have h4 := go_top (pre0 w os) h3
  rw [show 12 + (1 + (196 + (214 + (264 + 3227)))) + N' = 12 + (1 + (Nat.add 196 (Nat.add 214 (Nat.add 264 (3227 + N'))))) from by show _ = 12 + (1 + (196 + (214 + (264 + (3227 + N'))))); omega]
  exact h4
theorem fin0 (w : World) (s : Shared) : topRun treeTable pR w 11 ann0 2 s ⟨doneF .next, cE, posZ, B0⟩ = some s := by
  obtain ⟨h, g, d, k, o⟩ := s; kernel_rfl
noncomputable abbrev hk : Hook := kHook KF as0 (fun _ => by kernel_rfl)
noncomputable abbrev Xt0 : Shared → Bool := fun s => xlAt q0 [] s && recOk (RowW.records (OpenRow.toRowW PySem.Challenge.rw_callorder_k03_orders_judged.row)) s
theorem suf0 (w : World) (os : OsState) : (segRunT treeTable pR w 11 ann0 1 936 (SB w os) (piecesOf restS sh.env_1 cE ds.posN [topFrame pos0])).map (fun x => (x.1, x.2.2,
        (staticsOk (importedModules pR.main.body) (boot_heap w.params) x.2.1.abs.heap && namesBound pR x.2.1.abs.heap && gensDone x.2.1.abs && laidKept (boot_heap w.params) x.2.1.abs.heap),
        openSeen q0 loose0 (importedModules pR.main.body) Xt0 true x.2.1.abs, hk.obs x.2.1.abs)) =
      some (.next, (cE, posZ), true, openGood q0 loose0, hk.val w) := by kernel_rfl
theorem left0 : LeftO pR q0 loose0 Xt0 (Hook.obs hk) (Hook.val hk) 20000 := left_mid opens (fun w => by kernel_rfl) run0 fin0 suf0 (by decide)
end HD

set_option Elab.async false
set_option linter.all false
set_option maxRecDepth 100000
set_option maxHeartbeats 4000000
namespace My
open PySem L2
open PySem.Spec (same_self)
-- sc__law_keeps_time sc__law_holds sc_law
def top (i : Nat) : Stmt := PySem.Challenge.pw_callorder_k03_orders_judged.main.body.getD i (.Pass ⟨0, 0, 0, 0⟩)
abbrev s_check_kind : Stmt := top 7
abbrev nm_check_kind : List Str := ["kind"]
theorem sc_check_kind : FnScope nm_check_kind ["kind"] (defScope s_check_kind) := ⟨rfl, rfl, rfl, by decide +kernel, rfl, by decide +kernel, by decide +kernel⟩
abbrev s_start : Stmt := top 8
abbrev nm_start : List Str := ["kind"]
theorem sc_start : FnScope nm_start ["kind"] (defScope s_start) := ⟨rfl, rfl, rfl, by decide +kernel, rfl, by decide +kernel, by decide +kernel⟩
abbrev s_is_whole_number : Stmt := top 9
abbrev nm_is_whole_number : List Str := ["value"]
theorem sc_is_whole_number : FnScope nm_is_whole_number ["value"] (defScope s_is_whole_number) := ⟨rfl, rfl, rfl, by decide +kernel, rfl, by decide +kernel, by decide +kernel⟩
abbrev s_has_parts : Stmt := top 10
abbrev nm_has_parts : List Str := ["deed", "parts"]
theorem sc_has_parts : FnScope nm_has_parts ["deed", "parts"] (defScope s_has_parts) := ⟨rfl, rfl, rfl, by decide +kernel, rfl, by decide +kernel, by decide +kernel⟩
abbrev s_can_do : Stmt := top 11
abbrev nm_can_do : List Str := ["kind", "deed", "key"]
theorem sc_can_do : FnScope nm_can_do ["kind", "deed"] (defScope s_can_do) := ⟨rfl, rfl, rfl, by decide +kernel, rfl, by decide +kernel, by decide +kernel⟩
abbrev s_check_deed : Stmt := top 12
abbrev nm_check_deed : List Str := ["kind", "deed", "word"]
theorem sc_check_deed : FnScope nm_check_deed ["kind", "deed"] (defScope s_check_deed) := ⟨rfl, rfl, rfl, by decide +kernel, rfl, by decide +kernel, by decide +kernel⟩
abbrev s_do_row : Stmt := top 13
abbrev nm_do_row : List Str := ["row", "deed", "first"]
theorem sc_do_row : FnScope nm_do_row ["row", "deed"] (defScope s_do_row) := ⟨rfl, rfl, rfl, by decide +kernel, rfl, by decide +kernel, by decide +kernel⟩
abbrev s_do_number : Stmt := top 14
abbrev nm_do_number : List Str := ["number", "deed"]
theorem sc_do_number : FnScope nm_do_number ["number", "deed"] (defScope s_do_number) := ⟨rfl, rfl, rfl, by decide +kernel, rfl, by decide +kernel, by decide +kernel⟩
abbrev s_do_deed : Stmt := top 15
abbrev nm_do_deed : List Str := ["kind", "thing", "deed"]
theorem sc_do_deed : FnScope nm_do_deed ["kind", "thing", "deed"] (defScope s_do_deed) := ⟨rfl, rfl, rfl, by decide +kernel, rfl, by decide +kernel, by decide +kernel⟩
abbrev s_answers : Stmt := top 16
abbrev nm_answers : List Str := ["kind", "deeds", "thing", "given", "deed", "done"]
theorem sc_answers : FnScope nm_answers ["kind", "deeds"] (defScope s_answers) := ⟨rfl, rfl, rfl, by decide +kernel, rfl, by decide +kernel, by decide +kernel⟩
abbrev s_check_times : Stmt := top 18
abbrev nm_check_times : List Str := ["call"]
theorem sc_check_times : FnScope nm_check_times ["call"] (defScope s_check_times) := ⟨rfl, rfl, rfl, by decide +kernel, rfl, by decide +kernel, by decide +kernel⟩
abbrev s_ahead : Stmt := top 19
abbrev nm_ahead : List Str := ["one", "other"]
theorem sc_ahead : FnScope nm_ahead ["one", "other"] (defScope s_ahead) := ⟨rfl, rfl, rfl, by decide +kernel, rfl, by decide +kernel, by decide +kernel⟩
abbrev s_check_calls : Stmt := top 21
abbrev nm_check_calls : List Str := ["kind", "calls", "call"]
theorem sc_check_calls : FnScope nm_check_calls ["kind", "calls"] (defScope s_check_calls) := ⟨rfl, rfl, rfl, by decide +kernel, rfl, by decide +kernel, by decide +kernel⟩
abbrev s_has_each_once : Stmt := top 22
abbrev nm_has_each_once : List Str := ["calls", "order"]
theorem sc_has_each_once : FnScope nm_has_each_once ["calls", "order"] (defScope s_has_each_once) := ⟨rfl, rfl, rfl, by decide +kernel, rfl, by decide +kernel, by decide +kernel⟩
abbrev s_keeps_time : Stmt := top 23
abbrev nm_keeps_time : List Str := ["calls", "order", "place", "number"]
theorem sc_keeps_time : FnScope nm_keeps_time ["calls", "order"] (defScope s_keeps_time) := ⟨rfl, rfl, rfl, by decide +kernel, rfl, by decide +kernel, by decide +kernel⟩
abbrev s_gives_the_answers : Stmt := top 24
abbrev nm_gives_the_answers : List Str := ["kind", "calls", "order"]
theorem sc_gives_the_answers : FnScope nm_gives_the_answers ["kind", "calls", "order"] (defScope s_gives_the_answers) := ⟨rfl, rfl, rfl, by decide +kernel, rfl, by decide +kernel, by decide +kernel⟩
abbrev s_is_order : Stmt := top 25
abbrev nm_is_order : List Str := ["kind", "calls", "order"]
theorem sc_is_order : FnScope nm_is_order ["kind", "calls", "order"] (defScope s_is_order) := ⟨rfl, rfl, rfl, by decide +kernel, rfl, by decide +kernel, by decide +kernel⟩
abbrev s__law_at : Stmt := top 27
abbrev nm__law_at : List Str := ["_law_script", "_law_k"]
theorem sc__law_at : FnScope nm__law_at ["_law_script", "_law_k"] (defScope s__law_at) := ⟨rfl, rfl, rfl, by decide +kernel, rfl, by decide +kernel, by decide +kernel⟩
abbrev s__law_done : Stmt := top 28
abbrev nm__law_done : List Str := ["_law_kind", "_law_state", "_law_deed", "_law_first"]
theorem sc__law_done : FnScope nm__law_done ["_law_kind", "_law_state", "_law_deed"] (defScope s__law_done) := ⟨rfl, rfl, rfl, by decide +kernel, rfl, by decide +kernel, by decide +kernel⟩
abbrev s__law_deed_of : Stmt := top 29
abbrev nm__law_deed_of : List Str := ["_law_cell", "_law_kind", "_law_thing", "_law_wide", "_law_value", "_law_here", "_law_word"]
theorem sc__law_deed_of : FnScope nm__law_deed_of ["_law_cell", "_law_kind", "_law_thing"] (defScope s__law_deed_of) := ⟨rfl, rfl, rfl, by decide +kernel, rfl, by decide +kernel, by decide +kernel⟩
abbrev s__law_kept : Stmt := top 30
abbrev nm__law_kept : List Str := ["_law_cells", "_law_kind", "_law_thing", "_law_wide", "_law_calls", "_law_state", "_law_k", "_law_cell", "_law_begin", "_law_end", "_law_deed", "_law_answer", "_law_made", "_law_spot"]
theorem sc__law_kept : FnScope nm__law_kept ["_law_cells", "_law_kind", "_law_thing", "_law_wide"] (defScope s__law_kept) := ⟨rfl, rfl, rfl, by decide +kernel, rfl, by decide +kernel, by decide +kernel⟩
abbrev s__law_spoilt : Stmt := top 31
abbrev nm__law_spoilt : List Str := ["_law_calls", "_law_cell", "_law_made", "_law_spot", "_law_begin", "_law_end", "_law_deed", "_law_answer", "_law_way", "_law_some"]
theorem sc__law_spoilt : FnScope nm__law_spoilt ["_law_calls", "_law_cell"] (defScope s__law_spoilt) := ⟨rfl, rfl, rfl, by decide +kernel, rfl, by decide +kernel, by decide +kernel⟩
abbrev s__law_keeps_time : Stmt := top 32
abbrev nm__law_keeps_time : List Str := ["_law_calls", "_law_order", "_law_gone", "_law_k", "_law_j"]
theorem sc__law_keeps_time : FnScope nm__law_keeps_time ["_law_calls", "_law_order"] (defScope s__law_keeps_time) := ⟨rfl, rfl, rfl, by decide +kernel, rfl, by decide +kernel, by decide +kernel⟩
abbrev s__law_holds : Stmt := top 33
abbrev nm__law_holds : List Str := ["_law_kind", "_law_calls", "_law_order", "_law_state", "_law_k", "_law_answer"]
theorem sc__law_holds : FnScope nm__law_holds ["_law_kind", "_law_calls", "_law_order"] (defScope s__law_holds) := ⟨rfl, rfl, rfl, by decide +kernel, rfl, by decide +kernel, by decide +kernel⟩
abbrev s__law_by_points : Stmt := top 34
abbrev nm__law_by_points : List Str := ["_law_calls", "_law_rows"]
theorem sc__law_by_points : FnScope nm__law_by_points ["_law_calls"] (defScope s__law_by_points) := ⟨rfl, rfl, rfl, by decide +kernel, rfl, by decide +kernel, by decide +kernel⟩
abbrev s__law_harmed : Stmt := top 35
abbrev nm__law_harmed : List Str := ["_law_order", "_law_cell", "_law_made", "_law_way", "_law_spot", "_law_large", "_law_odd", "_law_number"]
theorem sc__law_harmed : FnScope nm__law_harmed ["_law_order", "_law_cell"] (defScope s__law_harmed) := ⟨rfl, rfl, rfl, by decide +kernel, rfl, by decide +kernel, by decide +kernel⟩
abbrev s_law : Stmt := top 36
abbrev nm_law : List Str := ["_law_script", "_law_kind", "_law_wide", "_law_calls", "_law_order", "_law_handed", "_law_found"]
theorem sc_law : FnScope nm_law ["_law_script"] (defScope s_law) := ⟨rfl, rfl, rfl, by decide +kernel, rfl, by decide +kernel, by decide +kernel⟩
structure Bl (mg : Str → Option Value) : Prop where
  any_ : mg "any" = none
  bool_ : mg "bool" = none
  enumerate_ : mg "enumerate" = none
  int_ : mg "int" = none
  isinstance_ : mg "isinstance" = none
  len_ : mg "len" = none
  list_ : mg "list" = none
  range_ : mg "range" = none
  reversed_ : mg "reversed" = none
  sorted_ : mg "sorted" = none
  str_ : mg "str" = none

/-! ### tuple + tuple, the left one empty or not, the right one not -/
def rCatT' (K : PySem.W.Frag) : R2 := fun x y H Q => ∃ a b xs ys, x = .ref a ∧ y = .ref b ∧ SqT K H a xs ∧ SqT K H b ys ∧ ys ≠ [] ∧ xs.length + ys.length ≤ sizeLine ∧ (xs = [] → Q (.ref b) H) ∧ (xs ≠ [] → ∀ p, H p = none → Q (.ref p) (upd H p (.tup (xs ++ ys))))
theorem op_catT' {X : Cx} : OpR X (binaryOp .Add) (rCatT' X.K) := by
  intro pins s σ H x y v u Q I rx ry h
  obtain ⟨a, b, xs, ys, rfl, rfl, ha, hb, hy, hz, q1, q2⟩ := h
  by_cases hx : xs = []
  · cases rx
    cases ry
    obtain ⟨its, r1, p1, _⟩ := I.tuple ha
    obtain ⟨its2, r2, p2, _⟩ := I.tuple hb
    subst hx
    cases r1
    obtain ⟨⟨cls, dd, data, sl⟩, ho, hc, n, hd⟩ := p1
    obtain ⟨⟨cls2, dd2, data2, sl2⟩, ho2, hc2, n2, hd2⟩ := p2
    simp only at hc hd hc2 hd2
    subst hc hd hc2 hd2
    exact concat_meets ⟨_, ho, rfl⟩ ⟨_, ho2, rfl⟩ noFill_tuple_add seq_tuple_add PySem.F.slot_tuple_add PySem.F.entry_tuple_add (PySem.F.args_tuple_add_2 _ _)
      (PyProof.Rows.tuple_addW0 a b _ _ n n2 dd dd2 sl sl2 rfl) ⟨ho, ho2, ⟨.ref b, H, I, rfl, q1 rfl⟩⟩
  · exact op_catT pins s σ H _ _ v u Q I rx ry ⟨a, b, xs, ys, rfl, rfl, ha, hb, hx, hz, fun e => (hy e).elim, fun _ => q2 hx⟩

/-! ### what the top holds -/
def partsV : List (List Key × V) := [([.inr "row", .inr "put"], .int 3), ([.inr "row", .inr "take"], .int 2), ([.inr "row", .inr "look"], .int 2), ([.inr "number", .inr "set"], .int 3), ([.inr "number", .inr "add"], .int 3), ([.inr "number", .inr "look"], .int 2)]
structure Tp (P : Program) (w : World) (K : PySem.W.Frag) (mg : Str → Option Value) (st pt r b n : Addr) : Prop where
  mST : mg "STARTS" = some (.ref st)
  mPT : mg "PARTS" = some (.ref pt)
  tST : TopK P w K st [(.inr "row", .ref r), (.inr "number", .int 0)]
  tPT : TopT P w K pt partsV
  em : ∀ H, SqT K H r []
  kN : ExcK K mg "NoKind" n
  kB : ExcK K mg "BadCall" b
  e1 : PySem.W.exmOne K (.ref b) (.ref b) = some true
  e2 : PySem.W.exmOne K (.ref n) (.ref b) = some false
  e3 : PySem.W.exmOne K (.ref n) (.ref n) = some true
/-- a short text -/
def Sh (x : Str) : Prop := x.length ≤ 100 ∧ (reprText x).length ≤ 1000
/-- what stands behind the word in a deed -/
def Tail (xs : List V) : Prop := xs.length ≤ 3 ∧ (∀ y, xs[0]? = some y → ∃ t, y = .str t) ∧ ∀ y, xs[1]? = some y → ∃ i, y = .int i
def pOf (k wd : Str) : Option V := valV partsV [.inr k, .inr wd]
theorem pOf_some {k wd : Str} {v : V} (h : pOf k wd = some v) : v = .int 2 ∨ v = .int 3 := by
  unfold pOf at h
  have : ∀ p ∈ partsV, p.2 = .int 2 ∨ p.2 = .int 3 := by decide
  unfold valV at h
  obtain ⟨p, hp, rfl⟩ := Option.map_eq_some_iff.mp h
  exact this p (List.mem_of_find?_eq_some hp)

theorem kit_ss {K : PySem.W.Frag} : PySem.W.kitOne K (.type "str") (.type "str") = some true := by rfl

/-! ### the promises -/
def spWhole : Sp := fun vs H Q _ => ∃ i, vs = [.int i] ∧ Q (.bl true) H
def spCk (n : Addr) : Sp := fun vs H Q E => ∃ k : Str, vs = [.str k] ∧ Sh k ∧ if k = "row" ∨ k = "number" then Q .non H else E (.ref n) none H
def spStart (r : Addr) : Sp := fun vs H Q _ => (vs = [.str "row"] ∧ Q (.ref r) H) ∨ (vs = [.str "number"] ∧ Q (.int 0) H)
def spHp (K : PySem.W.Frag) : Sp := fun vs H Q _ => ∃ a x xs p, vs = [.ref a, .int p] ∧ SqT K H a (x :: xs) ∧ Tail xs ∧ (p = 2 ∨ p = 3) ∧ Q (.bl (decide ((xs.length : Int) + 1 = p))) H
/-- the kind has the deed -/
def canB (k wd : Str) (n : Nat) : Bool := match pOf k wd with
  | some (.int p) => decide ((n : Int) + 1 = p)
  | _ => false
def spCan (K : PySem.W.Frag) : Sp := fun vs H Q _ => ∃ k wd a xs, vs = [.str k, .ref a] ∧ SqT K H a (.str wd :: xs) ∧ Tail xs ∧ ∀ H', Same H H' → Q (.bl (canB k wd xs.length)) H'
def spCd (K : PySem.W.Frag) (b n : Addr) : Sp := fun vs H Q E => ∃ k wd a xs, vs = [.str k, .ref a] ∧ SqT K H a (.str wd :: xs) ∧ Tail xs ∧ Sh k ∧ Sh wd ∧ ∀ H', Same H H' →
  if k = "row" ∨ k = "number" then (if canB k wd xs.length then Q .non H' else E (.ref b) none H')
  else E (.ref n) none H'
section
variable {P : Program} {w : World} {K : PySem.W.Frag} {mg : Str → Option Value} {base : Heap} {f : Addr} {fd : FuncData} {st pt r b n : Addr}
theorem ok_is_whole_number (F : Fun K "is_whole_number" "is_whole_number" s_is_whole_number f fd) (B : Bl mg) : FnOk P w K mg base CX0 1 f fd ["value"] spWhole := by
  refine F.ok sc_is_whole_number (fun vs H Q E h => ?_) (fun cdv A outer s H vs Q E hr h => ?_)
  · obtain ⟨i, rfl, _⟩ := h; rfl
  · obtain ⟨i, rfl, k⟩ := h
    refine ⟨_, (pss_one (ps_ret (pe_and (pe_callB call_isi rfl B.isinstance_ PyProof.Rows.boot_isinstance (pa_cons (pv 0) (pa_cons (pe_bltn (v := .ty "int") rfl B.int_ PyProof.Rows.boot_int rfl) pa_nil))) (pe_one (pe_not (pe_callB call_isi rfl B.isinstance_ PyProof.Rows.boot_isinstance (pa_cons (pv 0) (pa_cons (pe_bltn (v := .ty "bool") rfl B.bool_ PyProof.Rows.boot_bool rfl) pa_nil)))))))), ?_⟩
    refine ⟨_, rfl, _, _, .type "int", true, rfl, TyOf.int i, kit_ii, true, rfl, ?_⟩
    exact ⟨_, rfl, _, _, .type "int", false, rfl, TyOf.int i, kit_ib, false, rfl, k⟩
theorem ok_check_kind (F : Fun K "check_kind" "check_kind" s_check_kind f fd) (B : Bl mg) (T : Tp P w K mg st pt r b n) : FnOk P w K mg base (CX1 P w) 1 f fd ["kind"] (spCk n) := by
  refine F.okX sc_check_kind (fun vs H Q E h => ?_) (fun cdv A outer s H vs Q E hr h => ?_)
  · obtain ⟨k, rfl, _⟩ := h; rfl
  · obtain ⟨kd, rfl, ⟨_, hl⟩, hq⟩ := h
    have hu := hu_of hr
    have k_NoKind := T.kN
    refine ⟨_, (pss_one (ps_if (pt_cmp (pc_knotin hu (pv 0) (pe_glob (v := .ref st) rfl T.mST rfl)))
    (pss_one (ps_raise k_NoKind wish_xe rfl rfl (pa_cons (pe_joined (.cons pe_str (.cons (pe_frepr (pv 0)) .nil))) pa_nil) rfl)) pss_nil)), ?_⟩
    refine ⟨_, rfl, st, _, rfl, .inl ⟨_, .inr kd, T.tST, rfl, rfl⟩, _, rfl, ?_⟩
    by_cases h1 : kd = "row"
    · subst h1; rw [if_pos (Or.inl rfl)] at hq; exact hq
    · by_cases h2 : kd = "number"
      · subst h2; rw [if_pos (Or.inr rfl)] at hq; exact hq
      · rw [if_neg (fun h => h.elim h1 h2)] at hq
        rw [valV_neg (fun h => h1 (Sum.inr.inj h).symm), valV_neg (fun h => h2 (Sum.inr.inj h).symm), valV_nil]
        have z0 : (Str.empty ++ Str.ofString "there is no kind ").length = 17 := by rfl
        have z1 : (Str.empty ++ Str.ofString "there is no kind " ++ reprText kd).length ≤ 1017 := by rw [strLen_append, z0]; omega
        exact iteT ⟨_, rfl, by rw [z0]; decide, _, rfl, kd, rfl, Nat.le_trans hl (by decide), _, rfl, Nat.le_trans z1 (by decide), Nat.le_trans z1 (by decide), Nat.le_of_ble_eq_true rfl, hq⟩
theorem ok_start (F : Fun K "start" "start" s_start f fd) (B : Bl mg) (T : Tp P w K mg st pt r b n) (g_check_kind : FnX P w K mg base "check_kind" 1 (spCk n)) : FnOk P w K mg base CX0 2 f fd ["kind"] (spStart r) := by
  refine F.ok sc_start (fun vs H Q E h => ?_) (fun cdv A outer s H vs Q E hr h => ?_)
  · rcases h with ⟨rfl, _⟩ | ⟨rfl, _⟩ <;> rfl
  · have hu := hu_of hr
    refine ⟨_, (pss_cons (ps_expr (pe_fnX g_check_kind passN hr rfl (pa_cons (pv 0) pa_nil)))
    (pss_one (ps_ret (pe_kget hu (pe_glob (v := .ref st) rfl T.mST rfl) (pv 0) (fun _ _ => rfl))))), ?_⟩
    rcases h with ⟨rfl, k⟩ | ⟨rfl, k⟩
    · exact ⟨_, rfl, _, rfl, ⟨by decide, by decide +kernel⟩, _, rfl, st, _, rfl, .inl ⟨_, .inr "row", T.tST, rfl, rfl⟩, k⟩
    · exact ⟨_, rfl, _, rfl, ⟨by decide, by decide +kernel⟩, _, rfl, st, _, rfl, .inl ⟨_, .inr "number", T.tST, rfl, rfl⟩, k⟩
theorem ok_has_parts (F : Fun K "has_parts" "has_parts" s_has_parts f fd) (B : Bl mg) (g_is_whole_number : FnX P w K mg base "is_whole_number" 1 spWhole) : FnOk P w K mg base CX0 2 f fd ["deed", "parts"] (spHp K) := by
  refine F.ok sc_has_parts (fun vs H Q E h => ?_) (fun cdv A outer s H vs Q E hr h => ?_)
  · obtain ⟨a, x, xs, p, rfl, _⟩ := h; rfl
  · obtain ⟨a, x, xs, p, rfl, hS, ⟨hl, h0, h1⟩, hp, k⟩ := h
    refine ⟨_, (pss_cons (ps_if (PW.pt (pw_or (pt_cmpR op_ne (pe_callB call_len_seq rfl B.len_ PySem.boot_len (pa_cons (pv 0) pa_nil)) (pv 1) (nomark _)) (pw_or1 (pt_not (pt_val (pe_callB call_isi rfl B.isinstance_ PyProof.Rows.boot_isinstance (pa_cons (pe_ix ix_tup (pv 0) pe_int (fun _ _ => rfl)) (pa_cons (pe_bltn (v := .ty "str") rfl B.str_ PyProof.Rows.boot_str rfl) pa_nil))))))))
    (pss_one (ps_ret pe_bl)) pss_nil)
    (pss_one (ps_ret (pe_or (pe_cmpR op_eq (pv 1) pe_int (nomark _)) (pe_one (pe_fnX g_is_whole_number passN hr rfl (pa_cons (pe_ix ix_tup (pv 0) pe_int (fun _ _ => rfl)) pa_nil))))))), ?_⟩
    refine ⟨_, rfl, a, x :: xs, rfl, .inr hS, _, rfl, rfl, _, rfl, ?_⟩
    have e : (decide (V.int ((x :: xs).length : Int) = V.int p)) = decide ((xs.length : Int) + 1 = p) := by
      rw [dec_int, List.length_cons]
      by_cases q : (xs.length : Int) + 1 = p
      · rw [decide_eq_true q]; simp; omega
      · rw [decide_eq_false q]; simp; omega
    rw [e]
    by_cases q : (xs.length : Int) + 1 = p
    · rw [decide_eq_true q] at k ⊢
      refine iteF ?_
      match xs, hl, h0, h1, q, hS with
      | [], _, _, _, q, _ => simp at q; omega
      | y :: ys, hl, h0, h1, q, hS =>
        obtain ⟨t, rfl⟩ := h0 y rfl
        refine ⟨_, rfl, a, _, 1, _, rfl, rfl, hS, at1, _, _, .type "str", true, rfl, TyOf.str t, kit_ss, true, rfl, ?_⟩
        refine iteF ?_
        rcases hp with rfl | rfl
        · exact ⟨_, rfl, rfl, true, rfl, iteT k⟩
        · match ys, h1, q, hS with
          | [], _, q, _ => simp at q
          | y :: zs, h1, q, hS =>
            obtain ⟨i, rfl⟩ := h1 y rfl
            exact ⟨_, rfl, rfl, false, rfl, iteF ⟨_, rfl, a, _, 2, _, rfl, rfl, hS, at2, i, rfl, k⟩⟩
    · rw [decide_eq_false q] at k ⊢
      exact iteT (iteT k)
theorem ok_can_do (F : Fun K "can_do" "can_do" s_can_do f fd) (B : Bl mg) (T : Tp P w K mg st pt r b n) (g_has_parts : FnX P w K mg base "has_parts" 2 (spHp K)) :
    FnOk P w K mg base CX0 3 f fd ["kind", "deed"] (spCan K) := by
  refine F.ok sc_can_do (fun vs H Q E h => ?_) (fun cdv A outer s H vs Q E hr h => ?_)
  · obtain ⟨k, wd, a, xs, rfl, _⟩ := h; rfl
  · obtain ⟨kd, wd, a, xs, rfl, hS, hT, hq⟩ := h
    have hu := hu_of hr
    refine ⟨_, (pss_cons (ps_set (i := 2) sc_can_do.nd rfl (by first | exact Or.inl rfl | exact Or.inr rfl) (pe_tup (pa_cons (pv 0) (pa_cons (pe_ix ix_tup (pv 1) pe_int (fun _ _ => rfl)) pa_nil))))
    (pss_one (ps_ret (pe_and (pe_cmp (pc_kin hu (pv 2) (pe_glob (v := .ref pt) rfl T.mPT rfl))) (pe_one (pe_fnX g_has_parts passN hr rfl (pa_cons (pv 1) (pa_cons (pe_kget hu (pe_glob (v := .ref pt) rfl T.mPT rfl) (pv 2) (fun _ _ => rfl)) pa_nil)))))))), ?_⟩
    refine ⟨_, rfl, _, rfl, a, _, 0, _, rfl, rfl, hS, at0, Nat.le_of_ble_eq_true rfl, fun p hp => ?_⟩
    have s1 : Same H (upd H p (.tup [.str kd, .str wd])) := Same.upd hp
    have z := hq _ s1
    refine ⟨_, rfl, pt, _, rfl, .inr ⟨partsV, [.inr kd, .inr wd], p, T.tPT, rfl, upd_same, rfl⟩, _, rfl, ?_⟩
    unfold canB at z
    show if (pOf kd wd).isSome = true then _ else _
    cases e : pOf kd wd with
    | none =>
      rw [e] at z
      exact iteF z
    | some v =>
      rw [e] at z
      obtain ⟨q, rfl, hq2⟩ : ∃ q : Int, v = .int q ∧ (q = 2 ∨ q = 3) := by rcases pOf_some e with rfl | rfl; exact ⟨2, rfl, .inl rfl⟩; exact ⟨3, rfl, .inr rfl⟩
      exact iteT ⟨_, rfl, _, rfl, pt, .int q, rfl, .inr ⟨partsV, [.inr kd, .inr wd], p, T.tPT, rfl, upd_same, e.symm⟩, a, .str wd, xs, q, rfl, Same.tup s1 hS, hT, hq2, z⟩
theorem ok_check_deed (F : Fun K "check_deed" "check_deed" s_check_deed f fd) (B : Bl mg) (T : Tp P w K mg st pt r b n) (g_can_do : FnX P w K mg base "can_do" 3 (spCan K)) (g_check_kind : FnX P w K mg base "check_kind" 1 (spCk n)) :
    FnOk P w K mg base (CX1 P w) 4 f fd ["kind", "deed"] (spCd K b n) := by
  refine F.okX sc_check_deed (fun vs H Q E h => ?_) (fun cdv A outer s H vs Q E hr h => ?_)
  · obtain ⟨k, wd, a, xs, rfl, _⟩ := h; rfl
  · obtain ⟨kd, wd, a, xs, rfl, hS, hT, hk, hw, hq⟩ := h
    have k_BadCall := T.kB
    refine ⟨_, (pss_cons (ps_expr (pe_fnX g_check_kind (passR own_cx) hr rfl (pa_cons (pv 0) pa_nil)))
    (pss_one (ps_if (pt_not (pt_val (pe_fnX g_can_do (passR own_cx) hr rfl (pa_cons (pv 0) (pa_cons (pv 1) pa_nil)))))
    (pss_cons (ps_set (i := 2) sc_check_deed.nd rfl (by first | exact Or.inl rfl | exact Or.inr rfl) (pe_ix ix_tup (pv 1) pe_int (fun _ _ => rfl)))
    (pss_one (ps_raise k_BadCall wish_xe rfl rfl (pa_cons (pe_joined (.cons pe_str (.cons (pe_fplain (pv 0)) (.cons pe_str (.cons (pe_frepr (pv 2)) (.cons pe_str .nil)))))) pa_nil) rfl))) pss_nil))), ?_⟩
    refine ⟨_, rfl, kd, rfl, hk, ?_⟩
    by_cases h1 : kd = "row" ∨ kd = "number"
    · rw [if_pos h1]
      refine ⟨_, rfl, _, rfl, kd, wd, a, xs, rfl, hS, hT, fun H' s1 => ⟨_, rfl, ?_⟩⟩
      have z := hq _ s1
      rw [if_pos h1] at z
      cases e : canB kd wd xs.length with
      | true =>
        rw [e] at z
        exact iteF z
      | false =>
        rw [e] at z
        have z1 : (Str.empty ++ Str.ofString "a ").length = 2 := rfl
        have z2 : (Str.empty ++ Str.ofString "a " ++ kd).length ≤ 102 := by rw [strLen_append, z1]; have := hk.1; omega
        have z3 : (Str.empty ++ Str.ofString "a " ++ kd ++ Str.ofString " has no deed ").length ≤ 115 := by rw [strLen_append, show (Str.ofString " has no deed ").length = 13 from rfl]; omega
        have z4 : (Str.empty ++ Str.ofString "a " ++ kd ++ Str.ofString " has no deed " ++ reprText wd).length ≤ 1115 := by rw [strLen_append]; have := hw.2; omega
        have z5 : (Str.empty ++ Str.ofString "a " ++ kd ++ Str.ofString " has no deed " ++ reprText wd ++ Str.ofString " with these parts").length ≤ 1132 := by rw [strLen_append, show (Str.ofString " with these parts").length = 17 from rfl]; omega
        refine iteT ⟨_, rfl, a, _, 0, _, rfl, rfl, Same.tup s1 hS, at0, ?_⟩
        exact ⟨_, rfl, by rw [z1]; decide, _, rfl, kd, rfl, Nat.le_trans hk.1 (by decide), _, rfl, Nat.le_trans z2 (by decide), _, rfl, Nat.le_trans z3 (by decide), _, rfl, wd, rfl, Nat.le_trans hw.2 (by decide), _, rfl, Nat.le_trans z4 (by decide), _, rfl, Nat.le_trans z5 (by decide), Nat.le_trans z5 (by decide), Nat.le_of_ble_eq_true rfl, z⟩
    · have z := hq H (Same.refl H)
      rw [if_neg h1] at z ⊢
      exact z
/-! ### the deeds themselves -/
/-- a good deed: its word, and its value where it has one -/
def DeedT (K : PySem.W.Frag) (H : Hp) (a : Addr) (wd : Str) (v : Option Int) : Prop := SqT K H a (.str wd :: .str "a" :: (v.map V.int).toList)
/-- by a number: what it is behind the deed, and the answer -/
def doNum (n : Int) (wd : Str) (v : Option Int) : Int × Option Int :=
  if wd = "set" then (v.getD 0, none) else if wd = "add" then (n + v.getD 0, some (n + v.getD 0)) else (n, some n)
def aV : Option Int → V
  | some i => .int i
  | none => .non
def spNum (K : PySem.W.Frag) : Sp := fun vs H Q _ => ∃ x a wd v, vs = [.int x, .ref a] ∧ DeedT K H a wd v ∧ ((wd = "set" ∨ wd = "add") → v.isSome = true) ∧ ∀ p, H p = none → Q (.ref p) (upd H p (.tup [.int (doNum x wd v).1, aV (doNum x wd v).2]))
theorem ok_do_number (F : Fun K "do_number" "do_number" s_do_number f fd) (B : Bl mg) : FnOk P w K mg base CX0 1 f fd ["number", "deed"] (spNum K) := by
  refine F.ok sc_do_number (fun vs H Q E h => ?_) (fun cdv A outer s H vs Q E hr h => ?_)
  · obtain ⟨x, a, wd, v, rfl, _⟩ := h; rfl
  · obtain ⟨x, a, wd, v, rfl, hS, hv, k⟩ := h
    refine ⟨_, (pss_cons (ps_if (pt_cmpR op_eq (pe_ix ix_tup (pv 1) pe_int (fun _ _ => rfl)) pe_str (nomark _))
    (pss_one (ps_ret (pe_tup (pa_cons (pe_ix ix_tup (pv 1) pe_int (fun _ _ => rfl)) (pa_cons pe_non pa_nil))))) pss_nil)
    (pss_cons (ps_if (pt_cmpR op_eq (pe_ix ix_tup (pv 1) pe_int (fun _ _ => rfl)) pe_str (nomark _))
    (pss_one (ps_ret (pe_tup (pa_cons (pe_op op_add (pv 0) (pe_ix ix_tup (pv 1) pe_int (fun _ _ => rfl))) (pa_cons (pe_op op_add (pv 0) (pe_ix ix_tup (pv 1) pe_int (fun _ _ => rfl))) pa_nil))))) pss_nil)
    (pss_one (ps_ret (pe_tup (pa_cons (pv 0) (pa_cons (pv 0) pa_nil))))))), ?_⟩
    refine ⟨_, rfl, a, _, 0, _, rfl, rfl, hS, at0, rfl, _, rfl, ?_⟩
    by_cases h1 : wd = "set"
    · subst h1
      obtain ⟨i, rfl⟩ := Option.isSome_iff_exists.mp (hv (.inl rfl))
      exact iteT ⟨_, rfl, a, _, 2, _, rfl, rfl, hS, at2, Nat.le_of_ble_eq_true rfl, fun p hp => k p hp⟩
    · rw [show decide (V.str wd = V.str (Str.ofString "set")) = false from decide_eq_false fun q => h1 (V.str.inj q)]
      refine iteF ?_
      refine ⟨_, rfl, a, _, 0, _, rfl, rfl, hS, at0, rfl, _, rfl, ?_⟩
      by_cases h2 : wd = "add"
      · subst h2
        obtain ⟨i, rfl⟩ := Option.isSome_iff_exists.mp (hv (.inr rfl))
        exact iteT ⟨_, rfl, _, rfl, a, _, 2, _, rfl, rfl, hS, at2, _, _, rfl, rfl, _, rfl, _, rfl, a, _, 2, _, rfl, rfl, hS, at2, _, _, rfl, rfl, Nat.le_of_ble_eq_true rfl, fun p hp => k p hp⟩
      · rw [show decide (V.str wd = V.str (Str.ofString "add")) = false from decide_eq_false fun q => h2 (V.str.inj q)]
        refine iteF ⟨_, rfl, _, rfl, Nat.le_of_ble_eq_true rfl, fun p hp => ?_⟩
        have := k p hp
        unfold doNum at this
        rw [if_neg h1, if_neg h2] at this
        exact this
/-- by a row -/
def doRow (xs : List Int) (wd : Str) (v : Option Int) : List Int × Option Int :=
  if wd = "put" then (xs ++ [v.getD 0], none) else if wd = "take" then (xs.drop 1, xs.head?) else (xs, xs.head?)
/-- a row: a tuple of ints -/
def RowT (K : PySem.W.Frag) (H : Hp) (v : V) (xs : List Int) : Prop := ∃ a, v = .ref a ∧ SqT K H a (xs.map V.int)
def spRow (K : PySem.W.Frag) : Sp := fun vs H Q _ => ∃ x xs a wd v, vs = [x, .ref a] ∧ RowT K H x xs ∧ xs.length ≤ 1000 ∧ DeedT K H a wd v ∧ (wd = "put" → v.isSome = true) ∧
  ∀ H' p y, Same H H' → H' p = some (.tup [y, aV (doRow xs wd v).2]) → RowT K H' y (doRow xs wd v).1 → Q (.ref p) H'
theorem RowT.keep {K : PySem.W.Frag} {H H' : Hp} {v : V} {xs : List Int} (s : Same H H') (h : RowT K H v xs) : RowT K H' v xs := by
  obtain ⟨a, rfl, h⟩ := h
  exact ⟨a, rfl, Same.tup s h⟩
theorem at0_head {xs : List Int} {x : Int} (h : xs.head? = some x) : atI (xs.map V.int) 0 = some (V.int x) := by
  cases xs with
  | nil => cases h
  | cons y r => cases h; exact at0
theorem ok_do_row (F : Fun K "do_row" "do_row" s_do_row f fd) (B : Bl mg) : FnOk P w K mg base CX0 1 f fd ["row", "deed"] (spRow K) := by
  refine F.ok sc_do_row (fun vs H Q E h => ?_) (fun cdv A outer s H vs Q E hr h => ?_)
  · obtain ⟨x, xs, a, wd, v, rfl, _⟩ := h; rfl
  · obtain ⟨x, xs, a, wd, v, rfl, ⟨ra, rfl, hR⟩, hl, hS, hv, k⟩ := h
    have hsz : sizeLine = 16777216 := sizeLine_eq
    refine ⟨_, (pss_cons (ps_if (pt_cmpR op_eq (pe_ix ix_tup (pv 1) pe_int (fun _ _ => rfl)) pe_str (nomark _))
    (pss_one (ps_ret (pe_tup (pa_cons (pe_op op_catT' (pv 0) (pe_tup (pa_cons (pe_ix ix_tup (pv 1) pe_int (fun _ _ => rfl)) pa_nil))) (pa_cons pe_non pa_nil))))) pss_nil)
    (pss_cons (ps_set (i := 2) sc_do_row.nd rfl (by first | exact Or.inl rfl | exact Or.inr rfl) (pe_ifExp (pt_truth (pv 0) (fun _ => rfl)) (pe_ix ix_tup (pv 0) pe_int (fun _ _ => rfl)) pe_non))
    (pss_cons (ps_if (pt_cmpR op_eq (pe_ix ix_tup (pv 1) pe_int (fun _ _ => rfl)) pe_str (nomark _))
    (pss_one (ps_ret (pe_tup (pa_cons (pe_slice sl_tup' (pv 0) (po_some pe_int) po_none) (pa_cons (pv 2) pa_nil))))) pss_nil)
    (pss_one (ps_ret (pe_tup (pa_cons (pv 0) (pa_cons (pv 2) pa_nil)))))))), ?_⟩
    refine ⟨_, rfl, a, _, 0, _, rfl, rfl, hS, at0, rfl, _, rfl, ?_⟩
    by_cases h1 : wd = "put"
    · subst h1
      obtain ⟨i, rfl⟩ := Option.isSome_iff_exists.mp (hv rfl)
      refine iteT ⟨_, rfl, _, rfl, a, _, 2, _, rfl, rfl, hS, at2, Nat.le_of_ble_eq_true rfl, fun p hp => ?_⟩
      have s1 : Same H (upd H p (.tup [.int i])) := Same.upd hp
      refine ⟨ra, p, xs.map V.int, [.int i], rfl, rfl, Same.tup s1 hR, SqT.of upd_same, by simp, by simp; omega, fun e => ?_, fun e p2 hp2 => ?_⟩
      · refine ⟨Nat.le_of_ble_eq_true rfl, fun p3 hp3 => k _ p3 (.ref p) (s1.trans (Same.upd hp3)) upd_same ?_⟩
        have e' : xs = [] := by cases xs with | nil => rfl | cons => cases e
        subst e'
        exact ⟨p, rfl, Same.tup (Same.upd hp3) (SqT.of upd_same)⟩
      · refine ⟨Nat.le_of_ble_eq_true rfl, fun p3 hp3 => k _ p3 (.ref p2) ((s1.trans (Same.upd hp2)).trans (Same.upd hp3)) upd_same ?_⟩
        refine ⟨p2, rfl, Same.tup (Same.upd hp3) ?_⟩
        have : (doRow xs "put" (some i)).1.map V.int = xs.map V.int ++ [.int i] := by simp [doRow]
        rw [this]
        exact SqT.of upd_same
    · rw [show decide (V.str wd = V.str (Str.ofString "put")) = false from decide_eq_false fun q => h1 (V.str.inj q)]
      refine iteF ?_
      refine ⟨_, rfl, _, .inr (.inl ⟨_, hR, rfl⟩), ?_⟩
      have nt : ∀ z : Str, wd ≠ z → decide (V.str wd = V.str z) = false := fun z h => decide_eq_false fun q => h (V.str.inj q)
      match xs, hR, hl, k with
      | [], hR, hl, k =>
        refine iteF ?_
        refine ⟨_, rfl, a, _, 0, _, rfl, rfl, hS, at0, rfl, _, rfl, ?_⟩
        by_cases h2 : wd = "take"
        · subst h2
          refine iteT ⟨_, rfl, 1, rfl, ra, _, rfl, hR, .inl ⟨rfl, rfl, _, rfl, Nat.le_of_ble_eq_true rfl, fun p hp => ?_⟩⟩
          exact k _ p (.ref ra) (Same.upd hp) upd_same ⟨ra, rfl, Same.tup (Same.upd hp) hR⟩
        · rw [nt _ h2]
          refine iteF ⟨_, rfl, _, rfl, Nat.le_of_ble_eq_true rfl, fun p hp => ?_⟩
          have e : doRow [] wd v = ([], none) := by unfold doRow; rw [if_neg h1, if_neg h2]; rfl
          rw [e] at k
          exact k _ p (.ref ra) (Same.upd hp) upd_same ⟨ra, rfl, Same.tup (Same.upd hp) hR⟩
      | x0 :: xr, hR, hl, k =>
        refine iteT ⟨_, rfl, ra, _, 0, _, rfl, rfl, hR, at0, ?_⟩
        refine ⟨_, rfl, a, _, 0, _, rfl, rfl, hS, at0, rfl, _, rfl, ?_⟩
        by_cases h2 : wd = "take"
        · subst h2
          refine iteT ⟨_, rfl, 1, rfl, ra, _, rfl, hR, .inr ⟨fun q => ?_, fun p2 hp2 => ⟨_, rfl, Nat.le_of_ble_eq_true rfl, fun p hp => ?_⟩⟩⟩
          · have := q.1
            simp [HT.sIx] at this
          · have e : cutV ((x0 :: xr).map V.int) (some 1) none = xr.map V.int := by
              unfold cutV
              have e1 : HT.sIx ((x0 :: xr).map V.int).length 0 (some 1) = 1 := by
                show HT.sIx _ 0 (some ((1 : Nat) : Int)) = 1
                rw [HT.sIx_nat, List.length_map, List.length_cons]; omega
              rw [e1, HT.sIx_none]
              simp
              exact List.take_of_length_le (by simp)
            rw [e] at hp ⊢
            exact k _ p (.ref p2) ((Same.upd hp2).trans (Same.upd hp)) upd_same ⟨p2, rfl, Same.tup (Same.upd hp) (SqT.of upd_same)⟩
        · rw [nt _ h2]
          refine iteF ⟨_, rfl, _, rfl, Nat.le_of_ble_eq_true rfl, fun p hp => ?_⟩
          have e : doRow (x0 :: xr) wd v = (x0 :: xr, some x0) := by unfold doRow; rw [if_neg h1, if_neg h2]; rfl
          rw [e] at k
          exact k _ p (.ref ra) (Same.upd hp) upd_same ⟨ra, rfl, Same.tup (Same.upd hp) hR⟩
/-- a thing by its kind: a row's tuple, or an int -/
inductive Thing (K : PySem.W.Frag) (H : Hp) : Str → V → (List Int ⊕ Int) → Prop
  | row {v : V} {xs : List Int} : RowT K H v xs → Thing K H "row" v (.inl xs)
  | num {n : Int} : Thing K H "number" (.int n) (.inr n)
theorem Thing.keep {K : PySem.W.Frag} {H H' : Hp} {k : Str} {v : V} {t : List Int ⊕ Int} (s : Same H H') (h : Thing K H k v t) : Thing K H' k v t := by
  cases h with
  | row h => exact .row (h.keep s)
  | num => exact .num
def doT : (List Int ⊕ Int) → Str → Option Int → (List Int ⊕ Int) × Option Int
  | .inl xs, wd, v => (.inl (doRow xs wd v).1, (doRow xs wd v).2)
  | .inr n, wd, v => (.inr (doNum n wd v).1, (doNum n wd v).2)
def sizeT : (List Int ⊕ Int) → Nat
  | .inl xs => xs.length
  | .inr _ => 0
/-- the deed has its value where its word wants one -/
def Has (wd : Str) (v : Option Int) : Prop := (wd = "put" ∨ wd = "set" ∨ wd = "add") → v.isSome = true
def spDo (K : PySem.W.Frag) : Sp := fun vs H Q _ => ∃ k x t a wd v, vs = [.str k, x, .ref a] ∧ Thing K H k x t ∧ sizeT t ≤ 1000 ∧ DeedT K H a wd v ∧ Has wd v ∧
  ∀ H' p y, Same H H' → H' p = some (.tup [y, aV (doT t wd v).2]) → Thing K H' k y (doT t wd v).1 → Q (.ref p) H'
theorem ok_do_deed (F : Fun K "do_deed" "do_deed" s_do_deed f fd) (B : Bl mg) (g_do_number : FnX P w K mg base "do_number" 1 (spNum K)) (g_do_row : FnX P w K mg base "do_row" 1 (spRow K)) : FnOk P w K mg base CX0 2 f fd ["kind", "thing", "deed"] (spDo K) := by
  refine F.ok sc_do_deed (fun vs H Q E h => ?_) (fun cdv A outer s H vs Q E hr h => ?_)
  · obtain ⟨k, x, t, a, wd, v, rfl, _⟩ := h; rfl
  · obtain ⟨kd, x, t, a, wd, v, rfl, hT, hz, hS, hv, k⟩ := h
    refine ⟨_, (pss_cons (ps_if (pt_cmpR op_eq (pv 0) pe_str (nomark _))
    (pss_one (ps_ret (pe_fnX g_do_row passN hr rfl (pa_cons (pv 1) (pa_cons (pv 2) pa_nil))))) pss_nil)
    (pss_one (ps_ret (pe_fnX g_do_number passN hr rfl (pa_cons (pv 1) (pa_cons (pv 2) pa_nil)))))), ?_⟩
    cases hT with
    | @row x xs hR =>
      refine ⟨_, rfl, rfl, _, rfl, iteT ⟨_, rfl, _, rfl, x, xs, a, wd, v, rfl, hR, hz, hS, fun e => hv (.inl e), fun H' p y s1 hp hy => ?_⟩⟩
      exact k H' p y s1 hp (.row hy)
    | @num n =>
      refine ⟨_, rfl, rfl, _, rfl, iteF ⟨_, rfl, _, rfl, n, a, wd, v, rfl, hS, fun e => hv (.inr e), fun p hp => ?_⟩⟩
      exact k _ p _ (Same.upd hp) upd_same .num
/-! ### many deeds -/
abbrev Deed := Str × Option Int
def stT (t : List Int ⊕ Int) (ds : List Deed) : List Int ⊕ Int := ds.foldl (fun t d => (doT t d.1 d.2).1) t
def ansT : (List Int ⊕ Int) → List Deed → List (Option Int)
  | _, [] => []
  | t, d :: r => (doT t d.1 d.2).2 :: ansT (doT t d.1 d.2).1 r
theorem stT_snoc (t : List Int ⊕ Int) (ds : List Deed) (d : Deed) : stT t (ds ++ [d]) = (doT (stT t ds) d.1 d.2).1 := by unfold stT; rw [List.foldl_append]; rfl
theorem ansT_snoc : ∀ (ds : List Deed) (t : List Int ⊕ Int) (d : Deed), ansT t (ds ++ [d]) = ansT t ds ++ [(doT (stT t ds) d.1 d.2).2]
  | [], _, _ => rfl
  | e :: r, t, d => by
    show _ :: ansT _ (r ++ [d]) = _
    rw [ansT_snoc r]
    rfl
theorem size_do (t : List Int ⊕ Int) (d : Deed) : sizeT (doT t d.1 d.2).1 ≤ sizeT t + 1 := by
  cases t with
  | inr n => exact Nat.zero_le _
  | inl xs =>
    show (doRow xs d.1 d.2).1.length ≤ xs.length + 1
    unfold doRow
    split
    · simp
    · split <;> simp <;> omega
theorem size_st : ∀ (ds : List Deed) (t : List Int ⊕ Int), sizeT (stT t ds) ≤ sizeT t + ds.length
  | [], _ => Nat.le_refl _
  | d :: r, t => by
    have h1 := size_st r (doT t d.1 d.2).1
    have h2 := size_do t d
    show sizeT (stT (doT t d.1 d.2).1 r) ≤ _
    rw [List.length_cons]
    omega
/-- a deed that the kind has -/
def Good (k : Str) (d : Deed) : Prop := pOf k d.1 = some (.int (if d.2.isSome then 3 else 2))
structure Deeds (K : PySem.W.Frag) (H : Hp) (k : Str) (vs : List V) (ds : List Deed) : Prop where
  len : vs.length = ds.length
  at_ : ∀ (i : Nat) (v : V), vs[i]? = some v → ∃ a d, v = .ref a ∧ ds[i]? = some d ∧ DeedT K H a d.1 d.2 ∧ Good k d ∧ Sh d.1
theorem Deeds.keep {K : PySem.W.Frag} {H H' : Hp} {k : Str} {vs : List V} {ds : List Deed} (s : Same H H') (h : Deeds K H k vs ds) : Deeds K H' k vs ds :=
  ⟨h.len, fun i v e => let ⟨a, d, h1, h2, h3, h4, h5⟩ := h.at_ i v e; ⟨a, d, h1, h2, Same.tup s h3, h4, h5⟩⟩
def t0 (k : Str) : List Int ⊕ Int := if k = "row" then .inl [] else .inr 0
def spAns (K : PySem.W.Frag) : Sp := fun vs H Q _ => ∃ k l xs ds, vs = [.str k, .ref l] ∧ (k = "row" ∨ k = "number") ∧ SqL K H l xs ∧ Deeds K H k xs ds ∧ ds.length ≤ 200 ∧
  ∀ H' g, Same H H' → H' g = some (.lst ((ansT (t0 k) ds).map aV)) → Q (.ref g) H'
theorem good_has {k : Str} {d : Deed} (hk : k = "row" ∨ k = "number") (h : Good k d) : Has d.1 d.2 := by
  intro hw
  cases e : d.2 with
  | some _ => rfl
  | none =>
    exfalso
    unfold Good at h
    rw [e] at h
    rcases hk with rfl | rfl <;> rcases hw with hw | hw | hw <;> rw [hw] at h <;> revert h <;> decide
theorem good_can {k : Str} {d : Deed} (h : Good k d) : canB k d.1 (V.str (Str.ofString "a") :: (d.2.map V.int).toList).length = true := by
  unfold canB
  rw [show pOf k d.1 = some (.int (if d.2.isSome then 3 else 2)) from h]
  cases d.2 <;> rfl
theorem start_of {Q : VK} {E : XK} {H : Hp} {kd : Str} (T : Tp P w K mg st pt r b n) (hk : kd = "row" ∨ kd = "number") (h : ∀ x0, Thing K H kd x0 (t0 kd) → Q x0 H) : spStart r [.str kd] H Q E := by
  rcases hk with rfl | rfl
  · exact .inl ⟨rfl, h _ (.row ⟨r, rfl, T.em H⟩)⟩
  · exact .inr ⟨rfl, h _ .num⟩
theorem tail_deed (v : Option Int) : Tail (V.str "a" :: (v.map V.int).toList) := by
  cases v with
  | none => exact ⟨by decide, fun y e => ⟨_, (Option.some.inj e).symm⟩, fun y e => nomatch e⟩
  | some i => exact ⟨Nat.le_of_ble_eq_true rfl, fun y e => ⟨_, (Option.some.inj e).symm⟩, fun y e => ⟨_, (Option.some.inj e).symm⟩⟩
theorem ansT_len : ∀ (ds : List Deed) (t : List Int ⊕ Int), (ansT t ds).length = ds.length
  | [], _ => rfl
  | d :: r, t => by show (ansT _ r).length + 1 = _; rw [ansT_len r]; rfl
theorem SqT.updL {K : PySem.W.Frag} {H : Hp} {a g : Addr} {xs zs : List V} {o : HO} (hg : H g = some (.lst zs)) (h : SqT K H a xs) : SqT K (upd H g o) a xs := by
  rcases h with (h | ⟨ob, h⟩) | h
  · exact .inl (.inl (by rw [upd_ne (ne_of h hg (by intro q; cases q))]; exact h))
  · exact .inl (.inr ⟨ob, by rw [upd_ne (ne_of h hg (by intro q; cases q))]; exact h⟩)
  · exact .inr h
theorem Thing.updL {K : PySem.W.Frag} {H : Hp} {g : Addr} {zs : List V} {o : HO} {k : Str} {v : V} {t : List Int ⊕ Int} (hg : H g = some (.lst zs)) (h : Thing K H k v t) : Thing K (upd H g o) k v t := by
  cases h with
  | row h => obtain ⟨a, rfl, h⟩ := h; exact .row ⟨a, rfl, SqT.updL hg h⟩
  | num => exact .num
theorem take_snoc {α : Type} {l : List α} {i : Nat} {x : α} (h : l[i]? = some x) : l.take (i + 1) = l.take i ++ [x] := by
  rw [List.take_add_one, h]; rfl
theorem ok_answers (F : Fun K "answers" "answers" s_answers f fd) (B : Bl mg) (T : Tp P w K mg st pt r b n) (g_check_deed : FnX P w K mg base "check_deed" 4 (spCd K b n)) (g_do_deed : FnX P w K mg base "do_deed" 2 (spDo K)) (g_start : FnX P w K mg base "start" 2 (spStart r)) :
    FnOk P w K mg base CX0 5 f fd ["kind", "deeds"] (spAns K) := by
  refine F.ok sc_answers (fun vs H Q E h => ?_) (fun cdv A outer s H vs Q E hr h => ?_)
  · obtain ⟨k, l, xs, ds, rfl, _⟩ := h; rfl
  · obtain ⟨kd, l, xs, ds, rfl, hk, hS, hD, hl, k⟩ := h
    have hsz : sizeLine = 16777216 := sizeLine_eq
    have hkS : Sh kd := by rcases hk with rfl | rfl; exact ⟨by decide, by decide +kernel⟩; exact ⟨by decide, by decide +kernel⟩
    refine ⟨_, (pss_cons (ps_set (i := 2) sc_answers.nd rfl (by first | exact Or.inl rfl | exact Or.inr rfl) (pe_fnX g_start passN hr rfl (pa_cons (pv 0) pa_nil)))
    (pss_cons (ps_set (i := 3) sc_answers.nd rfl (by first | exact Or.inl rfl | exact Or.inr rfl) (pe_lst pa_nil))
    (pss_cons (ps_for PassesOwn.never rfl (pi_list (pv 1)) (pg_name (i := 4) sc_answers.nd rfl (by first | exact Or.inl rfl | exact Or.inr rfl))
    (pss_cons (ps_expr (pe_fnX g_check_deed passN hr rfl (pa_cons (pv 0) (pa_cons (pv 4) pa_nil))))
    (pss_cons (ps_set (i := 5) sc_answers.nd rfl (by first | exact Or.inl rfl | exact Or.inr rfl) (pe_fnX g_do_deed passN hr rfl (pa_cons (pv 0) (pa_cons (pv 2) (pa_cons (pv 4) pa_nil)))))
    (pss_cons (ps_set (i := 2) sc_answers.nd rfl (by first | exact Or.inl rfl | exact Or.inr rfl) (pe_ix ix_tup (pv 5) pe_int (fun _ _ => rfl)))
    (pss_one (ps_expr (pe_bm PySem.F.plainAttrs_list PySem.F.slot_list_append PySem.F.type_list_append mt_append (pv 3) (pa_cons (pe_ix ix_tup (pv 5) pe_int (fun _ _ => rfl)) pa_nil))))))))
    (pss_one (ps_ret (pv 3)))))), ?_⟩
    refine ⟨_, rfl, ?_⟩
    dsimp only [tNil, List.append_nil, List.cons_append, List.nil_append]
    refine start_of T hk fun x0 hx0 => ?_
    refine ⟨Nat.le_of_ble_eq_true rfl, fun g hg => ?_⟩
    have sg : Same H (upd H g (.lst [])) := Same.upd hg
    refine ⟨_, rfl, l, rfl, ⟨xs, sg.seq hS⟩, for_list (K := K) (a := l) (xs := xs) (fun i σ H2 => ∃ x v4 v5, σ = [some (.str kd), some (.ref l), some x, some (.ref g), v4, v5] ∧ Thing K H2 kd x (stT (t0 kd) (ds.take i)) ∧ Same H H2 ∧ H2 g = some (.lst ((ansT (t0 kd) (ds.take i)).map aV)))
      ⟨x0, none, none, rfl, hx0.keep sg, sg, upd_same⟩ (fun i σ H2 _ ⟨_, _, _, _, _, s1, _⟩ => s1.seq hS) ?_ ?_⟩
    · rintro i y σ H2 hi ⟨x, v4, v5, rfl, hTh, s1, hg2⟩
      obtain ⟨a, d, rfl, hd, hDe, hG, hSh⟩ := hD.at_ i y hi
      have hDe2 := Same.tup s1 hDe
      refine ⟨_, rfl, _, rfl, kd, d.1, a, _, rfl, hDe2, tail_deed d.2, hkS, hSh, fun H3 s3 => ?_⟩
      rw [if_pos hk, if_pos (good_can hG)]
      have hsz2 : sizeT (stT (t0 kd) (ds.take i)) ≤ 1000 := by
        have h1 := size_st (ds.take i) (t0 kd)
        have h2 : sizeT (t0 kd) = 0 := by rcases hk with rfl | rfl <;> rfl
        have h3 : (ds.take i).length ≤ ds.length := by rw [List.length_take]; exact Nat.min_le_right _ _
        omega
      refine ⟨_, rfl, _, rfl, _, rfl, kd, x, _, a, d.1, d.2, rfl, hTh.keep s3, hsz2, Same.tup s3 hDe2, good_has hk hG, fun H4 p y s4 hp hy => ?_⟩
      have hg4 := s4 _ _ (s3 _ _ hg2)
      refine ⟨_, rfl, p, _, 0, _, rfl, rfl, SqT.of hp, at0, ?_⟩
      refine ⟨_, rfl, .inl ⟨rfl, _, SqL.of hg4⟩, _, rfl, p, _, 1, _, rfl, rfl, SqT.of hp, at1, g, _, _, rfl, rfl, hg4, ?_, ?_⟩
      · have h3 : (ds.take i).length ≤ ds.length := by rw [List.length_take]; exact Nat.min_le_right _ _
        rw [List.length_map, ansT_len]
        omega
      · refine ⟨y, _, _, rfl, ?_, fun c o hc => ?_, ?_⟩
        · rw [take_snoc hd, stT_snoc]
          exact hy.updL hg4
        · rw [upd_ne (ne_of_none hc hg)]
          exact s4 _ _ (s3 _ _ (s1 _ _ hc))
        · rw [take_snoc hd, ansT_snoc, List.map_append, upd_same]
          rfl
    · rintro σ H2 ⟨x, v4, v5, rfl, hTh, s1, hg2⟩
      rw [hD.len, List.take_length] at hg2
      exact ⟨_, rfl, k H2 g s1 hg2⟩
--@split
/-! ### deeds as data -/
def dD (d : Deed) : PyData := .tuple (.str d.1 :: .str "a" :: (d.2.map PyData.int).toList)
def words : List Str := ["put", "take", "look", "set", "add"]
theorem good_word {k : Str} {d : Deed} (h : Good k d) : d.1 ∈ words := by
  obtain ⟨wd, v⟩ := d
  unfold Good pOf valV at h
  obtain ⟨p, hp, _⟩ := Option.map_eq_some_iff.mp h
  have e0 := List.find?_some hp
  have e : p.1 = [.inr k, .inr wd] := of_decide_eq_true e0
  have m := List.mem_of_find?_eq_some hp
  simp only [partsV, List.mem_cons, List.not_mem_nil, or_false] at m
  rcases m with rfl | rfl | rfl | rfl | rfl | rfl <;> (injection e with e1 e2; injection e2 with e3 e4; show wd ∈ words; rw [← Sum.inr.inj e3]; decide)
theorem is_deed {K : PySem.W.Frag} {H : Hp} {a : Addr} {d : Deed} (h : DeedT K H a d.1 d.2) : Is K H (dD d) (.ref a) := by
  obtain ⟨wd, v⟩ := d
  unfold dD
  cases v with
  | none =>
    simp only [Is, IsAll, Option.map_none, Option.toList_none]
    exact ⟨a, _, rfl, h, _, _, rfl, rfl, _, _, rfl, rfl, rfl⟩
  | some i =>
    simp only [Is, IsAll, Option.map_some, Option.toList_some]
    exact ⟨a, _, rfl, h, _, _, rfl, rfl, _, _, rfl, rfl, _, _, rfl, rfl, rfl⟩
theorem isAll_deeds {K : PySem.W.Frag} {H : Hp} {k : Str} : ∀ {vs : List V} {ds : List Deed}, Deeds K H k vs ds → IsAll K H (ds.map dD) vs
  | [], [], _ => by simp [IsAll]
  | [], _ :: _, h => by have := h.len; simp at this
  | _ :: _, [], h => by have := h.len; simp at this
  | v :: vs, d :: ds, h => by
    rw [List.map_cons]
    simp only [IsAll]
    refine ⟨v, vs, rfl, ?_, isAll_deeds (k := k) ⟨by have := h.len; simpa using this, fun i u hu => ?_⟩⟩
    · obtain ⟨a, d', rfl, h1, h2, _⟩ := h.at_ 0 v rfl
      have e' : d = d' := Option.some.inj h1
      rw [e']
      exact is_deed h2
    · obtain ⟨a, d', h0, h1, h2⟩ := h.at_ (i + 1) u (by simpa using hu)
      exact ⟨a, d', h0, by simpa using h1, h2⟩
theorem is_deeds {K : PySem.W.Frag} {H : Hp} {a : Addr} {k : Str} {vs : List V} {ds : List Deed} (hs : SqL K H a vs) (h : Deeds K H k vs ds) : Is K H (.list (ds.map dD)) (.ref a) := by
  simp only [Is]
  exact ⟨a, vs, rfl, hs, isAll_deeds h⟩
theorem lay_deed {d : Deed} (h : d.1 ∈ words) : PyData.canLay0 (dD d) = true := by
  obtain ⟨wd, v⟩ := d
  replace h : wd ∈ words := h
  simp only [words, List.mem_cons, List.not_mem_nil, or_false] at h
  unfold dD
  cases v with
  | none =>
    simp only [PyData.canLay0, PyData.canLayAll0, Bool.and_true, Bool.true_and, Option.map_none, Option.toList_none]
    rcases h with rfl | rfl | rfl | rfl | rfl <;> decide +kernel
  | some i =>
    simp only [PyData.canLay0, PyData.canLayAll0, Bool.and_true, Bool.true_and, Option.map_some, Option.toList_some]
    rcases h with rfl | rfl | rfl | rfl | rfl <;> decide +kernel
theorem lay_deeds : ∀ ds : List Deed, (∀ d ∈ ds, d.1 ∈ words) → PyData.canLayAll0 (ds.map dD) = true
  | [], _ => by simp [PyData.canLayAll0]
  | d :: r, h => by simp [PyData.canLayAll0, lay_deed (h d (by simp)), lay_deeds r fun d hd => h d (by simp [hd])]
theorem depth_deed (d : Deed) : PyData.depth (dD d) = 1 := by
  obtain ⟨wd, v⟩ := d
  cases v <;> simp [dD, PyData.depth, PyData.depthAll]
theorem depth_deeds : ∀ ds : List Deed, PyData.depthAll (ds.map dD) ≤ 1
  | [] => by simp [PyData.depthAll]
  | d :: r => by
    have := depth_deeds r
    simp only [List.map_cons, PyData.depthAll, depth_deed d]
    omega
theorem noBls_deeds : ∀ ds : List Deed, noBls (ds.map dD) = true
  | [] => by simp [noBls]
  | d :: r => by
    have h : noBl (dD d) = true := by
      obtain ⟨wd, v⟩ := d
      cases v <;> simp [dD, noBl, noBls]
    simp [noBls, h, noBls_deeds r]
theorem cmp_deeds (ds : List Deed) (hw : ∀ d ∈ ds, d.1 ∈ words) : Cmp (.list (ds.map dD)) := by
  refine ⟨?_, by simp only [noBl]; exact noBls_deeds ds⟩
  have h := depth_deeds ds
  unfold SeqAt.shaped
  rw [Bool.and_eq_true]
  exact ⟨by simp only [PyData.canLay0]; exact lay_deeds ds hw, decide_eq_true (by simp only [PyData.depth]; omega)⟩
theorem Deeds.words {K : PySem.W.Frag} {H : Hp} {k : Str} {vs : List V} {ds : List Deed} (h : Deeds K H k vs ds) : ∀ d ∈ ds, d.1 ∈ words := by
  intro d hd
  obtain ⟨i, hi⟩ := List.getElem?_of_mem hd
  obtain ⟨hl, _⟩ := List.getElem?_eq_some_iff.mp hi
  have hl' : i < vs.length := by rw [h.len]; exact hl
  obtain ⟨a, d', _, h1, _, h3, _⟩ := h.at_ i vs[i] (List.getElem?_eq_getElem hl')
  rw [hi] at h1
  rw [Option.some.inj h1]
  exact good_word h3
theorem Deeds.updL {K : PySem.W.Frag} {H : Hp} {g : Addr} {zs : List V} {o : HO} {k : Str} {vs : List V} {ds : List Deed} (hg : H g = some (.lst zs)) (h : Deeds K H k vs ds) : Deeds K (upd H g o) k vs ds :=
  ⟨h.len, fun i v e => let ⟨a, d, h1, h2, h3, h4, h5⟩ := h.at_ i v e; ⟨a, d, h1, h2, SqT.updL hg h3, h4, h5⟩⟩
theorem Deeds.snoc {K : PySem.W.Frag} {H : Hp} {k : Str} {vs : List V} {ds : List Deed} {a : Addr} {d : Deed} (h : Deeds K H k vs ds) (hd : DeedT K H a d.1 d.2) (hg : Good k d) (hs : Sh d.1) : Deeds K H k (vs ++ [.ref a]) (ds ++ [d]) := by
  refine ⟨by simp [h.len], fun i v e => ?_⟩
  by_cases hi : i < vs.length
  · rw [List.getElem?_append_left hi] at e
    obtain ⟨b, d', h1, h2, h3⟩ := h.at_ i v e
    exact ⟨b, d', h1, by rw [List.getElem?_append_left (by rw [← h.len]; exact hi)]; exact h2, h3⟩
  · rw [List.getElem?_append_right (by omega)] at e
    have hl := h.len
    have hi' : i - vs.length = 0 := by
      cases q : i - vs.length with
      | zero => rfl
      | succ j => rw [q] at e; simp at e
    rw [hi'] at e
    refine ⟨a, d, (Option.some.inj e).symm, ?_, hd, hg, hs⟩
    rw [List.getElem?_append_right (by omega), ← hl, hi']
    rfl
theorem ansT_at : ∀ (ds : List Deed) (t : List Int ⊕ Int) (i : Nat) (d : Deed), ds[i]? = some d → (ansT t ds)[i]? = some (doT (stT t (ds.take i)) d.1 d.2).2
  | [], _, _, _, h => by simp at h
  | e :: r, t, 0, d, h => by cases h; rfl
  | e :: r, t, i + 1, d, h => by
    show (ansT (doT t e.1 e.2).1 r)[i]? = _
    exact ansT_at r _ i d (by simpa using h)
theorem script_at {ns : List Int} {j : Int} (h0 : 0 ≤ j) (h1 : j < ns.length) : ∃ z, atI (ns.map V.int) j = some (.int z) := by
  obtain ⟨v, hv, hv'⟩ := atI_in (xs := ns.map V.int) h0 (by rw [List.length_map]; exact h1)
  rw [List.getElem?_map] at hv'
  obtain ⟨z, _, rfl⟩ := Option.map_eq_some_iff.mp hv'
  exact ⟨z, hv⟩
def spAt (K : PySem.W.Frag) : Sp := fun vs H Q _ => ∃ (a : Addr) (ns : List Int) (k : Int), vs = [.ref a, .int k] ∧ SqL K H a (ns.map V.int) ∧ 0 ≤ k ∧ Q (.int (ns.getD k.toNat 0)) H
theorem ok__law_at (F : Fun K "_law_at" "_law_at" s__law_at f fd) (B : Bl mg) : FnOk P w K mg base CX0 1 f fd ["_law_script", "_law_k"] (spAt K) := by
  refine F.ok sc__law_at (fun vs H Q E h => ?_) (fun cdv A outer s H vs Q E hr h => ?_)
  · obtain ⟨a, ns, i, rfl, _⟩ := h; rfl
  · obtain ⟨a, ns, i, rfl, ha, h0, k⟩ := h
    refine ⟨_, (pss_cons (ps_if (pt_cmpR op_lt (pv 1) (pe_callB call_len_seq rfl B.len_ PySem.boot_len (pa_cons (pv 0) pa_nil)) (nomark _))
    (pss_one (ps_ret (pe_ix ix_list (pv 0) (pv 1) (fun _ _ => rfl)))) pss_nil)
    (pss_one (ps_ret pe_int))), ?_⟩
    refine ⟨_, rfl, _, rfl, a, _, rfl, .inl ha, _, _, rfl, rfl, _, rfl, ?_⟩
    refine iteD (fun h => ?_) (fun h => ?_)
    · rw [List.length_map] at h
      obtain ⟨v, hv, hv'⟩ := atI_in (xs := ns.map V.int) h0 (by rw [List.length_map]; exact h)
      rw [List.getElem?_map] at hv'
      obtain ⟨z, hz, rfl⟩ := Option.map_eq_some_iff.mp hv'
      have e : ns.getD i.toNat 0 = z := by rw [List.getD_eq_getElem?_getD, hz]; rfl
      rw [e] at k
      exact ⟨_, rfl, _, rfl, a, _, i, _, rfl, rfl, ha, hv, k⟩
    · rw [List.length_map] at h
      have e : ns.getD i.toNat 0 = 0 := by rw [List.getD_eq_getElem?_getD, List.getElem?_eq_none (by omega)]; rfl
      rw [e] at k
      exact k
/-- the law's own thing: a list of ints, or an int -/
inductive LThing (K : PySem.W.Frag) (H : Hp) : Str → V → (List Int ⊕ Int) → Prop
  | row {a : Addr} {xs : List Int} : H a = some (.lst (xs.map V.int)) → LThing K H "row" (.ref a) (.inl xs)
  | num {n : Int} : LThing K H "number" (.int n) (.inr n)
theorem LThing.keep {K : PySem.W.Frag} {H H' : Hp} {k : Str} {v : V} {t : List Int ⊕ Int} (s : Same H H') (h : LThing K H k v t) : LThing K H' k v t := by
  cases h with
  | row h => exact .row (s _ _ h)
  | num => exact .num
/-- it is the same, or new, or a number -/
def NewOr (H : Hp) (x y : V) : Prop := y = x ∨ (∃ a, y = .ref a ∧ H a = none) ∨ ∃ i : Int, y = .int i
theorem none_of {H H' : Hp} {a : Addr} (s : Same H H') (h : H' a = none) : H a = none := by
  cases e : H a with
  | none => rfl
  | some o => rw [s _ _ e] at h; cases h
theorem LThing.updC {K : PySem.W.Frag} {H : Hp} {k : Str} {v : V} {t : List Int ⊕ Int} {c : Addr} {o : HO} (h : LThing K H k v t) (hv : v ≠ .ref c) : LThing K (upd H c o) k v t := by
  cases h with
  | @row a xs h => exact .row (by rw [upd_ne fun z => hv (by rw [z])]; exact h)
  | num => exact .num
def spDone (K : PySem.W.Frag) : Sp := fun vs H Q _ => ∃ k x t a wd v, vs = [.str k, x, .ref a] ∧ LThing K H k x t ∧ sizeT t ≤ 1000 ∧ DeedT K H a wd v ∧ Has wd v ∧
  ∀ H' p y, Same H H' → H' p = some (.tup [y, aV (doT t wd v).2]) → LThing K H' k y (doT t wd v).1 → NewOr H x y → Q (.ref p) H'
theorem ok__law_done (F : Fun K "_law_done" "_law_done" s__law_done f fd) (B : Bl mg) : FnOk P w K mg base CX0 1 f fd ["_law_kind", "_law_state", "_law_deed"] (spDone K) := by
  refine F.ok sc__law_done (fun vs H Q E h => ?_) (fun cdv A outer s H vs Q E hr h => ?_)
  · obtain ⟨k, x, t, a, wd, v, rfl, _⟩ := h; rfl
  · obtain ⟨kd, x, t, a, wd, v, rfl, hT, hz, hS, hv, k⟩ := h
    have hsz : sizeLine = 16777216 := sizeLine_eq
    have nt : ∀ z : Str, wd ≠ z → decide (V.str wd = V.str z) = false := fun z h => decide_eq_false fun q => h (V.str.inj q)
    refine ⟨_, (pss_cons (ps_if (pt_cmpR op_eq (pv 0) pe_str (nomark _))
    (pss_cons (ps_set (i := 3) sc__law_done.nd rfl (by first | exact Or.inl rfl | exact Or.inr rfl) pe_non)
    (pss_cons (ps_if (pt_cmpR (op_neD hr.units) (pv 1) (pe_lst pa_nil) (nomark _))
    (pss_one (ps_set (i := 3) sc__law_done.nd rfl (by first | exact Or.inl rfl | exact Or.inr rfl) (pe_ix ix_list (pv 1) pe_int (fun _ _ => rfl)))) pss_nil)
    (pss_cons (ps_if (pt_cmpR op_eq (pe_ix ix_tup (pv 2) pe_int (fun _ _ => rfl)) pe_str (nomark _))
    (pss_one (ps_ret (pe_tup (pa_cons (pe_op op_cat (pv 1) (pe_lst (pa_cons (pe_ix ix_tup (pv 2) pe_int (fun _ _ => rfl)) pa_nil))) (pa_cons pe_non pa_nil))))) pss_nil)
    (pss_cons (ps_if (pt_cmpR op_eq (pe_ix ix_tup (pv 2) pe_int (fun _ _ => rfl)) pe_str (nomark _))
    (pss_one (ps_ret (pe_tup (pa_cons (pe_slice sl_list (pv 1) (po_some pe_int) po_none) (pa_cons (pv 3) pa_nil))))) pss_nil)
    (pss_one (ps_ret (pe_tup (pa_cons (pv 1) (pa_cons (pv 3) pa_nil))))))))) pss_nil)
    (pss_cons (ps_if (pt_cmpR op_eq (pe_ix ix_tup (pv 2) pe_int (fun _ _ => rfl)) pe_str (nomark _))
    (pss_one (ps_ret (pe_tup (pa_cons (pe_ix ix_tup (pv 2) pe_int (fun _ _ => rfl)) (pa_cons pe_non pa_nil))))) pss_nil)
    (pss_cons (ps_if (pt_cmpR op_eq (pe_ix ix_tup (pv 2) pe_int (fun _ _ => rfl)) pe_str (nomark _))
    (pss_one (ps_ret (pe_tup (pa_cons (pe_op op_add (pv 1) (pe_ix ix_tup (pv 2) pe_int (fun _ _ => rfl))) (pa_cons (pe_op op_add (pv 1) (pe_ix ix_tup (pv 2) pe_int (fun _ _ => rfl))) pa_nil))))) pss_nil)
    (pss_one (ps_ret (pe_tup (pa_cons (pv 1) (pa_cons (pv 1) pa_nil)))))))), ?_⟩
    cases hT with
    | @row ra xs hR =>
      refine ⟨_, rfl, rfl, _, rfl, iteT ?_⟩
      refine ⟨_, rfl, Nat.le_of_ble_eq_true rfl, fun p hp => ?_⟩
      have s1 : Same H (upd H p (.lst [])) := Same.upd hp
      refine ⟨_, _, is_ints (SqL.of (s1 _ _ hR)), is_ints (ns := []) (SqL.of upd_same), cmp_ints _, cmp_ints [], _, rfl, ?_⟩
      rw [same_ints']
      have hR1 := s1 _ _ hR
      have hS1 : SqT K (upd H p (.lst [])) a _ := Same.tup s1 hS
      generalize upd H p (.lst []) = H1 at s1 hR1 hS1 ⊢
      match xs, hR1, hz, k with
      | [], hR1, hz, k =>
        refine iteF ?_
        refine ⟨_, rfl, a, _, 0, _, rfl, rfl, hS1, at0, rfl, _, rfl, ?_⟩
        by_cases h1 : wd = "put"
        · subst h1
          obtain ⟨i, rfl⟩ := Option.isSome_iff_exists.mp (hv (.inl rfl))
          refine iteT ⟨_, rfl, _, rfl, a, _, 2, _, rfl, rfl, hS1, at2, Nat.le_of_ble_eq_true rfl, fun p2 hp2 => ⟨ra, p2, _, _, rfl, rfl, Same.upd hp2 _ _ hR1, upd_same, Nat.le_of_ble_eq_true rfl, fun p3 hp3 => ⟨Nat.le_of_ble_eq_true rfl, fun p4 hp4 => ?_⟩⟩⟩
          exact k _ p4 _ (((s1.trans (Same.upd hp2)).trans (Same.upd hp3)).trans (Same.upd hp4)) upd_same (.row (Same.upd hp4 _ _ upd_same)) (.inr (.inl ⟨p3, rfl, none_of (s1.trans (Same.upd hp2)) hp3⟩))
        · rw [nt _ h1]
          refine iteF ?_
          refine ⟨_, rfl, a, _, 0, _, rfl, rfl, hS1, at0, rfl, _, rfl, ?_⟩
          by_cases h2 : wd = "take"
          · subst h2
            refine iteT ⟨_, rfl, 1, rfl, ra, _, rfl, SqL.of hR1, fun p2 hp2 => ⟨_, rfl, Nat.le_of_ble_eq_true rfl, fun p4 hp4 => ?_⟩⟩
            exact k _ p4 _ ((s1.trans (Same.upd hp2)).trans (Same.upd hp4)) upd_same (.row (Same.upd hp4 _ _ upd_same)) (.inr (.inl ⟨p2, rfl, none_of s1 hp2⟩))
          · rw [nt _ h2]
            refine iteF ⟨_, rfl, _, rfl, Nat.le_of_ble_eq_true rfl, fun p4 hp4 => ?_⟩
            have e : doT (.inl []) wd v = (.inl [], none) := by show (Sum.inl (doRow [] wd v).1, (doRow [] wd v).2) = _; unfold doRow; rw [if_neg h1, if_neg h2]; rfl
            rw [e] at k
            exact k _ p4 _ (s1.trans (Same.upd hp4)) upd_same (.row (Same.upd hp4 _ _ hR1)) (.inl rfl)
      | x0 :: xr, hR1, hz, k =>
        have hz' : (x0 :: xr).length ≤ 1000 := hz
        refine iteT ⟨_, rfl, ra, _, 0, _, rfl, rfl, SqL.of hR1, at0, ?_⟩
        refine ⟨_, rfl, a, _, 0, _, rfl, rfl, hS1, at0, rfl, _, rfl, ?_⟩
        by_cases h1 : wd = "put"
        · subst h1
          obtain ⟨i, rfl⟩ := Option.isSome_iff_exists.mp (hv (.inl rfl))
          refine iteT ⟨_, rfl, _, rfl, a, _, 2, _, rfl, rfl, hS1, at2, Nat.le_of_ble_eq_true rfl, fun p2 hp2 => ⟨ra, p2, _, _, rfl, rfl, Same.upd hp2 _ _ hR1, upd_same, by rw [List.length_map]; simp at hz' ⊢; omega, fun p3 hp3 => ⟨Nat.le_of_ble_eq_true rfl, fun p4 hp4 => ?_⟩⟩⟩
          refine k _ p4 _ (((s1.trans (Same.upd hp2)).trans (Same.upd hp3)).trans (Same.upd hp4)) upd_same ?_ (.inr (.inl ⟨p3, rfl, none_of (s1.trans (Same.upd hp2)) hp3⟩))
          have e : (doT (.inl (x0 :: xr)) (Str.ofString "put") (some i)).1 = .inl ((x0 :: xr) ++ [i]) := rfl
          rw [e]
          refine .row (Same.upd hp4 _ _ ?_)
          rw [List.map_append]
          exact upd_same
        · rw [nt _ h1]
          refine iteF ?_
          refine ⟨_, rfl, a, _, 0, _, rfl, rfl, hS1, at0, rfl, _, rfl, ?_⟩
          by_cases h2 : wd = "take"
          · subst h2
            refine iteT ⟨_, rfl, 1, rfl, ra, _, rfl, SqL.of hR1, fun p2 hp2 => ⟨_, rfl, Nat.le_of_ble_eq_true rfl, fun p4 hp4 => ?_⟩⟩
            have e : cutV ((x0 :: xr).map V.int) (some 1) none = xr.map V.int := by
              unfold cutV
              have e1 : HT.sIx ((x0 :: xr).map V.int).length 0 (some 1) = 1 := by
                show HT.sIx _ 0 (some ((1 : Nat) : Int)) = 1
                rw [HT.sIx_nat, List.length_map, List.length_cons]; omega
              rw [e1, HT.sIx_none]
              simp
              exact List.take_of_length_le (by simp)
            rw [e] at hp4 ⊢
            exact k _ p4 _ ((s1.trans (Same.upd hp2)).trans (Same.upd hp4)) upd_same (.row (Same.upd hp4 _ _ upd_same)) (.inr (.inl ⟨p2, rfl, none_of s1 hp2⟩))
          · rw [nt _ h2]
            refine iteF ⟨_, rfl, _, rfl, Nat.le_of_ble_eq_true rfl, fun p4 hp4 => ?_⟩
            have e : doT (.inl (x0 :: xr)) wd v = (.inl (x0 :: xr), some x0) := by show (Sum.inl (doRow (x0 :: xr) wd v).1, (doRow (x0 :: xr) wd v).2) = _; unfold doRow; rw [if_neg h1, if_neg h2]; rfl
            rw [e] at k
            exact k _ p4 _ (s1.trans (Same.upd hp4)) upd_same (.row (Same.upd hp4 _ _ hR1)) (.inl rfl)
    | @num m =>
      refine ⟨_, rfl, rfl, _, rfl, iteF ?_⟩
      refine ⟨_, rfl, a, _, 0, _, rfl, rfl, hS, at0, rfl, _, rfl, ?_⟩
      by_cases h1 : wd = "set"
      · subst h1
        obtain ⟨i, rfl⟩ := Option.isSome_iff_exists.mp (hv (.inr (.inl rfl)))
        exact iteT ⟨_, rfl, a, _, 2, _, rfl, rfl, hS, at2, Nat.le_of_ble_eq_true rfl, fun p hp => k _ p _ (Same.upd hp) upd_same .num (.inr (.inr ⟨_, rfl⟩))⟩
      · rw [nt _ h1]
        refine iteF ?_
        refine ⟨_, rfl, a, _, 0, _, rfl, rfl, hS, at0, rfl, _, rfl, ?_⟩
        by_cases h2 : wd = "add"
        · subst h2
          obtain ⟨i, rfl⟩ := Option.isSome_iff_exists.mp (hv (.inr (.inr rfl)))
          exact iteT ⟨_, rfl, _, rfl, a, _, 2, _, rfl, rfl, hS, at2, _, _, rfl, rfl, _, rfl, _, rfl, a, _, 2, _, rfl, rfl, hS, at2, _, _, rfl, rfl, Nat.le_of_ble_eq_true rfl, fun p hp => k _ p _ (Same.upd hp) upd_same .num (.inr (.inr ⟨_, rfl⟩))⟩
        · rw [nt _ h2]
          refine iteF ⟨_, rfl, _, rfl, Nat.le_of_ble_eq_true rfl, fun p hp => ?_⟩
          have e : doT (.inr m) wd v = (.inr m, some m) := by show (Sum.inr (doNum m wd v).1, (doNum m wd v).2) = _; unfold doNum; rw [if_neg h1, if_neg h2]
          rw [e] at k
          exact k _ p _ (Same.upd hp) upd_same .num (.inr (.inr ⟨_, rfl⟩))
/-! ### options as data -/
def oD : Option Int → PyData
  | some i => .int i
  | none => .none
theorem isAll_opts {K : PySem.W.Frag} {H : Hp} : ∀ xs : List (Option Int), IsAll K H (xs.map oD) (xs.map aV)
  | [] => by simp [IsAll]
  | none :: r => by
    rw [List.map_cons, List.map_cons]
    simp only [IsAll]
    exact ⟨_, _, rfl, by simp [Is, oD, aV], isAll_opts r⟩
  | some i :: r => by
    rw [List.map_cons, List.map_cons]
    simp only [IsAll]
    exact ⟨_, _, rfl, by simp [Is, oD, aV], isAll_opts r⟩
theorem is_opts {K : PySem.W.Frag} {H : Hp} {a : Addr} {xs : List (Option Int)} (h : SqL K H a (xs.map aV)) : Is K H (.list (xs.map oD)) (.ref a) := by
  simp only [Is]
  exact ⟨a, _, rfl, h, isAll_opts xs⟩
theorem lay_opts : ∀ xs : List (Option Int), PyData.canLayAll0 (xs.map oD) = true
  | [] => by simp [PyData.canLayAll0]
  | none :: r => by simp [PyData.canLayAll0, PyData.canLay0, oD, lay_opts r]
  | some i :: r => by simp [PyData.canLayAll0, PyData.canLay0, oD, lay_opts r]
theorem depth_opts : ∀ xs : List (Option Int), PyData.depthAll (xs.map oD) = 0
  | [] => by simp [PyData.depthAll]
  | none :: r => by simp [PyData.depthAll, PyData.depth, oD, depth_opts r]
  | some i :: r => by simp [PyData.depthAll, PyData.depth, oD, depth_opts r]
theorem noBls_opts : ∀ xs : List (Option Int), noBls (xs.map oD) = true
  | [] => by simp [noBls]
  | none :: r => by simp [noBls, noBl, oD, noBls_opts r]
  | some i :: r => by simp [noBls, noBl, oD, noBls_opts r]
theorem cmp_opts (xs : List (Option Int)) : Cmp (.list (xs.map oD)) := by
  refine ⟨?_, by simp only [noBl]; exact noBls_opts xs⟩
  have h := depth_opts xs
  unfold SeqAt.shaped
  rw [Bool.and_eq_true]
  exact ⟨by simp only [PyData.canLay0]; exact lay_opts xs, decide_eq_true (by simp only [PyData.depth]; omega)⟩
theorem same_oD (x y : Option Int) : PySem.Spec.same (oD x) (oD y) = decide (x = y) := by
  cases x <;> cases y <;> simp [oD, PySem.Spec.same]
  rw [Bool.eq_iff_iff]
  simp
theorem sameAll_opts : ∀ xs ys : List (Option Int), PySem.Spec.sameAll (xs.map oD) (ys.map oD) = decide (xs = ys)
  | [], [] => by simp [PySem.Spec.sameAll]
  | [], _ :: _ => by simp [PySem.Spec.sameAll]
  | _ :: _, [] => by simp [PySem.Spec.sameAll]
  | x :: xs, y :: ys => by
    rw [List.map_cons, List.map_cons]
    simp only [PySem.Spec.sameAll]
    rw [same_oD, sameAll_opts xs ys, Bool.eq_iff_iff]
    simp
theorem same_opts (xs ys : List (Option Int)) : PySem.Spec.same (.list (xs.map oD)) (.list (ys.map oD)) = decide (xs = ys) := by
  simp only [PySem.Spec.same]
  exact sameAll_opts xs ys
/-! ### calls -/
structure Cl where
  b : Int
  e : Int
  d : Deed
  a : Option Int
def CallT (K : PySem.W.Frag) (H : Hp) (v : V) (c : Cl) : Prop := ∃ t q, v = .ref t ∧ SqT K H t [.int c.b, .int c.e, .ref q, aV c.a] ∧ DeedT K H q c.d.1 c.d.2
theorem CallT.keep {K : PySem.W.Frag} {H H' : Hp} {v : V} {c : Cl} (s : Same H H') (h : CallT K H v c) : CallT K H' v c :=
  let ⟨t, q, h1, h2, h3⟩ := h; ⟨t, q, h1, Same.tup s h2, Same.tup s h3⟩
theorem CallT.updL {K : PySem.W.Frag} {H : Hp} {g : Addr} {zs : List V} {o : HO} {v : V} {c : Cl} (hg : H g = some (.lst zs)) (h : CallT K H v c) : CallT K (upd H g o) v c :=
  let ⟨t, q, h1, h2, h3⟩ := h; ⟨t, q, h1, SqT.updL hg h2, SqT.updL hg h3⟩
/-- a call of the kind -/
def Ok (k : Str) (c : Cl) : Prop := c.b < c.e ∧ Good k c.d ∧ Sh c.d.1
structure Calls (K : PySem.W.Frag) (H : Hp) (k : Str) (vs : List V) (cs : List Cl) : Prop where
  len : vs.length = cs.length
  at_ : ∀ (i : Nat) (v : V), vs[i]? = some v → ∃ c, cs[i]? = some c ∧ CallT K H v c ∧ Ok k c
theorem Calls.keep {K : PySem.W.Frag} {H H' : Hp} {k : Str} {vs : List V} {cs : List Cl} (s : Same H H') (h : Calls K H k vs cs) : Calls K H' k vs cs :=
  ⟨h.len, fun i v e => let ⟨c, h1, h2, h3⟩ := h.at_ i v e; ⟨c, h1, h2.keep s, h3⟩⟩
theorem Calls.updL {K : PySem.W.Frag} {H : Hp} {g : Addr} {zs : List V} {o : HO} {k : Str} {vs : List V} {cs : List Cl} (hg : H g = some (.lst zs)) (h : Calls K H k vs cs) : Calls K (upd H g o) k vs cs :=
  ⟨h.len, fun i v e => let ⟨c, h1, h2, h3⟩ := h.at_ i v e; ⟨c, h1, h2.updL hg, h3⟩⟩
theorem Calls.nil {K : PySem.W.Frag} {H : Hp} {k : Str} : Calls K H k [] [] := ⟨rfl, fun i v h => by simp at h⟩
/-- put in anywhere -/
theorem Calls.put {K : PySem.W.Frag} {H : Hp} {k : Str} {vs : List V} {cs : List Cl} {v : V} {c : Cl} (n : Nat) (h : Calls K H k vs cs) (hn : n ≤ vs.length) (hc : CallT K H v c) (ho : Ok k c) : Calls K H k (vs.take n ++ v :: vs.drop n) (cs.take n ++ c :: cs.drop n) := by
  have hl := h.len
  refine ⟨by simp [hl], fun i u e => ?_⟩
  have l1 : (vs.take n).length = n := by rw [List.length_take]; omega
  have l2 : (cs.take n).length = n := by rw [List.length_take]; omega
  by_cases h1 : i < n
  · rw [List.getElem?_append_left (by omega), List.getElem?_take_of_lt h1] at e
    rw [List.getElem?_append_left (by omega), List.getElem?_take_of_lt h1]
    exact h.at_ i u e
  · rw [List.getElem?_append_right (by omega), l1] at e
    rw [List.getElem?_append_right (by omega), l2]
    cases q : i - n with
    | zero =>
      rw [q] at e
      exact ⟨c, rfl, (Option.some.inj e) ▸ hc, ho⟩
    | succ j =>
      rw [q, List.getElem?_cons_succ, List.getElem?_drop] at e
      rw [List.getElem?_cons_succ, List.getElem?_drop]
      exact h.at_ _ u e
theorem Calls.snoc {K : PySem.W.Frag} {H : Hp} {k : Str} {vs : List V} {cs : List Cl} {v : V} {c : Cl} (h : Calls K H k vs cs) (hc : CallT K H v c) (ho : Ok k c) : Calls K H k (vs ++ [v]) (cs ++ [c]) := by
  have := h.put vs.length (Nat.le_refl _) hc ho
  rw [List.take_length, List.drop_length, show vs.length = cs.length from h.len, List.take_length, List.drop_length] at this
  exact this
theorem Calls.set {K : PySem.W.Frag} {H : Hp} {k : Str} {vs : List V} {cs : List Cl} {v : V} {c : Cl} (n : Nat) (h : Calls K H k vs cs) (hc : CallT K H v c) (ho : Ok k c) : Calls K H k (vs.set n v) (cs.set n c) := by
  have hl := h.len
  refine ⟨by simp [hl], fun i u e => ?_⟩
  rw [List.getElem?_set] at e ⊢
  by_cases h1 : n = i
  · rw [if_pos h1] at e ⊢
    by_cases h2 : n < vs.length
    · rw [if_pos h2] at e
      rw [if_pos (by omega)]
      exact ⟨c, rfl, (Option.some.inj e) ▸ hc, ho⟩
    · rw [if_neg h2] at e; cases e
  · rw [if_neg h1] at e ⊢
    exact h.at_ i u e
def cl0 : Cl := ⟨0, 0, ("", none), none⟩
def clAt (cs : List Cl) (i : Int) : Cl := cs.getD i.toNat cl0
theorem Calls.num {K : PySem.W.Frag} {H : Hp} {k : Str} {vs : List V} {cs : List Cl} (h : Calls K H k vs cs) {i : Int} (h0 : 0 ≤ i) (h1 : i < cs.length) : ∃ v, atI vs i = some v ∧ CallT K H v (clAt cs i) ∧ Ok k (clAt cs i) := by
  obtain ⟨v, hv, hv'⟩ := atI_in (xs := vs) h0 (by rw [h.len]; exact h1)
  obtain ⟨c, h2, h3, h4⟩ := h.at_ _ v hv'
  have e : clAt cs i = c := by unfold clAt; rw [List.getD_eq_getElem?_getD, h2]; rfl
  rw [e]
  exact ⟨v, hv, h3, h4⟩
/-- as data -/
def callD (c : Cl) : PyData := .tuple [.int c.b, .int c.e, dD c.d, oD c.a]
theorem is_call {K : PySem.W.Frag} {H : Hp} {v : V} {c : Cl} (h : CallT K H v c) : Is K H (callD c) v := by
  obtain ⟨t, q, rfl, h1, h2⟩ := h
  unfold callD
  have hd := is_deed h2
  cases ea : c.a <;> rw [ea] at h1 <;> simp only [Is, IsAll, oD] <;> exact ⟨t, _, rfl, h1, _, _, rfl, rfl, _, _, rfl, rfl, _, _, rfl, hd, _, _, rfl, rfl, rfl⟩
theorem isAll_calls {K : PySem.W.Frag} {H : Hp} {k : Str} : ∀ {vs : List V} {cs : List Cl}, Calls K H k vs cs → IsAll K H (cs.map callD) vs
  | [], [], _ => by simp [IsAll]
  | [], _ :: _, h => by have := h.len; simp at this
  | _ :: _, [], h => by have := h.len; simp at this
  | v :: vs, c :: cs, h => by
    rw [List.map_cons]
    simp only [IsAll]
    refine ⟨v, vs, rfl, ?_, isAll_calls (k := k) ⟨by have := h.len; simpa using this, fun i u hu => ?_⟩⟩
    · obtain ⟨c', h1, h2, _⟩ := h.at_ 0 v rfl
      have e' : c = c' := Option.some.inj h1
      rw [e']
      exact is_call h2
    · obtain ⟨c', h1, h2⟩ := h.at_ (i + 1) u (by simpa using hu)
      exact ⟨c', by simpa using h1, h2⟩
theorem is_calls {K : PySem.W.Frag} {H : Hp} {a : Addr} {k : Str} {vs : List V} {cs : List Cl} (hs : SqL K H a vs) (h : Calls K H k vs cs) : Is K H (.list (cs.map callD)) (.ref a) := by
  simp only [Is]
  exact ⟨a, vs, rfl, hs, isAll_calls h⟩
theorem Calls.ok {K : PySem.W.Frag} {H : Hp} {k : Str} {vs : List V} {cs : List Cl} (h : Calls K H k vs cs) : ∀ c ∈ cs, Ok k c := by
  intro c hc
  obtain ⟨i, hi⟩ := List.getElem?_of_mem hc
  obtain ⟨hl, _⟩ := List.getElem?_eq_some_iff.mp hi
  have hl' : i < vs.length := by rw [h.len]; exact hl
  obtain ⟨c', h1, _, h3⟩ := h.at_ i vs[i] (List.getElem?_eq_getElem hl')
  rw [hi] at h1
  rw [Option.some.inj h1]
  exact h3
theorem lay_oD (x : Option Int) : PyData.canLay0 (oD x) = true := by cases x <;> simp [oD, PyData.canLay0]
theorem depth_oD (x : Option Int) : PyData.depth (oD x) = 0 := by cases x <;> simp [oD, PyData.depth]
theorem noBl_oD (x : Option Int) : noBl (oD x) = true := by cases x <;> simp [oD, noBl]
theorem noBl_dD (d : Deed) : noBl (dD d) = true := by
  obtain ⟨wd, v⟩ := d
  cases v <;> simp [dD, noBl, noBls]
theorem lay_calls : ∀ cs : List Cl, (∀ c ∈ cs, c.d.1 ∈ words) → PyData.canLayAll0 (cs.map callD) = true
  | [], _ => by simp [PyData.canLayAll0]
  | c :: r, h => by
    have h1 := lay_deed (h c (by simp))
    have h2 := lay_calls r fun c hc => h c (by simp [hc])
    simp only [List.map_cons, PyData.canLayAll0, h2, Bool.and_true]
    simp [callD, PyData.canLay0, PyData.canLayAll0, h1, lay_oD]
theorem depth_calls : ∀ cs : List Cl, PyData.depthAll (cs.map callD) ≤ 2
  | [] => by simp [PyData.depthAll]
  | c :: r => by
    have := depth_calls r
    have h : PyData.depth (callD c) = 2 := by simp [callD, PyData.depth, PyData.depthAll, depth_deed, depth_oD]
    simp only [List.map_cons, PyData.depthAll, h]
    omega
theorem noBls_calls : ∀ cs : List Cl, noBls (cs.map callD) = true
  | [] => by simp [noBls]
  | c :: r => by
    have h : noBl (callD c) = true := by simp [callD, noBl, noBls, noBl_dD, noBl_oD]
    simp [noBls, h, noBls_calls r]
--@split
/-! ### rearrangements of 0, 1, .. -/
theorem mem_iota {n : Nat} {j : Int} : j ∈ iotaZ 0 n ↔ 0 ≤ j ∧ j < n := by
  unfold iotaZ
  rw [List.mem_map]
  constructor
  · rintro ⟨i, hi, rfl⟩
    have := List.mem_range.mp hi
    omega
  · rintro ⟨h0, h1⟩
    exact ⟨j.toNat, List.mem_range.mpr (by omega), by omega⟩
theorem nodup_iota (n : Nat) : (iotaZ 0 n).Nodup := by
  unfold iotaZ
  exact List.Pairwise.map _ (fun a b h z => h (by omega)) List.nodup_range
theorem perm_of_mem : ∀ {a b : List Int}, a.Nodup → b.Nodup → (∀ x, x ∈ a ↔ x ∈ b) → a.Perm b
  | [], b, _, _, h => by
    cases b with
    | nil => exact .nil
    | cons y r => exact absurd ((h y).mpr (by simp)) (by simp)
  | x :: a, b, ha, hb, h => by
    have hx : x ∈ b := (h x).mp (by simp)
    have hp := List.perm_cons_erase hx
    have hn := List.nodup_cons.mp ha
    refine (List.Perm.cons x (perm_of_mem hn.2 (hb.erase x) fun y => ?_)).trans hp.symm
    rw [hb.mem_erase_iff]
    constructor
    · intro hy
      exact ⟨fun z => hn.1 (z ▸ hy), (h y).mp (by simp [hy])⟩
    · rintro ⟨h1, h2⟩
      rcases List.mem_cons.mp ((h y).mpr h2) with z | z
      · exact absurd z h1
      · exact z
theorem getD_at {os : List Int} {i : Nat} (h : i < os.length) : os.getD i 0 = os[i] := by simp [List.getD_eq_getElem?_getD, h]
theorem mem_take {os : List Int} {i : Nat} {x : Int} : x ∈ os.take i ↔ ∃ q, ∃ h : q < os.length, q < i ∧ os[q] = x := by
  rw [List.mem_take_iff_getElem]
  constructor
  · rintro ⟨q, hq, e⟩
    exact ⟨q, by omega, by omega, e⟩
  · rintro ⟨q, h, hq, e⟩
    exact ⟨q, by omega, e⟩
theorem nodup_get {os : List Int} (h : os.Nodup) {i j : Nat} {hi : i < os.length} {hj : j < os.length} (e : os[i] = os[j]) : i = j := by
  have hp := List.pairwise_iff_getElem.mp (List.nodup_iff_pairwise_ne.mp h)
  rcases Nat.lt_trichotomy i j with z | z | z
  · exact absurd e (hp i j hi hj z)
  · exact z
  · exact absurd e.symm (hp j i hj hi z)
/-! ### the promises of times and judging -/
def spCT (K : PySem.W.Frag) : Sp := fun vs H Q _ => ∃ v c, vs = [v] ∧ CallT K H v c ∧ c.b < c.e ∧ Q .non H
def spAhead (K : PySem.W.Frag) : Sp := fun vs H Q _ => ∃ v w c c', vs = [v, w] ∧ CallT K H v c ∧ c.b < c.e ∧ CallT K H w c' ∧ c'.b < c'.e ∧ Q (.bl (decide (c.e < c'.b))) H
def spCC (K : PySem.W.Frag) : Sp := fun vs H Q _ => ∃ k l xs cs, vs = [.str k, .ref l] ∧ (k = "row" ∨ k = "number") ∧ SqL K H l xs ∧ Calls K H k xs cs ∧ ∀ H', Same H H' → Q .non H'
def eachB (n : Nat) (os : List Int) : Bool := os.isPerm (iotaZ 0 n)
def timeB (cs : List Cl) (os : List Int) : Bool := (List.range os.length).all fun i => !(os.take i).any fun f => decide ((clAt cs (os.getD i 0)).e < (clAt cs f).b)
def ansB (k : Str) (cs : List Cl) (os : List Int) : Bool := decide (ansT (t0 k) (os.map fun i => (clAt cs i).d) = os.map fun i => (clAt cs i).a)
def spOnce (K : PySem.W.Frag) : Sp := fun vs H Q _ => ∃ l o xs os, vs = [.ref l, .ref o] ∧ SqL K H l xs ∧ SqL K H o (os.map V.int) ∧ os.length < 64 ∧ xs.length ≤ 1000 ∧ ∀ H', Same H H' → Q (.bl (eachB xs.length os)) H'
def spTime (K : PySem.W.Frag) : Sp := fun vs H Q _ => ∃ (l o : Addr) (k : Str) (xs : List V) (cs : List Cl) (os : List Int), vs = [.ref l, .ref o] ∧ SqL K H l xs ∧ Calls K H k xs cs ∧ SqL K H o (os.map V.int) ∧ os.length < 64 ∧ (∀ i : Int, i ∈ os → 0 ≤ i ∧ i < cs.length) ∧ ∀ H', Same H H' → Q (.bl (timeB cs os)) H'
def spGive (K : PySem.W.Frag) : Sp := fun vs H Q _ => ∃ (k : Str) (l o : Addr) (xs : List V) (cs : List Cl) (os : List Int), vs = [.str k, .ref l, .ref o] ∧ (k = "row" ∨ k = "number") ∧ SqL K H l xs ∧ Calls K H k xs cs ∧ SqL K H o (os.map V.int) ∧ os.length < 64 ∧ (∀ i : Int, i ∈ os → 0 ≤ i ∧ i < cs.length) ∧
  ∀ H', Same H H' → Q (.bl (ansB k cs os)) H'
def spIs (K : PySem.W.Frag) : Sp := fun vs H Q _ => ∃ (k : Str) (l o : Addr) (xs : List V) (cs : List Cl) (os : List Int), vs = [.str k, .ref l, .ref o] ∧ (k = "row" ∨ k = "number") ∧ SqL K H l xs ∧ Calls K H k xs cs ∧ SqL K H o (os.map V.int) ∧ os.length < 64 ∧ xs.length ≤ 1000 ∧
  ∀ H', Same H H' → Q (.bl (eachB cs.length os && (timeB cs os && ansB k cs os))) H'
theorem ok_check_times (F : Fun K "check_times" "check_times" s_check_times f fd) (B : Bl mg) : FnOk P w K mg base CX0 1 f fd ["call"] (spCT K) := by
  refine F.ok sc_check_times (fun vs H Q E h => ?_) (fun cdv A outer s H vs Q E hr h => ?_)
  · obtain ⟨v, c, rfl, _⟩ := h; rfl
  · obtain ⟨v, c, rfl, ⟨t, q, rfl, h1, h2⟩, hbe, k⟩ := h
    refine ⟨_, (pss_one (ps_if (pt_cmpR op_ge (pe_ix ix_tup (pv 0) pe_int (fun _ _ => rfl)) (pe_ix ix_tup (pv 0) pe_int (fun _ _ => rfl)) (nomark _))
    (pss_one ps_never) pss_nil)), ?_⟩
    refine ⟨_, rfl, t, _, 0, _, rfl, rfl, h1, at0, _, rfl, t, _, 1, _, rfl, rfl, h1, at1, _, _, rfl, rfl, _, rfl, ?_⟩
    exact iteDN (by omega) k
theorem ok_ahead (F : Fun K "ahead" "ahead" s_ahead f fd) (B : Bl mg) (g_check_times : FnX P w K mg base "check_times" 1 (spCT K)) : FnOk P w K mg base CX0 2 f fd ["one", "other"] (spAhead K) := by
  refine F.ok sc_ahead (fun vs H Q E h => ?_) (fun cdv A outer s H vs Q E hr h => ?_)
  · obtain ⟨v, w, c, c', rfl, _⟩ := h; rfl
  · obtain ⟨v, w, c, c', rfl, hv, hbe, hw, hbe', k⟩ := h
    refine ⟨_, (pss_cons (ps_expr (pe_fnX g_check_times passN hr rfl (pa_cons (pv 0) pa_nil)))
    (pss_cons (ps_expr (pe_fnX g_check_times passN hr rfl (pa_cons (pv 1) pa_nil)))
    (pss_one (ps_ret (pe_cmpR op_lt (pe_ix ix_tup (pv 0) pe_int (fun _ _ => rfl)) (pe_ix ix_tup (pv 1) pe_int (fun _ _ => rfl)) (nomark _)))))), ?_⟩
    obtain ⟨t, q, rfl, h1, h2⟩ := id hv
    obtain ⟨t', q', rfl, h1', h2'⟩ := id hw
    refine ⟨_, rfl, _, c, rfl, hv, hbe, ?_⟩
    refine ⟨_, rfl, _, c', rfl, hw, hbe', ?_⟩
    exact ⟨_, rfl, t, _, 1, _, rfl, rfl, h1, at1, _, rfl, t', _, 0, _, rfl, rfl, h1', at0, _, _, rfl, rfl, k⟩
theorem ok_check_calls (F : Fun K "check_calls" "check_calls" s_check_calls f fd) (B : Bl mg) (T : Tp P w K mg st pt r b n) (g_check_deed : FnX P w K mg base "check_deed" 4 (spCd K b n)) (g_check_kind : FnX P w K mg base "check_kind" 1 (spCk n)) (g_check_times : FnX P w K mg base "check_times" 1 (spCT K)) :
    FnOk P w K mg base CX0 5 f fd ["kind", "calls"] (spCC K) := by
  refine F.ok sc_check_calls (fun vs H Q E h => ?_) (fun cdv A outer s H vs Q E hr h => ?_)
  · obtain ⟨k, l, xs, cs, rfl, _⟩ := h; rfl
  · obtain ⟨kd, l, xs, cs, rfl, hk, hS, hC, k⟩ := h
    have hkS : Sh kd := by rcases hk with rfl | rfl; exact ⟨by decide, by decide +kernel⟩; exact ⟨by decide, by decide +kernel⟩
    refine ⟨_, (pss_cons (ps_expr (pe_fnX g_check_kind passN hr rfl (pa_cons (pv 0) pa_nil)))
    (pss_one (ps_for PassesOwn.never rfl (pi_list (pv 1)) (pg_name (i := 2) sc_check_calls.nd rfl (by first | exact Or.inl rfl | exact Or.inr rfl))
    (pss_cons (ps_expr (pe_fnX g_check_times passN hr rfl (pa_cons (pv 2) pa_nil)))
    (pss_one (ps_expr (pe_fnX g_check_deed passN hr rfl (pa_cons (pv 0) (pa_cons (pe_ix ix_tup (pv 2) pe_int (fun _ _ => rfl)) pa_nil))))))))), ?_⟩
    refine ⟨_, rfl, kd, rfl, hkS, ?_⟩
    rw [if_pos hk]
    refine ⟨_, rfl, l, rfl, ⟨_, hS⟩, for_list (K := K) (a := l) (xs := xs) (fun i σ H2 => ∃ v, σ = [some (.str kd), some (.ref l), v] ∧ Same H H2) ⟨none, rfl, Same.refl _⟩ (fun i σ H2 _ ⟨_, _, s1⟩ => s1.seq hS) ?_ ?_⟩
    · rintro i y σ H2 hi ⟨v, rfl, s1⟩
      obtain ⟨c, _, hc, hbe, hG, hSh⟩ := hC.at_ i y hi
      have hc2 := hc.keep s1
      obtain ⟨t, q, rfl, h1, h2⟩ := id hc2
      refine ⟨_, rfl, _, c, rfl, hc2, hbe, ?_⟩
      refine ⟨_, rfl, _, rfl, t, _, 2, _, rfl, rfl, h1, at2, kd, c.d.1, q, _, rfl, h2, tail_deed c.d.2, hkS, hSh, fun H3 s3 => ?_⟩
      rw [if_pos hk, if_pos (good_can hG)]
      exact ⟨_, rfl, s1.trans s3⟩
    · rintro σ H2 ⟨v, rfl, s1⟩
      exact k H2 s1
theorem sorted_eq {a b : List Int} (hp : a.Perm b) (ha : a.Pairwise (· ≤ ·)) (hb : b.Pairwise (· ≤ ·)) : a = b := List.Perm.eq_of_pairwise (fun x y _ _ h1 h2 => Int.le_antisymm h1 h2) ha hb hp
theorem iota_sorted (n : Nat) : (iotaZ 0 n).Pairwise (· ≤ ·) := by
  unfold iotaZ
  exact List.Pairwise.map _ (fun a b h => by omega) (List.pairwise_lt_range)
theorem ok_has_each_once (F : Fun K "has_each_once" "has_each_once" s_has_each_once f fd) (B : Bl mg) : FnOk P w K mg base CX0 1 f fd ["calls", "order"] (spOnce K) := by
  refine F.ok sc_has_each_once (fun vs H Q E h => ?_) (fun cdv A outer s H vs Q E hr h => ?_)
  · obtain ⟨l, o, xs, os, rfl, _⟩ := h; rfl
  · obtain ⟨l, o, xs, os, rfl, hS, hO, h64, hx, k⟩ := h
    refine ⟨_, (pss_one (ps_ret (pe_cmpR (op_eqD hr.units) (pe_callB call_sortedI rfl B.sorted_ PyProof.Rows.boot_sorted (pa_cons (pv 1) pa_nil)) (pe_callTy (call_listR rfl) rfl B.list_ PyProof.Rows.boot_list (pa_cons (pe_callTy call_rangeE rfl B.range_ PyProof.Rows.boot_range (pa_cons (pe_callB call_len_seq rfl B.len_ PySem.boot_len (pa_cons (pv 0) pa_nil)) pa_nil)) pa_nil)) (nomark _)))), ?_⟩
    refine ⟨_, rfl, o, os, rfl, hO, h64, fun p1 ns hp1 hpm hsr => ?_⟩
    have s1 : Same H (upd H p1 (.lst (ns.map V.int))) := Same.upd hp1
    have q1 : (upd H p1 (.lst (ns.map V.int))) p1 = some (.lst (ns.map V.int)) := upd_same
    generalize upd H p1 (.lst (ns.map V.int)) = H1 at s1 q1 ⊢
    refine ⟨_, rfl, l, xs, rfl, .inl (s1.seq hS), (xs.length : Int), rfl, fun p2 hp2 => ?_⟩
    have s2 : Same H1 (upd H1 p2 (.rng 0 xs.length)) := Same.upd hp2
    have q2 : (upd H1 p2 (.rng 0 xs.length)) p2 = some (.rng 0 xs.length) := upd_same
    generalize upd H1 p2 (.rng 0 xs.length) = H2 at s2 q2 ⊢
    refine ⟨p2, _, rfl, q2, by omega, by omega, fun p3 hp3 => ?_⟩
    have s3 : Same H2 (upd H2 p3 (.lst ((iotaZ 0 (xs.length : Int).toNat).map V.int))) := Same.upd hp3
    refine ⟨_, _, is_ints (SqL.of (s3 _ _ (s2 _ _ q1))), is_ints (SqL.of upd_same), cmp_ints _, cmp_ints _, ?_⟩
    rw [same_ints']
    have e : decide (ns = iotaZ 0 (xs.length : Int).toNat) = eachB xs.length os := by
      rw [show (xs.length : Int).toNat = xs.length by omega]
      unfold eachB
      rw [Bool.eq_iff_iff, decide_eq_true_eq, List.isPerm_iff]
      constructor
      · rintro rfl
        exact hpm.symm
      · intro h
        exact sorted_eq (hpm.trans h) hsr (iota_sorted _)
    rw [e]
    exact k _ ((s1.trans s2).trans s3)
theorem ok_keeps_time (F : Fun K "keeps_time" "keeps_time" s_keeps_time f fd) (B : Bl mg) (g_ahead : FnX P w K mg base "ahead" 2 (spAhead K)) : FnOk P w K mg base CX0 3 f fd ["calls", "order"] (spTime K) := by
  refine F.ok sc_keeps_time (fun vs H Q E h => ?_) (fun cdv A outer s H vs Q E hr h => ?_)
  · obtain ⟨l, o, k, xs, cs, os, rfl, _⟩ := h; rfl
  · obtain ⟨l, o, kd, xs, cs, os, rfl, hS, hC, hO, h64, hin, k⟩ := h
    have hsz : sizeLine = 16777216 := sizeLine_eq
    refine ⟨_, (pss_cons (ps_for PassesOwn.never rfl (pi_enum rfl B.enumerate_ (pa_cons (pv 1) pa_nil)) (pg_tup rfl (pgs_cons (pg_name (i := 2) sc_keeps_time.nd rfl (by first | exact Or.inl rfl | exact Or.inr rfl)) (pgs_cons (pg_name (i := 3) sc_keeps_time.nd rfl (by first | exact Or.inl rfl | exact Or.inr rfl)) pgs_nil)))
    (pss_one (ps_if (pt_val (pe_callB (call_anyB rfl) rfl B.any_ PyProof.Rows.boot_any (pa_cons (pe_lc (cn_of (sc := defScope s_keeps_time) (N0 := nm_keeps_time) (ns := ["calls", "number"]) (idx := [0, 3]) (by decide +kernel)) rfl (pi_list (pe_slice sl_list (pv 1) po_none (po_some (pv 2)))) (fun _ _ _ _ => pif_nil) (fun _ _ _ _ => (pe_fnX g_ahead passN hr rfl (pa_cons (pe_ix (ix_listK K) (pv 1) (pv 2) (fun _ _ => rfl)) (pa_cons (pe_ix (ix_listK K) (pv 1) (pv 0) (fun _ _ => rfl)) pa_nil))))) pa_nil)))
    (pss_one (ps_ret pe_bl)) pss_nil)))
    (pss_one (ps_ret pe_bl))), ?_⟩
    have hget : ∀ (i : Nat) (y : V), (os.map V.int)[i]? = some y → i < os.length ∧ y = V.int (os.getD i 0) := fun i y hi => by
      rw [List.getElem?_map] at hi
      obtain ⟨z, hz, rfl⟩ := Option.map_eq_some_iff.mp hi
      refine ⟨(List.getElem?_eq_some_iff.mp hz).1, ?_⟩
      rw [List.getD_eq_getElem?_getD, hz]; rfl
    refine ⟨_, rfl, o, rfl, ⟨_, hO⟩, for_enum (K := K) (a := o) (xs := os.map V.int) (fun i σ H2 => ∃ v2 v3, σ = [some (.ref l), some (.ref o), v2, v3] ∧ Same H H2 ∧ ∀ j < i, ((os.take j).any fun f => decide ((clAt cs (os.getD j 0)).e < (clAt cs f).b)) = false)
      ⟨none, none, rfl, Same.refl _, fun j hj => absurd hj (Nat.not_lt_zero _)⟩ (fun i σ H2 _ ⟨_, _, _, s1, _⟩ => s1.seq hO) ?_ ?_⟩
    · rintro i y t σ H2 hi ⟨v2, v3, rfl, s1, hok⟩ ht
      obtain ⟨hil, rfl⟩ := hget i y hi
      have s2 : Same H2 (upd H2 t (.tup [.int i, .int (os.getD i 0)])) := Same.upd ht
      refine ⟨t, _, rfl, SqT.of upd_same, rfl, _, _, rfl, _, _, rfl, rfl, ?_⟩
      generalize upd H2 t (.tup [.int i, .int (os.getD i 0)]) = H3 at s2 ⊢
      have s3 := s1.trans s2
      have hii := hin (os.getD i 0) (by rw [List.getD_eq_getElem?_getD, List.getElem?_eq_getElem hil]; exact List.getElem_mem hil)
      refine ⟨_, rfl, _, rfl, _, rfl, o, _, rfl, s3.seq hO, fun p hp => ?_⟩
      have ecut : cutV (os.map V.int) none (some (i : Int)) = (os.take i).map V.int := by
        unfold cutV
        rw [HT.sIx_none, show HT.sIx (os.map V.int).length (os.map V.int).length (some ((i : Nat) : Int)) = i from by rw [HT.sIx_nat, List.length_map]; omega]
        simp [List.map_take]
      rw [ecut]
      have s4 : Same H3 (upd H3 p (.lst ((os.take i).map V.int))) := Same.upd hp
      have q4 : (upd H3 p (.lst ((os.take i).map V.int))) p = some (.lst ((os.take i).map V.int)) := upd_same
      generalize upd H3 p (.lst ((os.take i).map V.int)) = H4 at s4 q4 ⊢
      have s5 := s3.trans s4
      refine ⟨p, rfl, ⟨_, SqL.of q4⟩, lc_list (xs := (os.take i).map V.int) (fun _ => true) (fun v => match v with | .int f => .bl (decide ((clAt cs (os.getD i 0)).e < (clAt cs f).b)) | v => v) (SqL.of q4) (by rw [List.length_map, List.length_take]; omega) ?_ ?_ ?_⟩
      · intro x hx D ys R hD hR
        exact hR
      · intro x hx _ D ys R hD hR
        obtain ⟨f, hf, rfl⟩ := List.mem_map.mp hx
        have hff := hin f (List.mem_of_mem_take hf)
        have s6 := s5.trans (Same.upd (o := .lst ys) hD)
        obtain ⟨u, hu, hcu, hou⟩ := (hC.keep s6).num hii.1 hii.2
        obtain ⟨u', hu', hcu', hou'⟩ := (hC.keep s6).num hff.1 hff.2
        exact ⟨_, rfl, _, rfl, l, _, _, _, rfl, rfl, s6.seq hS, hu, _, rfl, _, rfl, l, _, _, _, rfl, rfl, s6.seq hS, hu', _, _, _, _, rfl, hcu, hou.1, hcu', hou'.1, hR⟩
      intro D hD
      have emap : (((os.take i).map V.int).filter fun _ => true).map (fun v => match v with | .int f => V.bl (decide ((clAt cs (os.getD i 0)).e < (clAt cs f).b)) | v => v) = ((os.take i).map fun f => decide ((clAt cs (os.getD i 0)).e < (clAt cs f).b)).map V.bl := by
        rw [List.filter_eq_self.mpr fun _ _ => rfl, List.map_map, List.map_map]; rfl
      rw [emap]
      refine ⟨D, _, rfl, SqL.of upd_same, _, rfl, ?_⟩
      have eany : ((os.take i).map fun f => decide ((clAt cs (os.getD i 0)).e < (clAt cs f).b)).any id = (os.take i).any fun f => decide ((clAt cs (os.getD i 0)).e < (clAt cs f).b) := by rw [List.any_map]; rfl
      rw [eany]
      have s6 := s5.trans (Same.upd (o := .lst (((os.take i).map fun f => decide ((clAt cs (os.getD i 0)).e < (clAt cs f).b)).map V.bl)) hD)
      cases eb : ((os.take i).any fun f => decide ((clAt cs (os.getD i 0)).e < (clAt cs f).b)) with
      | true =>
        refine iteT ?_
        have ef : timeB cs os = false := by
          unfold timeB
          rw [List.all_eq_false]
          exact ⟨i, List.mem_range.mpr hil, by rw [eb]; decide⟩
        have := k _ s6
        rw [ef] at this
        exact this
      | false =>
        refine iteF ⟨_, _, rfl, s6, fun j hj => ?_⟩
        rcases Nat.lt_succ_iff_lt_or_eq.mp hj with h | rfl
        · exact hok j h
        · exact eb
    · rintro σ H2 ⟨v2, v3, rfl, s1, hok⟩
      rw [List.length_map] at hok
      have et : timeB cs os = true := by
        unfold timeB
        rw [List.all_eq_true]
        intro i hi
        rw [hok i (List.mem_range.mp hi)]; rfl
      have := k _ s1
      rw [et] at this
      exact this
--@split
/-- where the deeds lie -/
theorem Calls.refs {K : PySem.W.Frag} {H : Hp} {k : Str} {vs : List V} {cs : List Cl} (h : Calls K H k vs cs) : ∃ qf : Nat → Addr, ∀ (i : Nat) (v : V) (c : Cl), vs[i]? = some v → cs[i]? = some c → ∃ t, v = .ref t ∧ SqT K H t [.int c.b, .int c.e, .ref (qf i), aV c.a] ∧ DeedT K H (qf i) c.d.1 c.d.2 := by
  have hx : ∀ i : Nat, ∃ q : Addr, ∀ (v : V) (c : Cl), vs[i]? = some v → cs[i]? = some c → ∃ t, v = .ref t ∧ SqT K H t [.int c.b, .int c.e, .ref q, aV c.a] ∧ DeedT K H q c.d.1 c.d.2 := fun i => by
    cases e : vs[i]? with
    | none => exact ⟨0, fun v c z => nomatch z⟩
    | some v =>
      obtain ⟨c, h1, ⟨t, q, h2, h3, h4⟩, _⟩ := h.at_ i v e
      refine ⟨q, fun v' c' hv hc => ?_⟩
      cases hv
      rw [h1] at hc
      cases hc
      exact ⟨t, h2, h3, h4⟩
  exact ⟨fun i => Classical.choose (hx i), fun i => Classical.choose_spec (hx i)⟩
theorem Calls.numQ {K : PySem.W.Frag} {H : Hp} {k : Str} {vs : List V} {cs : List Cl} (h : Calls K H k vs cs) {qf : Nat → Addr} (hq : ∀ (i : Nat) (v : V) (c : Cl), vs[i]? = some v → cs[i]? = some c → ∃ t, v = .ref t ∧ SqT K H t [.int c.b, .int c.e, .ref (qf i), aV c.a] ∧ DeedT K H (qf i) c.d.1 c.d.2)
    {i : Int} (h0 : 0 ≤ i) (h1 : i < cs.length) : ∃ t, atI vs i = some (.ref t) ∧ SqT K H t [.int (clAt cs i).b, .int (clAt cs i).e, .ref (qf i.toNat), aV (clAt cs i).a] ∧ DeedT K H (qf i.toNat) (clAt cs i).d.1 (clAt cs i).d.2 ∧ Ok k (clAt cs i) := by
  obtain ⟨v, hv, hv'⟩ := atI_in (xs := vs) h0 (by rw [h.len]; exact h1)
  obtain ⟨c, h2, h3, h4⟩ := h.at_ _ v hv'
  have e : clAt cs i = c := by unfold clAt; rw [List.getD_eq_getElem?_getD, h2]; rfl
  obtain ⟨t, rfl, h5, h6⟩ := hq _ v c hv' h2
  rw [e]
  exact ⟨t, hv, h5, h6, h4⟩
theorem ok_gives_the_answers (F : Fun K "gives_the_answers" "gives_the_answers" s_gives_the_answers f fd) (B : Bl mg) (g_answers : FnX P w K mg base "answers" 5 (spAns K)) : FnOk P w K mg base CX0 6 f fd ["kind", "calls", "order"] (spGive K) := by
  refine F.ok sc_gives_the_answers (fun vs H Q E h => ?_) (fun cdv A outer s H vs Q E hr h => ?_)
  · obtain ⟨k, l, o, xs, cs, os, rfl, _⟩ := h; rfl
  · obtain ⟨kd, l, o, xs, cs, os, rfl, hk, hS, hC, hO, h64, hin, k⟩ := h
    have hsz : sizeLine = 16777216 := sizeLine_eq
    obtain ⟨qf, hqf⟩ := hC.refs
    refine ⟨_, (pss_one (ps_ret (pe_cmpR (op_eqD hr.units) (pe_fnX g_answers passN hr rfl (pa_cons (pv 0) (pa_cons (pe_lc (cn_of (sc := defScope s_gives_the_answers) (N0 := nm_gives_the_answers) (ns := ["calls"]) (idx := [1]) (by decide +kernel)) rfl (pi_list (pv 2)) (fun _ _ _ _ => pif_nil) (fun _ _ _ _ => (pe_ix (ix_tupK K) (pe_ix (ix_listK K) (pv 1) (pv 0) (fun _ _ => rfl)) pe_int (fun _ _ => rfl)))) pa_nil))) (pe_lc (cn_of (sc := defScope s_gives_the_answers) (N0 := nm_gives_the_answers) (ns := ["calls"]) (idx := [1]) (by decide +kernel)) rfl (pi_list (pv 2)) (fun _ _ _ _ => pif_nil) (fun _ _ _ _ => (pe_ix (ix_tupK K) (pe_ix (ix_listK K) (pv 1) (pv 0) (fun _ _ => rfl)) pe_int (fun _ _ => rfl)))) (nomark _)))), ?_⟩
    refine ⟨_, rfl, _, rfl, o, rfl, ⟨_, hO⟩, lc_list (xs := os.map V.int) (fun _ => true) (fun v => match v with | .int i => .ref (qf i.toNat) | v => v) hO (by rw [List.length_map]; omega) ?_ ?_ ?_⟩
    · intro x hx D ys R hD hR
      exact hR
    · intro x hx _ D ys R hD hR
      obtain ⟨i, hi, rfl⟩ := List.mem_map.mp hx
      have hii := hin i hi
      have s1 : Same H (upd H D (.lst ys)) := Same.upd hD
      obtain ⟨t, ht, h1, _⟩ := hC.numQ hqf hii.1 hii.2
      exact ⟨_, rfl, _, rfl, l, _, _, _, rfl, rfl, s1.seq hS, ht, t, _, 2, _, rfl, rfl, Same.tup s1 h1, at2, hR⟩
    intro D hD
    have e1 : ((os.map V.int).filter fun _ => true).map (fun v => match v with | .int i => V.ref (qf i.toNat) | v => v) = os.map fun i => V.ref (qf i.toNat) := by
      rw [List.filter_eq_self.mpr fun _ _ => rfl, List.map_map]; rfl
    rw [e1]
    have s1 : Same H (upd H D (.lst (os.map fun i => V.ref (qf i.toNat)))) := Same.upd hD
    have q1 : (upd H D (.lst (os.map fun i => V.ref (qf i.toNat)))) D = some (.lst (os.map fun i => V.ref (qf i.toNat))) := upd_same
    generalize upd H D (.lst (os.map fun i => V.ref (qf i.toNat))) = H1 at s1 q1 ⊢
    have hD1 : Deeds K H1 kd (os.map fun i => V.ref (qf i.toNat)) (os.map fun i => (clAt cs i).d) := by
      refine ⟨by simp, fun i v e => ?_⟩
      rw [List.getElem?_map] at e
      obtain ⟨z, hz, rfl⟩ := Option.map_eq_some_iff.mp e
      have hzz := hin z (List.mem_of_getElem? hz)
      obtain ⟨t, _, _, h3, h4⟩ := hC.numQ hqf hzz.1 hzz.2
      exact ⟨_, _, rfl, by rw [List.getElem?_map, hz]; rfl, Same.tup s1 h3, h4.2.1, h4.2.2⟩
    refine ⟨kd, D, _, _, rfl, hk, SqL.of q1, hD1, by rw [List.length_map]; omega, fun H2 g s2 hg => ?_⟩
    have s3 := s1.trans s2
    refine ⟨_, rfl, o, rfl, ⟨_, s3.seq hO⟩, lc_list (xs := os.map V.int) (fun _ => true) (fun v => match v with | .int i => aV (clAt cs i).a | v => v) (s3.seq hO) (by rw [List.length_map]; omega) ?_ ?_ ?_⟩
    · intro x hx D ys R hD hR
      exact hR
    · intro x hx _ D ys R hD hR
      obtain ⟨i, hi, rfl⟩ := List.mem_map.mp hx
      have hii := hin i hi
      have s4 : Same H (upd H2 D (.lst ys)) := s3.trans (Same.upd hD)
      obtain ⟨t, ht, h1, _⟩ := hC.numQ hqf hii.1 hii.2
      exact ⟨_, rfl, _, rfl, l, _, _, _, rfl, rfl, s4.seq hS, ht, t, _, 3, _, rfl, rfl, Same.tup s4 h1, at3, hR⟩
    intro D2 hD2
    have e2 : ((os.map V.int).filter fun _ => true).map (fun v => match v with | .int i => aV (clAt cs i).a | v => v) = (os.map fun i => (clAt cs i).a).map aV := by
      rw [List.filter_eq_self.mpr fun _ _ => rfl, List.map_map, List.map_map]; rfl
    rw [e2]
    have s5 := s3.trans (Same.upd (o := .lst ((os.map fun i => (clAt cs i).a).map aV)) hD2)
    refine ⟨_, _, is_opts (SqL.of (Same.upd hD2 _ _ hg)), is_opts (SqL.of upd_same), cmp_opts _, cmp_opts _, ?_⟩
    rw [same_opts]
    exact k _ s5
theorem each_in {n : Nat} {os : List Int} (h : eachB n os = true) : ∀ i : Int, i ∈ os → 0 ≤ i ∧ i < n := fun i hi => mem_iota.mp ((List.isPerm_iff.mp h).mem_iff.mp hi)
theorem ok_is_order (F : Fun K "is_order" "is_order" s_is_order f fd) (B : Bl mg) (g_check_calls : FnX P w K mg base "check_calls" 5 (spCC K)) (g_gives_the_answers : FnX P w K mg base "gives_the_answers" 6 (spGive K)) (g_has_each_once : FnX P w K mg base "has_each_once" 1 (spOnce K)) (g_keeps_time : FnX P w K mg base "keeps_time" 3 (spTime K)) :
    FnOk P w K mg base CX0 7 f fd ["kind", "calls", "order"] (spIs K) := by
  refine F.ok sc_is_order (fun vs H Q E h => ?_) (fun cdv A outer s H vs Q E hr h => ?_)
  · obtain ⟨k, l, o, xs, cs, os, rfl, _⟩ := h; rfl
  · obtain ⟨kd, l, o, xs, cs, os, rfl, hk, hS, hC, hO, h64, hx, k⟩ := h
    refine ⟨_, (pss_cons (ps_expr (pe_fnX g_check_calls passN hr rfl (pa_cons (pv 0) (pa_cons (pv 1) pa_nil))))
    (pss_one (ps_ret (pe_and (pe_fnX g_has_each_once passN hr rfl (pa_cons (pv 1) (pa_cons (pv 2) pa_nil))) (pe_and (pe_fnX g_keeps_time passN hr rfl (pa_cons (pv 1) (pa_cons (pv 2) pa_nil))) (pe_one (pe_fnX g_gives_the_answers passN hr rfl (pa_cons (pv 0) (pa_cons (pv 1) (pa_cons (pv 2) pa_nil)))))))))), ?_⟩
    refine ⟨_, rfl, _, rfl, kd, l, xs, cs, rfl, hk, hS, hC, fun H1 s1 => ?_⟩
    refine ⟨_, rfl, _, rfl, l, o, xs, os, rfl, s1.seq hS, s1.seq hO, h64, hx, fun H2 s2 => ⟨_, rfl, ?_⟩⟩
    have s12 := s1.trans s2
    rw [hC.len]
    cases e1 : eachB cs.length os with
    | false =>
      have := k _ s12
      rw [e1] at this
      exact iteF this
    | true =>
      have hin := each_in e1
      refine iteT ⟨_, rfl, _, rfl, l, o, kd, xs, cs, os, rfl, s12.seq hS, hC.keep s12, s12.seq hO, h64, hin, fun H3 s3 => ⟨_, rfl, ?_⟩⟩
      have s13 := s12.trans s3
      cases e2 : timeB cs os with
      | false =>
        have := k _ s13
        rw [e1, e2] at this
        exact iteF this
      | true =>
        refine iteT ⟨_, rfl, _, rfl, _, rfl, kd, l, o, xs, cs, os, rfl, hk, s13.seq hS, hC.keep s13, s13.seq hO, h64, hin, fun H4 s4 => ?_⟩
        have := k _ (s13.trans s4)
        rw [e1, e2] at this
        exact this
--@split
/-! ### the drawn calls -/
theorem sh_w : ∀ wd ∈ (["put", "take", "look", "set", "add"] : List Str), Sh wd := by unfold Sh; decide +kernel
def spDeedOf (K : PySem.W.Frag) : Sp := fun vs H Q _ => ∃ z k, vs = [.int z, .str k, .str "a"] ∧ (k = "row" ∨ k = "number") ∧
  ∀ H' a d, Same H H' → DeedT K H' a d.1 d.2 → Good k d → Sh d.1 → Q (.ref a) H'
theorem ok__law_deed_of (F : Fun K "_law_deed_of" "_law_deed_of" s__law_deed_of f fd) (B : Bl mg) : FnOk P w K mg base CX0 1 f fd ["_law_cell", "_law_kind", "_law_thing"] (spDeedOf K) := by
  refine F.ok sc__law_deed_of (fun vs H Q E h => ?_) (fun cdv A outer s H vs Q E hr h => ?_)
  · obtain ⟨z, k, rfl, _⟩ := h; rfl
  · obtain ⟨z, kd, rfl, hk, k⟩ := h
    refine ⟨_, (pss_cons (ps_set (i := 3) sc__law_deed_of.nd rfl (by first | exact Or.inl rfl | exact Or.inr rfl) (pe_op op_mod (pv 0) (pe_callTy call_intS rfl B.int_ PyProof.Rows.boot_int (pa_cons (pe_op op_add_str pe_str (pe_op op_mulS pe_str pe_int)) pa_nil))))
    (pss_cons (ps_set (i := 4) sc__law_deed_of.nd rfl (by first | exact Or.inl rfl | exact Or.inr rfl) (pe_lst (pa_cons (pe_op op_sub (pe_op op_mod (pe_op op_mod (pe_op op_mul (pv 0) pe_int) pe_int) pe_int) pe_int) (pa_cons (pe_op op_sub (pe_op op_mod (pe_op op_mod (pe_op op_mul (pv 0) pe_int) pe_int) pe_int) pe_int) (pa_cons (pv 3) pa_nil)))))
    (pss_cons (ps_set (i := 5) sc__law_deed_of.nd rfl (by first | exact Or.inl rfl | exact Or.inr rfl) (pe_ix ix_list (pv 4) (pe_op op_mod (pe_op op_mod (pe_op op_mul (pv 0) pe_int) pe_int) pe_int) (fun _ _ => rfl)))
    (pss_cons (ps_if (pt_cmpR op_eq (pv 1) pe_str (nomark _))
    (pss_one (ps_set (i := 6) sc__law_deed_of.nd rfl (by first | exact Or.inl rfl | exact Or.inr rfl) (pe_ix ix_list (pe_lst (pa_cons pe_str (pa_cons pe_str (pa_cons pe_str (pa_cons pe_str (pa_cons pe_str pa_nil)))))) (pe_op op_mod (pe_op op_mod (pe_op op_mul (pv 0) pe_int) pe_int) pe_int) (fun _ _ => rfl)))) (pss_one (ps_set (i := 6) sc__law_deed_of.nd rfl (by first | exact Or.inl rfl | exact Or.inr rfl) (pe_ix ix_list (pe_lst (pa_cons pe_str (pa_cons pe_str (pa_cons pe_str (pa_cons pe_str pa_nil))))) (pe_op op_mod (pe_op op_mod (pe_op op_mul (pv 0) pe_int) pe_int) pe_int) (fun _ _ => rfl)))))
    (pss_cons (ps_if (pt_cmpR op_in_seq (pv 6) (pe_lst (pa_cons pe_str (pa_cons pe_str pa_nil))) rfl)
    (pss_one (ps_ret (pe_tup (pa_cons (pv 6) (pa_cons (pv 2) pa_nil))))) pss_nil)
    (pss_one (ps_ret (pe_tup (pa_cons (pv 6) (pa_cons (pv 2) (pa_cons (pv 5) pa_nil))))))))))), ?_⟩
    refine ⟨_, rfl, _, _, rfl, rfl, by decide, by decide, by decide +kernel, by decide +kernel, _, _, rfl, rfl, by decide +kernel, _, (10 ^ 30 : Int), rfl, by decide +kernel, by decide +kernel, _, _, rfl, rfl, (by show (0 : Int) < _; decide), ?_⟩
    refine ⟨_, rfl, _, _, rfl, rfl, .inr ⟨by decide, by decide⟩, _, _, rfl, rfl, (by show (0 : Int) < _; omega), _, _, rfl, rfl, (by show (0 : Int) < _; omega), _, _, rfl, rfl, _, rfl, _, _, rfl, rfl, .inr ⟨by decide, by decide⟩, _, _, rfl, rfl, (by show (0 : Int) < _; omega), _, _, rfl, rfl, (by show (0 : Int) < _; omega), _, _, rfl, rfl, _, rfl, Nat.le_of_ble_eq_true rfl, fun p hp => ?_⟩
    have s1 : Same H (upd H p (.lst [.int (z * 48271 % 1009 % 4 - 1), .int (z * 48271 % 1009 % 4 - 1), .int (z % 10 ^ 30)])) := Same.upd hp
    have hp1 : (upd H p (.lst [.int (z * 48271 % 1009 % 4 - 1), .int (z * 48271 % 1009 % 4 - 1), .int (z % 10 ^ 30)])) p = some (.lst [.int (z * 48271 % 1009 % 4 - 1), .int (z * 48271 % 1009 % 4 - 1), .int (z % 10 ^ 30)]) := upd_same
    generalize upd H p (.lst [.int (z * 48271 % 1009 % 4 - 1), .int (z * 48271 % 1009 % 4 - 1), .int (z % 10 ^ 30)]) = H1 at s1 hp1 ⊢
    obtain ⟨v, hv⟩ : ∃ i : Int, atI [V.int (z * 48271 % 1009 % 4 - 1), .int (z * 48271 % 1009 % 4 - 1), .int (z % 10 ^ 30)] (z * 48271 % 1013 % 3) = some (.int i) := by
      have : z * 48271 % 1013 % 3 = 0 ∨ z * 48271 % 1013 % 3 = 1 ∨ z * 48271 % 1013 % 3 = 2 := by omega
      rcases this with e | e | e <;> rw [e]
      · exact ⟨_, at0⟩
      · exact ⟨_, at1⟩
      · exact ⟨_, at2⟩
    refine ⟨_, rfl, _, rfl, _, _, rfl, rfl, .inr ⟨by decide, by decide⟩, _, _, rfl, rfl, (by show (0 : Int) < _; omega), _, _, rfl, rfl, (by show (0 : Int) < _; omega), p, _, _, _, rfl, rfl, SqL.of hp1, hv, ?_⟩
    have done : ∀ (wd : Str) (H4 : Hp) (dv : Option Int), Same H H4 → Good kd (wd, dv) → Sh wd → ∀ p5, H4 p5 = none → Q (.ref p5) (upd H4 p5 (.tup (.str wd :: .str "a" :: (dv.map V.int).toList))) := fun wd H4 dv s4 hG hSh p5 hp5 =>
      k _ p5 (wd, dv) (s4.trans (Same.upd hp5)) (SqT.of upd_same) hG hSh
    rcases hk with rfl | rfl
    · refine ⟨_, rfl, rfl, _, rfl, iteT ?_⟩
      refine ⟨Nat.le_of_ble_eq_true rfl, fun p2 hp2 => ?_⟩
      have s2 : Same H1 (upd H1 p2 (.lst [.str "put", .str "put", .str "take", .str "take", .str "look"])) := Same.upd hp2
      have hp3 : (upd H1 p2 (.lst [.str "put", .str "put", .str "take", .str "take", .str "look"])) p2 = some (.lst [.str "put", .str "put", .str "take", .str "take", .str "look"]) := upd_same
      generalize upd H1 p2 (.lst [.str "put", .str "put", .str "take", .str "take", .str "look"]) = H2 at s2 hp3 ⊢
      have s02 := s1.trans s2
      have i5 : z * 48271 % 1019 % 5 = 0 ∨ z * 48271 % 1019 % 5 = 1 ∨ z * 48271 % 1019 % 5 = 2 ∨ z * 48271 % 1019 % 5 = 3 ∨ z * 48271 % 1019 % 5 = 4 := by omega
      refine ⟨_, rfl, _, _, rfl, rfl, .inr ⟨by decide, by decide⟩, _, _, rfl, rfl, (by show (0 : Int) < _; omega), _, _, rfl, rfl, (by show (0 : Int) < _; omega), ?_⟩
      rcases i5 with e | e | e | e | e
      · refine ⟨p2, _, _, .str "put", rfl, rfl, SqL.of hp3, (by show atI _ (z * 48271 % 1019 % 5) = _; rw [e]; exact at0), ?_⟩
        refine ⟨_, rfl, Nat.le_of_ble_eq_true rfl, fun p4 hp4 => ⟨p4, _, rfl, .inl (SqL.of upd_same), rfl, rfl, _, rfl, iteF ?_⟩⟩
        exact ⟨_, rfl, _, rfl, _, rfl, Nat.le_of_ble_eq_true rfl, done "put" _ (some v) (s02.trans (Same.upd hp4)) rfl (sh_w _ (by decide))⟩
      · refine ⟨p2, _, _, .str "put", rfl, rfl, SqL.of hp3, (by show atI _ (z * 48271 % 1019 % 5) = _; rw [e]; exact at1), ?_⟩
        refine ⟨_, rfl, Nat.le_of_ble_eq_true rfl, fun p4 hp4 => ⟨p4, _, rfl, .inl (SqL.of upd_same), rfl, rfl, _, rfl, iteF ?_⟩⟩
        exact ⟨_, rfl, _, rfl, _, rfl, Nat.le_of_ble_eq_true rfl, done "put" _ (some v) (s02.trans (Same.upd hp4)) rfl (sh_w _ (by decide))⟩
      · refine ⟨p2, _, _, .str "take", rfl, rfl, SqL.of hp3, (by show atI _ (z * 48271 % 1019 % 5) = _; rw [e]; exact at2), ?_⟩
        refine ⟨_, rfl, Nat.le_of_ble_eq_true rfl, fun p4 hp4 => ⟨p4, _, rfl, .inl (SqL.of upd_same), rfl, rfl, _, rfl, iteT ?_⟩⟩
        exact ⟨_, rfl, _, rfl, Nat.le_of_ble_eq_true rfl, done "take" _ none (s02.trans (Same.upd hp4)) rfl (sh_w _ (by decide))⟩
      · refine ⟨p2, _, _, .str "take", rfl, rfl, SqL.of hp3, (by show atI _ (z * 48271 % 1019 % 5) = _; rw [e]; exact at3), ?_⟩
        refine ⟨_, rfl, Nat.le_of_ble_eq_true rfl, fun p4 hp4 => ⟨p4, _, rfl, .inl (SqL.of upd_same), rfl, rfl, _, rfl, iteT ?_⟩⟩
        exact ⟨_, rfl, _, rfl, Nat.le_of_ble_eq_true rfl, done "take" _ none (s02.trans (Same.upd hp4)) rfl (sh_w _ (by decide))⟩
      · refine ⟨p2, _, _, .str "look", rfl, rfl, SqL.of hp3, (by show atI _ (z * 48271 % 1019 % 5) = _; rw [e]; exact atI_nat (j := 4) rfl), ?_⟩
        refine ⟨_, rfl, Nat.le_of_ble_eq_true rfl, fun p4 hp4 => ⟨p4, _, rfl, .inl (SqL.of upd_same), rfl, rfl, _, rfl, iteT ?_⟩⟩
        exact ⟨_, rfl, _, rfl, Nat.le_of_ble_eq_true rfl, done "look" _ none (s02.trans (Same.upd hp4)) rfl (sh_w _ (by decide))⟩
    · refine ⟨_, rfl, rfl, _, rfl, iteF ?_⟩
      refine ⟨Nat.le_of_ble_eq_true rfl, fun p2 hp2 => ?_⟩
      have s2 : Same H1 (upd H1 p2 (.lst [.str "set", .str "add", .str "add", .str "look"])) := Same.upd hp2
      have hp3 : (upd H1 p2 (.lst [.str "set", .str "add", .str "add", .str "look"])) p2 = some (.lst [.str "set", .str "add", .str "add", .str "look"]) := upd_same
      generalize upd H1 p2 (.lst [.str "set", .str "add", .str "add", .str "look"]) = H2 at s2 hp3 ⊢
      have s02 := s1.trans s2
      have i4 : z * 48271 % 1021 % 4 = 0 ∨ z * 48271 % 1021 % 4 = 1 ∨ z * 48271 % 1021 % 4 = 2 ∨ z * 48271 % 1021 % 4 = 3 := by omega
      refine ⟨_, rfl, _, _, rfl, rfl, .inr ⟨by decide, by decide⟩, _, _, rfl, rfl, (by show (0 : Int) < _; omega), _, _, rfl, rfl, (by show (0 : Int) < _; omega), ?_⟩
      rcases i4 with e | e | e | e
      · refine ⟨p2, _, _, .str "set", rfl, rfl, SqL.of hp3, (by show atI _ (z * 48271 % 1021 % 4) = _; rw [e]; exact at0), ?_⟩
        refine ⟨_, rfl, Nat.le_of_ble_eq_true rfl, fun p4 hp4 => ⟨p4, _, rfl, .inl (SqL.of upd_same), rfl, rfl, _, rfl, iteF ?_⟩⟩
        exact ⟨_, rfl, _, rfl, _, rfl, Nat.le_of_ble_eq_true rfl, done "set" _ (some v) (s02.trans (Same.upd hp4)) rfl (sh_w _ (by decide))⟩
      · refine ⟨p2, _, _, .str "add", rfl, rfl, SqL.of hp3, (by show atI _ (z * 48271 % 1021 % 4) = _; rw [e]; exact at1), ?_⟩
        refine ⟨_, rfl, Nat.le_of_ble_eq_true rfl, fun p4 hp4 => ⟨p4, _, rfl, .inl (SqL.of upd_same), rfl, rfl, _, rfl, iteF ?_⟩⟩
        exact ⟨_, rfl, _, rfl, _, rfl, Nat.le_of_ble_eq_true rfl, done "add" _ (some v) (s02.trans (Same.upd hp4)) rfl (sh_w _ (by decide))⟩
      · refine ⟨p2, _, _, .str "add", rfl, rfl, SqL.of hp3, (by show atI _ (z * 48271 % 1021 % 4) = _; rw [e]; exact at2), ?_⟩
        refine ⟨_, rfl, Nat.le_of_ble_eq_true rfl, fun p4 hp4 => ⟨p4, _, rfl, .inl (SqL.of upd_same), rfl, rfl, _, rfl, iteF ?_⟩⟩
        exact ⟨_, rfl, _, rfl, _, rfl, Nat.le_of_ble_eq_true rfl, done "add" _ (some v) (s02.trans (Same.upd hp4)) rfl (sh_w _ (by decide))⟩
      · refine ⟨p2, _, _, .str "look", rfl, rfl, SqL.of hp3, (by show atI _ (z * 48271 % 1021 % 4) = _; rw [e]; exact at3), ?_⟩
        refine ⟨_, rfl, Nat.le_of_ble_eq_true rfl, fun p4 hp4 => ⟨p4, _, rfl, .inl (SqL.of upd_same), rfl, rfl, _, rfl, iteT ?_⟩⟩
        exact ⟨_, rfl, _, rfl, Nat.le_of_ble_eq_true rfl, done "look" _ none (s02.trans (Same.upd hp4)) rfl (sh_w _ (by decide))⟩
def spKept (K : PySem.W.Frag) : Sp := fun vs H Q _ => ∃ (l : Addr) (ns : List Int) (k : Str) (wd : Int), vs = [.ref l, .str k, .str "a", .int wd] ∧ SqL K H l (ns.map V.int) ∧ ns.length ≤ 63 ∧ (k = "row" ∨ k = "number") ∧ 0 < wd ∧
  ∀ (H' : Hp) (g : Addr) (vs : List V) (cs : List Cl), Same H H' → H' g = some (.lst vs) → Calls K H' k vs cs → vs.length = ns.length → Q (.ref g) H'
theorem ok__law_kept (F : Fun K "_law_kept" "_law_kept" s__law_kept f fd) (B : Bl mg) (g__law_deed_of : FnX P w K mg base "_law_deed_of" 1 (spDeedOf K)) (g__law_done : FnX P w K mg base "_law_done" 1 (spDone K)) :
    FnOk P w K mg base CX0 2 f fd ["_law_cells", "_law_kind", "_law_thing", "_law_wide"] (spKept K) := by
  refine F.ok sc__law_kept (fun vs H Q E h => ?_) (fun cdv A outer s H vs Q E hr h => ?_)
  · obtain ⟨l, ns, k, wd, rfl, _⟩ := h; rfl
  · obtain ⟨l, ns, kd, wd, rfl, hS, hlen, hk, hwd, k⟩ := h
    have hsz : sizeLine = 16777216 := sizeLine_eq
    refine ⟨_, (pss_cons (ps_set (i := 4) sc__law_kept.nd rfl (by first | exact Or.inl rfl | exact Or.inr rfl) (pe_lst pa_nil))
    (pss_cons (ps_set (i := 5) sc__law_kept.nd rfl (by first | exact Or.inl rfl | exact Or.inr rfl) (pe_ix ix_list (pe_lst (pa_cons pe_int (pa_cons (pe_lst pa_nil) pa_nil))) (pe_callTy call_int1 rfl B.int_ PyProof.Rows.boot_int (pa_cons (pe_cmpR op_eq (pv 1) pe_str (nomark _)) pa_nil)) (fun _ _ => rfl)))
    (pss_cons (ps_for PassesOwn.never rfl (pi_range1 rfl B.range_ (pa_cons (pe_callB call_len_seq rfl B.len_ PySem.boot_len (pa_cons (pv 0) pa_nil)) pa_nil)) (pg_name (i := 6) sc__law_kept.nd rfl (by first | exact Or.inl rfl | exact Or.inr rfl))
    (pss_cons (ps_set (i := 7) sc__law_kept.nd rfl (by first | exact Or.inl rfl | exact Or.inr rfl) (pe_op op_add (pe_ix ix_list (pv 0) (pv 6) (fun _ _ => rfl)) (pe_op op_mul pe_int (pv 6))))
    (pss_cons (ps_set (i := 8) sc__law_kept.nd rfl (by first | exact Or.inl rfl | exact Or.inr rfl) (pe_op op_sub (pe_op op_sub (pe_op op_mul pe_int (pv 6)) pe_int) (pe_op op_mod (pe_op op_mod (pe_op op_mul (pv 7) pe_int) pe_int) (pv 3))))
    (pss_cons (ps_set (i := 9) sc__law_kept.nd rfl (by first | exact Or.inl rfl | exact Or.inr rfl) (pe_op op_add (pe_op op_add (pe_op op_mul pe_int (pv 6)) pe_int) (pe_op op_mod (pe_op op_mod (pe_op op_mul (pv 7) pe_int) pe_int) (pv 3))))
    (pss_cons (ps_set (i := 10) sc__law_kept.nd rfl (by first | exact Or.inl rfl | exact Or.inr rfl) (pe_fnX g__law_deed_of passN hr rfl (pa_cons (pv 7) (pa_cons (pv 1) (pa_cons (pv 2) pa_nil)))))
    (pss_cons (ps_asg (pe_fnX g__law_done passN hr rfl (pa_cons (pv 1) (pa_cons (pv 5) (pa_cons (pv 10) pa_nil)))) (pg_tup rfl (pgs_cons (pg_name (i := 5) sc__law_kept.nd rfl (by first | exact Or.inl rfl | exact Or.inr rfl)) (pgs_cons (pg_name (i := 11) sc__law_kept.nd rfl (by first | exact Or.inl rfl | exact Or.inr rfl)) pgs_nil))))
    (pss_one (ps_expr (pe_bm PySem.F.plainAttrs_list PySem.F.slot_list_append PySem.F.type_list_append mt_append (pv 4) (pa_cons (pe_tup (pa_cons (pv 8) (pa_cons (pv 9) (pa_cons (pv 10) (pa_cons (pv 11) pa_nil))))) pa_nil))))))))))
    (pss_cons (ps_set (i := 12) sc__law_kept.nd rfl (by first | exact Or.inl rfl | exact Or.inr rfl) (pe_lst pa_nil))
    (pss_cons (ps_for PassesOwn.never rfl (pi_range1 rfl B.range_ (pa_cons (pe_callB call_len_seq rfl B.len_ PySem.boot_len (pa_cons (pv 4) pa_nil)) pa_nil)) (pg_name (i := 6) sc__law_kept.nd rfl (by first | exact Or.inl rfl | exact Or.inr rfl))
    (pss_cons (ps_set (i := 13) sc__law_kept.nd rfl (by first | exact Or.inl rfl | exact Or.inr rfl) (pe_op op_mod (pe_op op_mod (pe_op op_mul (pe_op op_add (pe_ix ix_list (pv 0) (pv 6) (fun _ _ => rfl)) (pe_op op_mul pe_int (pv 6))) pe_int) pe_int) (pe_op op_add (pe_callB call_len_seq rfl B.len_ PySem.boot_len (pa_cons (pv 12) pa_nil)) pe_int)))
    (pss_one (ps_expr (pe_bm PySem.F.plainAttrs_list PySem.F.slot_list_insert PySem.F.type_list_insert mt_insert (pv 12) (pa_cons (pv 13) (pa_cons (pe_ix ix_list (pv 4) (pv 6) (fun _ _ => rfl)) pa_nil)))))))
    (pss_one (ps_ret (pv 12)))))))), ?_⟩
    -- calls, state
    refine ⟨Nat.le_of_ble_eq_true rfl, fun c hc => ?_⟩
    refine ⟨Nat.le_of_ble_eq_true rfl, fun e he => ⟨Nat.le_of_ble_eq_true rfl, fun q hq => ?_⟩⟩
    have s1 : Same H (upd (upd (upd H c (.lst [])) e (.lst [])) q (.lst [.int 0, .ref e])) := ((Same.upd hc).trans (Same.upd he)).trans (Same.upd hq)
    have hc1 : (upd (upd (upd H c (.lst [])) e (.lst [])) q (.lst [.int 0, .ref e])) c = some (.lst []) := Same.upd hq _ _ (Same.upd he _ _ upd_same)
    have he1 : (upd (upd (upd H c (.lst [])) e (.lst [])) q (.lst [.int 0, .ref e])) e = some (.lst (([] : List Int).map V.int)) := Same.upd hq _ _ upd_same
    have hq1 : (upd (upd (upd H c (.lst [])) e (.lst [])) q (.lst [.int 0, .ref e])) q = some (.lst [.int 0, .ref e]) := upd_same
    have hec : e ≠ c := fun z => by rw [z, upd_same] at he; cases he
    generalize upd (upd (upd H c (.lst [])) e (.lst [])) q (.lst [.int 0, .ref e]) = H1 at s1 hc1 he1 hq1 ⊢
    obtain ⟨x0, hx0, hT0, hx0c⟩ : ∃ x0, atI [V.int 0, .ref e] (if decide (V.str kd = V.str "row") = true then 1 else 0) = some x0 ∧ LThing K H1 kd x0 (t0 kd) ∧ x0 ≠ .ref c := by
      rcases hk with rfl | rfl
      · exact ⟨_, at1, .row he1, fun z => hec (V.ref.inj z)⟩
      · exact ⟨_, at0, .num, fun z => nomatch z⟩
    refine ⟨_, rfl, rfl, .inr ⟨_, rfl, q, _, _, _, rfl, rfl, SqL.of hq1, hx0, ?_⟩⟩
    refine ⟨_, rfl, l, _, rfl, .inl (s1.seq hS), (ns.length : Int), by rw [List.length_map], by omega, by omega, for_range (lo := 0) (fun i σ H2 => ∃ x v6 v7 v8 v9 v10 v11 t vs cs, σ = [some (.ref l), some (.str kd), some (.str "a"), some (.int wd), some (.ref c), some x, v6, v7, v8, v9, v10, v11, none, none] ∧
      LThing K H2 kd x t ∧ sizeT t ≤ i ∧ x ≠ .ref c ∧ Same H H2 ∧ H2 c = some (.lst vs) ∧ Calls K H2 kd vs cs ∧ vs.length = i)
      ⟨x0, none, none, none, none, none, none, t0 kd, [], [], rfl, hT0, by rcases hk with rfl | rfl <;> exact Nat.le_refl _, hx0c, s1, hc1, Calls.nil, rfl⟩ ?_ ?_⟩
    · rintro i σ H2 hi ⟨x, v6, v7, v8, v9, v10, v11, t, vs, cs, rfl, hTh, hsT, hxc, s2, hc2, hC2, hl⟩
      obtain ⟨z1, hz1⟩ := script_at (ns := ns) (j := 0 + (i : Int)) (by omega) (by omega)
      refine ⟨_, rfl, _, rfl, l, _, _, _, rfl, rfl, s2.seq hS, hz1, _, rfl, _, _, rfl, rfl, .inl ⟨by decide, by decide⟩, _, _, rfl, rfl, ?_⟩
      refine ⟨_, rfl, _, _, rfl, rfl, .inl ⟨by decide, by decide⟩, _, _, rfl, rfl, _, rfl, _, _, rfl, rfl, .inr ⟨by decide, by decide⟩, _, _, rfl, rfl, (by show (0 : Int) < _; omega), _, rfl, _, _, rfl, rfl, hwd, _, _, rfl, rfl, ?_⟩
      refine ⟨_, rfl, _, _, rfl, rfl, .inl ⟨by decide, by decide⟩, _, _, rfl, rfl, _, rfl, _, _, rfl, rfl, .inr ⟨by decide, by decide⟩, _, _, rfl, rfl, (by show (0 : Int) < _; omega), _, rfl, _, _, rfl, rfl, hwd, _, _, rfl, rfl, ?_⟩
      refine ⟨_, rfl, _, rfl, _, rfl, _, kd, rfl, hk, fun H3 da d s3 hDe hG hSh => ?_⟩
      refine ⟨_, rfl, _, rfl, _, rfl, kd, x, t, da, d.1, d.2, rfl, hTh.keep s3, by omega, hDe, good_has hk hG, fun H4 p y s4 hp hy hyn => ?_⟩
      refine ⟨p, _, rfl, SqT.of hp, rfl, _, _, rfl, _, _, rfl, rfl, ?_⟩
      have s34 := s3.trans s4
      have hc4 := s34 _ _ hc2
      have hyc : y ≠ .ref c := fun z => by
        rcases hyn with hy | ⟨b, rfl, hb⟩ | ⟨j, rfl⟩
        · exact hxc (hy ▸ z)
        · rw [V.ref.inj z] at hb
          rw [s3 _ _ hc2] at hb
          cases hb
        · cases z
      refine ⟨_, rfl, .inl ⟨rfl, _, SqL.of hc4⟩, _, rfl, _, rfl, _, rfl, _, rfl, Nat.le_of_ble_eq_true rfl, fun t2 ht2 => ?_⟩
      have s5 := Same.upd (o := .tup [.int (10 * (0 + (i : Int)) - 1 - (z1 + 7 * (0 + (i : Int))) * 48271 % 1031 % wd), .int (10 * (0 + (i : Int)) + 1 + (z1 + 7 * (0 + (i : Int))) * 48271 % 1033 % wd), .ref da, aV (doT t d.1 d.2).2]) ht2
      have q5 := upd_same (H := H4) (a := t2) (o := .tup [.int (10 * (0 + (i : Int)) - 1 - (z1 + 7 * (0 + (i : Int))) * 48271 % 1031 % wd), .int (10 * (0 + (i : Int)) + 1 + (z1 + 7 * (0 + (i : Int))) * 48271 % 1033 % wd), .ref da, aV (doT t d.1 d.2).2])
      generalize upd H4 t2 (.tup [.int (10 * (0 + (i : Int)) - 1 - (z1 + 7 * (0 + (i : Int))) * 48271 % 1031 % wd), .int (10 * (0 + (i : Int)) + 1 + (z1 + 7 * (0 + (i : Int))) * 48271 % 1033 % wd), .ref da, aV (doT t d.1 d.2).2]) = H5 at s5 q5 ⊢
      have hc5 := s5 _ _ hc4
      refine ⟨c, vs, _, rfl, rfl, hc5, by omega, ?_⟩
      have hcl : CallT K H5 (.ref t2) ⟨10 * (0 + (i : Int)) - 1 - (z1 + 7 * (0 + (i : Int))) * 48271 % 1031 % wd, 10 * (0 + (i : Int)) + 1 + (z1 + 7 * (0 + (i : Int))) * 48271 % 1033 % wd, d, (doT t d.1 d.2).2⟩ := ⟨t2, da, rfl, SqT.of q5, Same.tup (s4.trans s5) hDe⟩
      have hok : Ok kd ⟨10 * (0 + (i : Int)) - 1 - (z1 + 7 * (0 + (i : Int))) * 48271 % 1031 % wd, 10 * (0 + (i : Int)) + 1 + (z1 + 7 * (0 + (i : Int))) * 48271 % 1033 % wd, d, (doT t d.1 d.2).2⟩ := by
        refine ⟨?_, hG, hSh⟩
        have m1 := Int.emod_nonneg ((z1 + 7 * (0 + (i : Int))) * 48271 % 1031) (Int.ne_of_gt hwd)
        have m2 := Int.emod_nonneg ((z1 + 7 * (0 + (i : Int))) * 48271 % 1033) (Int.ne_of_gt hwd)
        show 10 * (0 + (i : Int)) - 1 - (z1 + 7 * (0 + (i : Int))) * 48271 % 1031 % wd < 10 * (0 + (i : Int)) + 1 + (z1 + 7 * (0 + (i : Int))) * 48271 % 1033 % wd
        omega
      refine ⟨y, _, _, _, _, _, _, (doT t d.1 d.2).1, vs ++ [.ref t2], cs ++ [_], rfl, (hy.keep s5).updC hyc, ?_, hyc, fun b o h => ?_, upd_same, (Calls.updL hc5 (hC2.keep (s34.trans s5))).snoc (hcl.updL hc5) hok, by rw [List.length_append, hl]; rfl⟩
      · have := size_do t d
        omega
      · rw [upd_ne (ne_of_none h hc)]
        exact s5 _ _ (s34 _ _ (s2 _ _ h))
    rintro σ H2 ⟨x, v6, v7, v8, v9, v10, v11, t, vs, cs, rfl, _, _, _, s2, hc2, hC2, hl⟩
    have hl' : vs.length = ns.length := by omega
    -- made
    refine ⟨Nat.le_of_ble_eq_true rfl, fun m hm => ?_⟩
    have hmH : H m = none := none_of s2 hm
    have s3 : Same H2 (upd H2 m (.lst [])) := Same.upd hm
    have hm3 : (upd H2 m (.lst [])) m = some (.lst []) := upd_same
    generalize upd H2 m (.lst []) = H3 at s3 hm3 ⊢
    refine ⟨_, rfl, c, _, rfl, .inl (SqL.of (s3 _ _ hc2)), (vs.length : Int), rfl, by omega, by omega, for_range (lo := 0) (fun i σ H4 => ∃ v6 v13 ws ds, σ = [some (.ref l), some (.str kd), some (.str "a"), some (.int wd), some (.ref c), some x, v6, v7, v8, v9, v10, v11, some (.ref m), v13] ∧
      Same H2 H4 ∧ H4 m = some (.lst ws) ∧ Calls K H4 kd ws ds ∧ ws.length = i) ⟨_, none, [], [], rfl, s3, hm3, Calls.nil, rfl⟩ ?_ ?_⟩
    · rintro i σ H4 hi ⟨v6, v13, ws, ds, rfl, s4, hm4, hC4, hwl⟩
      obtain ⟨z1, hz1⟩ := script_at (ns := ns) (j := 0 + (i : Int)) (by omega) (by omega)
      have s24 := s2.trans s4
      refine ⟨_, rfl, _, rfl, l, _, _, _, rfl, rfl, s24.seq hS, hz1, _, rfl, _, _, rfl, rfl, .inl ⟨by decide, by decide⟩, _, _, rfl, rfl, _, _, rfl, rfl, .inr ⟨by decide, by decide⟩, _, _, rfl, rfl, (by show (0 : Int) < _; omega), _, rfl, m, _, rfl, .inl (SqL.of hm4), _, _, rfl, rfl, _, _, rfl, rfl, (by show (0 : Int) < _; omega), ?_⟩
      have m1 := Int.emod_nonneg ((z1 + 7 * (0 + (i : Int))) * 48271 % 1039) (show ((ws.length : Int) + 1) ≠ 0 by omega)
      have m2 := Int.emod_lt_of_pos ((z1 + 7 * (0 + (i : Int))) * 48271 % 1039) (show 0 < ((ws.length : Int) + 1) by omega)
      obtain ⟨u, hu, hcu, hou⟩ := (hC2.keep s4).num (i := 0 + (i : Int)) (by omega) (by rw [← hC2.len]; omega)
      refine ⟨_, rfl, .inl ⟨rfl, _, SqL.of hm4⟩, _, rfl, _, rfl, _, rfl, c, _, _, _, rfl, rfl, SqL.of (s4 _ _ hc2), hu, m, ws, _, _, rfl, rfl, hm4, m1, by omega, by omega, ?_⟩
      refine ⟨_, _, _, _, rfl, fun b o h => ?_, upd_same, (Calls.updL hm4 hC4).put _ (by omega) (hcu.updL hm4) hou, ?_⟩
      · rw [upd_ne (ne_of_none h hm)]
        exact s4 _ _ h
      · rw [List.length_append, List.length_cons, List.length_take, List.length_drop]
        omega
    · rintro σ H4 ⟨v6, v13, ws, ds, rfl, s4, hm4, hC4, hwl⟩
      exact ⟨_, rfl, k H4 m ws ds (s2.trans s4) hm4 hC4 (by omega)⟩
--@split
/-! ### one of them spoilt -/
theorem some5 (i : Int) (h0 : 0 ≤ i) (h5 : i < 5) : ∃ a, atI [V.non, .int 0, .int 1, .int 2, .int 100000000000000000000] i = some (aV a) := by
  have : i = 0 ∨ i = 1 ∨ i = 2 ∨ i = 3 ∨ i = 4 := by omega
  rcases this with rfl | rfl | rfl | rfl | rfl
  · exact ⟨none, at0⟩
  · exact ⟨some 0, at1⟩
  · exact ⟨some 1, at2⟩
  · exact ⟨some 2, at3⟩
  · exact ⟨some 100000000000000000000, atI_nat (j := 4) rfl⟩
theorem cmp_calls {K : PySem.W.Frag} {H : Hp} {k : Str} {vs : List V} {cs : List Cl} (hC : Calls K H k vs cs) : Cmp (.list (cs.map callD)) := by
  refine ⟨?_, by simp only [noBl]; exact noBls_calls cs⟩
  have h := depth_calls cs
  unfold SeqAt.shaped
  rw [Bool.and_eq_true]
  exact ⟨by simp only [PyData.canLay0]; exact lay_calls cs fun c hc => good_word (hC.ok c hc).2.1, decide_eq_true (by simp only [PyData.depth]; omega)⟩
def spSpoilt (K : PySem.W.Frag) : Sp := fun vs H Q _ => ∃ (l : Addr) (z : Int) (k : Str) (vs' : List V) (cs : List Cl), vs = [.ref l, .int z] ∧ SqL K H l vs' ∧ Calls K H k vs' cs ∧ vs'.length ≤ 63 ∧ ∀ (H' : Hp) (g : Addr) (ws : List V) (ds : List Cl), Same H H' → H' g = some (.lst ws) → Calls K H' k ws ds → ws.length = vs'.length → Q (.ref g) H'
theorem ok__law_spoilt (F : Fun K "_law_spoilt" "_law_spoilt" s__law_spoilt f fd) (B : Bl mg) : FnOk P w K mg base CX0 1 f fd ["_law_calls", "_law_cell"] (spSpoilt K) := by
  refine F.ok sc__law_spoilt (fun vs H Q E h => ?_) (fun cdv A outer s H vs Q E hr h => ?_)
  · obtain ⟨l, z, k, vs', cs, rfl, _⟩ := h; rfl
  · obtain ⟨l, z, kd, xs, cs, rfl, hS, hC, hlen, k⟩ := h
    have hsz : sizeLine = 16777216 := sizeLine_eq
    refine ⟨_, (pss_cons (ps_set (i := 2) sc__law_spoilt.nd rfl (by first | exact Or.inl rfl | exact Or.inr rfl) (pe_callTy call_list_of rfl B.list_ PyProof.Rows.boot_list (pa_cons (pv 0) pa_nil)))
    (pss_cons (ps_if (pt_cmpR (op_eqD hr.units) (pv 2) (pe_lst pa_nil) (nomark _))
    (pss_one (ps_ret (pv 2))) pss_nil)
    (pss_cons (ps_set (i := 3) sc__law_spoilt.nd rfl (by first | exact Or.inl rfl | exact Or.inr rfl) (pe_op op_mod (pe_op op_mod (pe_op op_mul (pv 1) pe_int) pe_int) (pe_callB call_len_seq rfl B.len_ PySem.boot_len (pa_cons (pv 2) pa_nil))))
    (pss_cons (ps_asg (pe_ix ix_list (pv 2) (pv 3) (fun _ _ => rfl)) (pg_tup rfl (pgs_cons (pg_name (i := 4) sc__law_spoilt.nd rfl (by first | exact Or.inl rfl | exact Or.inr rfl)) (pgs_cons (pg_name (i := 5) sc__law_spoilt.nd rfl (by first | exact Or.inl rfl | exact Or.inr rfl)) (pgs_cons (pg_name (i := 6) sc__law_spoilt.nd rfl (by first | exact Or.inl rfl | exact Or.inr rfl)) (pgs_cons (pg_name (i := 7) sc__law_spoilt.nd rfl (by first | exact Or.inl rfl | exact Or.inr rfl)) pgs_nil))))))
    (pss_cons (ps_set (i := 8) sc__law_spoilt.nd rfl (by first | exact Or.inl rfl | exact Or.inr rfl) (pe_op op_mod (pe_op op_mod (pe_op op_mul (pv 1) pe_int) pe_int) pe_int))
    (pss_cons (ps_join (ps_if (PW.pt (pw_or (pt_cmpR op_eq (pv 8) pe_int (nomark _)) (pw_or1 (pt_cmpR op_eq (pv 8) pe_int (nomark _)))))
    (pss_cons (ps_set (i := 9) sc__law_spoilt.nd rfl (by first | exact Or.inl rfl | exact Or.inr rfl) (pe_lst (pa_cons pe_non (pa_cons pe_int (pa_cons pe_int (pa_cons pe_int (pa_cons pe_int pa_nil)))))))
    (pss_one (ps_set (i := 7) sc__law_spoilt.nd rfl (by first | exact Or.inl rfl | exact Or.inr rfl) (pe_ix ix_list (pv 9) (pe_op op_mod (pe_op op_mod (pe_op op_mul (pv 1) pe_int) pe_int) pe_int) (fun _ _ => rfl))))) pss_nil))
    (pss_cons (ps_join (ps_if (pt_cmpR op_eq (pv 8) pe_int (nomark _))
    (pss_cons (ps_set (i := 4) sc__law_spoilt.nd rfl (by first | exact Or.inl rfl | exact Or.inr rfl) (pe_op op_add (pv 4) pe_int))
    (pss_one (ps_set (i := 5) sc__law_spoilt.nd rfl (by first | exact Or.inl rfl | exact Or.inr rfl) (pe_op op_add (pv 5) pe_int)))) pss_nil))
    (pss_cons (ps_join (ps_if (pt_cmpR op_eq (pv 8) pe_int (nomark _))
    (pss_cons (ps_set (i := 4) sc__law_spoilt.nd rfl (by first | exact Or.inl rfl | exact Or.inr rfl) (pe_op op_sub (pv 4) pe_int))
    (pss_one (ps_set (i := 5) sc__law_spoilt.nd rfl (by first | exact Or.inl rfl | exact Or.inr rfl) (pe_op op_sub (pv 5) pe_int)))) pss_nil))
    (pss_cons (ps_asg (pe_tup (pa_cons (pv 4) (pa_cons (pv 5) (pa_cons (pv 6) (pa_cons (pv 7) pa_nil))))) (pg_sub (pv 2) (pv 3) set_list))
    (pss_one (ps_ret (pv 2)))))))))))), ?_⟩
    refine ⟨_, rfl, l, xs, rfl, .inl hS, fun m hm => ?_⟩
    have s1 : Same H (upd H m (.lst xs)) := Same.upd hm
    have hm1 : (upd H m (.lst xs)) m = some (.lst xs) := upd_same
    generalize upd H m (.lst xs) = H1 at s1 hm1 ⊢
    refine ⟨_, rfl, Nat.le_of_ble_eq_true rfl, fun e he => ?_⟩
    have s2 : Same H1 (upd H1 e (.lst [])) := Same.upd he
    have he2 : (upd H1 e (.lst [])) e = some (.lst (([] : List Int).map V.int)) := upd_same
    generalize upd H1 e (.lst []) = H2 at s2 he2 ⊢
    have s12 := s1.trans s2
    have hC2 := hC.keep s12
    have hm2 := s2 _ _ hm1
    refine ⟨_, _, is_calls (SqL.of hm2) hC2, is_ints (SqL.of he2), cmp_calls hC2, cmp_ints [], _, rfl, ?_⟩
    match cs, hC, hC2 with
    | [], hC, hC2 => exact iteT ⟨_, rfl, k H2 m xs [] s12 hm2 hC2 rfl⟩
    | c0 :: cr, hC, hC2 =>
      have hpos : 0 < xs.length := by rw [hC.len]; simp
      refine iteF ?_
      refine ⟨_, rfl, _, _, rfl, rfl, .inr ⟨by decide, by decide⟩, _, _, rfl, rfl, (by show (0 : Int) < _; omega), _, rfl, m, _, rfl, .inl (SqL.of hm2), _, _, rfl, rfl, (by show (0 : Int) < _; omega), ?_⟩
      have m1 := Int.emod_nonneg (z * 48271 % 1049) (show ((xs.length : Nat) : Int) ≠ 0 by omega)
      have m2 := Int.emod_lt_of_pos (z * 48271 % 1049) (show 0 < ((xs.length : Nat) : Int) by omega)
      dsimp only
      generalize z * 48271 % 1049 % ((xs.length : Nat) : Int) = sp at m1 m2 ⊢
      obtain ⟨u, hu, ⟨t, q, rfl, ht, hq⟩, hok⟩ := hC2.num (i := sp) m1 (by rw [← hC.len]; exact m2)
      generalize clAt (c0 :: cr) sp = c at ht hq hok
      refine ⟨_, rfl, _, rfl, m, _, _, _, rfl, rfl, SqL.of hm2, hu, t, _, rfl, ht, rfl, _, _, rfl, _, _, rfl, _, _, rfl, _, _, rfl, rfl, ?_⟩
      refine ⟨_, rfl, _, _, rfl, rfl, .inr ⟨by decide, by decide⟩, _, _, rfl, rfl, (by show (0 : Int) < _; omega), _, _, rfl, rfl, (by show (0 : Int) < _; omega), ?_⟩
      dsimp only
      generalize z * 48271 % 1051 % 5 = wy
      -- another answer
      refine ⟨fun σ H3 => ∃ a v9, σ = [some (.ref l), some (.int z), some (.ref m), some (.int sp), some (.int c.b), some (.int c.e), some (.ref q), some (aV a), some (.int wy), v9] ∧ Same H2 H3, ?_, ?_⟩
      · refine ⟨_, rfl, rfl, _, rfl, ?_⟩
        by_cases h1 : V.int wy = V.int 1
        · refine iteP (decide_eq_true h1) (iteT ?_)
          refine ⟨Nat.le_of_ble_eq_true rfl, fun p hp => ?_⟩
          obtain ⟨a, ha⟩ := some5 (z * 48271 % 1061 % 5) (by omega) (by omega)
          exact ⟨_, rfl, _, rfl, _, _, rfl, rfl, .inr ⟨by decide, by decide⟩, _, _, rfl, rfl, (by show (0 : Int) < _; omega), _, _, rfl, rfl, (by show (0 : Int) < _; omega), p, _, _, _, rfl, rfl, SqL.of upd_same, ha, a, _, rfl, Same.upd hp⟩
        · refine iteN (by rw [decide_eq_false h1]; decide) ⟨_, rfl, rfl, _, rfl, ?_⟩
          by_cases h2 : V.int wy = V.int 2
          · refine iteP (decide_eq_true h2) ?_
            refine ⟨Nat.le_of_ble_eq_true rfl, fun p hp => ?_⟩
            obtain ⟨a, ha⟩ := some5 (z * 48271 % 1061 % 5) (by omega) (by omega)
            exact ⟨_, rfl, _, rfl, _, _, rfl, rfl, .inr ⟨by decide, by decide⟩, _, _, rfl, rfl, (by show (0 : Int) < _; omega), _, _, rfl, rfl, (by show (0 : Int) < _; omega), p, _, _, _, rfl, rfl, SqL.of upd_same, ha, a, _, rfl, Same.upd hp⟩
          · exact iteN (by rw [decide_eq_false h2]; decide) ⟨_, _, rfl, Same.refl _⟩
      rintro σ H3 ⟨a, v9, rfl, s3⟩
      refine ⟨fun σ H4 => ∃ b e, σ = [some (.ref l), some (.int z), some (.ref m), some (.int sp), some (.int b), some (.int e), some (.ref q), some (aV a), some (.int wy), v9] ∧ b < e ∧ H4 = H3, ?_, ?_⟩
      · refine ⟨_, rfl, rfl, _, rfl, iteD (fun _ => ?_) (fun _ => ⟨_, _, rfl, hok.1, rfl⟩)⟩
        refine ⟨_, rfl, _, _, rfl, rfl, _, rfl, _, _, rfl, rfl, _, _, rfl, ?_, rfl⟩
        have := hok.1
        omega
      rintro σ H4 ⟨b, e, rfl, hbe, rfl⟩
      refine ⟨fun σ H5 => ∃ b e, σ = [some (.ref l), some (.int z), some (.ref m), some (.int sp), some (.int b), some (.int e), some (.ref q), some (aV a), some (.int wy), v9] ∧ b < e ∧ H5 = H4, ?_, ?_⟩
      · refine ⟨_, rfl, rfl, _, rfl, iteD (fun _ => ?_) (fun _ => ⟨_, _, rfl, hbe, rfl⟩)⟩
        refine ⟨_, rfl, _, _, rfl, rfl, _, rfl, _, _, rfl, rfl, _, _, rfl, by omega, rfl⟩
      rintro σ H5 ⟨b, e, rfl, hbe, rfl⟩
      refine ⟨_, rfl, _, rfl, _, rfl, _, rfl, Nat.le_of_ble_eq_true rfl, fun t2 ht2 => ?_⟩
      have s6 := Same.upd (o := .tup [.int b, .int e, .ref q, aV a]) ht2
      have q6 := upd_same (H := H5) (a := t2) (o := .tup [.int b, .int e, .ref q, aV a])
      generalize upd H5 t2 (.tup [.int b, .int e, .ref q, aV a]) = H6 at s6 q6 ⊢
      have s26 := s3.trans s6
      have hm6 := s26 _ _ hm2
      have hix : ixN xs.length sp = some sp.toNat := by
        unfold ixN
        rw [if_pos m1, if_pos m2]
      refine ⟨_, rfl, _, rfl, m, _, _, _, rfl, rfl, hm6, hix, ?_⟩
      refine ⟨_, rfl, k _ m (xs.set sp.toNat (.ref t2)) ((c0 :: cr).set sp.toNat ⟨b, e, c.d, a⟩) (fun x o h => ?_) upd_same ?_ (by simp)⟩
      · rw [upd_ne (ne_of_none h hm)]
        exact s26 _ _ (s12 _ _ h)
      · refine (Calls.updL hm6 (hC2.keep s26)).set _ ?_ ⟨hbe, hok.2⟩
        exact CallT.updL hm6 ⟨t2, q, rfl, SqT.of q6, Same.tup s26 hq⟩
/-! ### by their middles -/
def spBy (K : PySem.W.Frag) : Sp := fun vs H Q _ => ∃ (l : Addr) (k : Str) (xs : List V) (cs : List Cl), vs = [.ref l] ∧ SqL K H l xs ∧ Calls K H k xs cs ∧ xs.length ≤ 63 ∧ ∀ (H' : Hp) (g : Addr) (os : List Int), Same H H' → H' g = some (.lst (os.map V.int)) → os.length = xs.length → Q (.ref g) H'
theorem ok__law_by_points (F : Fun K "_law_by_points" "_law_by_points" s__law_by_points f fd) (B : Bl mg) : FnOk P w K mg base CX0 1 f fd ["_law_calls"] (spBy K) := by
  refine F.ok sc__law_by_points (fun vs H Q E h => ?_) (fun cdv A outer s H vs Q E hr h => ?_)
  · obtain ⟨l, k, xs, cs, rfl, _⟩ := h; rfl
  · obtain ⟨l, kd, xs, cs, rfl, hS, hC, hlen, k⟩ := h
    have hsz : sizeLine = 16777216 := sizeLine_eq
    refine ⟨_, (pss_cons (ps_setLC (i := 1) (cn_of (sc := defScope s__law_by_points) (N0 := nm__law_by_points) (ns := ["_law_calls"]) (idx := [0]) (by decide +kernel)) rfl sc__law_by_points.nd rfl (by first | exact Or.inl rfl | exact Or.inr rfl) (pi_range1 rfl B.range_ (pa_cons (pe_callB call_len_seq rfl B.len_ PySem.boot_len (pa_cons (pv 0) pa_nil)) pa_nil)) (fun _ _ _ _ => pif_nil) (fun _ _ _ _ => (pe_tup (pa_cons (pe_op op_add (pe_ix (ix_tupK K) (pe_ix (ix_listK K) (pv 1) (pv 0) (fun _ _ => rfl)) pe_int (fun _ _ => rfl)) (pe_ix (ix_tupK K) (pe_ix (ix_listK K) (pv 1) (pv 0) (fun _ _ => rfl)) pe_int (fun _ _ => rfl))) (pa_cons (pv 0) pa_nil)))) rfl)
    (pss_one (ps_ret (pe_lc (cn_of (sc := defScope s__law_by_points) (N0 := nm__law_by_points) (ns := []) (idx := []) (by decide +kernel)) rfl (pi_list (pe_callB call_sortedP rfl B.sorted_ PyProof.Rows.boot_sorted (pa_cons (pv 1) pa_nil))) (fun _ _ _ _ => pif_nil) (fun _ _ _ _ => (pe_ix (ix_tupK K) (pv 0) pe_int (fun _ _ => rfl))))))), ?_⟩
    refine ⟨_, rfl, l, xs, rfl, .inl hS, (xs.length : Int), rfl, by omega, by omega, lc_rangeI (lo := 0) (n := ((xs.length : Int)).toNat) (fun D i ys H2 => Same H H2 ∧ H2 D = some (.lst ys) ∧ ys.length = i ∧ ∀ v ∈ ys, ∃ t x y, v = .ref t ∧ H2 t = some (.tup [.int x, .int y]))
      (by omega) (fun D hD => ⟨Same.upd hD, upd_same, rfl, fun v hv => by simp at hv⟩) (fun D i ys H2 h => ⟨h.2.1, h.2.2.1⟩) ?_ ?_⟩
    · rintro D i ys H2 R hD hi ⟨s2, hD2, hl, hys⟩ hR
      obtain ⟨u, hu, ⟨t, q, rfl, ht, hq⟩, hok⟩ := (hC.keep s2).num (i := 0 + (i : Int)) (by omega) (by rw [← hC.len]; omega)
      refine ⟨_, rfl, _, rfl, l, _, _, _, rfl, rfl, s2.seq hS, hu, t, _, 0, _, rfl, rfl, ht, at0, _, rfl, _, rfl, l, _, _, _, rfl, rfl, s2.seq hS, hu, t, _, 1, _, rfl, rfl, ht, at1, _, _, rfl, rfl, _, rfl, Nat.le_of_ble_eq_true rfl, fun p hp => ?_⟩
      have hpD : D ≠ p := ne_of_none hD2 hp
      refine hR _ _ (by rw [upd_ne hpD]; exact hD2) ⟨fun b o h => ?_, upd_same, by rw [List.length_append, hl]; rfl, fun v hv => ?_⟩
      · have hb := s2 _ _ h
        rw [upd_ne (ne_of_none h hD), upd_ne (ne_of_none hb hp)]
        exact hb
      · rcases List.mem_append.mp hv with hv | hv
        · obtain ⟨t', x, y, rfl, ht'⟩ := hys v hv
          refine ⟨t', x, y, rfl, ?_⟩
          rw [upd_ne (ne_of ht' hD2 (by intro z; cases z)), upd_ne (ne_of_none ht' hp)]
          exact ht'
        · rw [List.mem_singleton.mp hv]
          refine ⟨p, (clAt cs (0 + (i : Int))).b + (clAt cs (0 + (i : Int))).e, 0 + (i : Int), rfl, ?_⟩
          rw [upd_ne (Ne.symm hpD), upd_same]
    · rintro D ys H2 hD ⟨s2, hD2, hl, hys⟩
      refine ⟨_, rfl, D, ys, rfl, hD2, by omega, hys, fun l2 zs hl2 hpm => ?_⟩
      have s3 : Same H2 (upd H2 l2 (.lst zs)) := Same.upd hl2
      have q3 : (upd H2 l2 (.lst zs)) l2 = some (.lst zs) := upd_same
      have hzs : ∀ v ∈ zs, ∃ t x y, v = .ref t ∧ (upd H2 l2 (.lst zs)) t = some (.tup [.int x, .int y]) := fun v hv => by
        obtain ⟨t, x, y, e, ht⟩ := hys v (hpm.mem_iff.mp hv)
        exact ⟨t, x, y, e, s3 _ _ ht⟩
      have hzl : zs.length = xs.length := by rw [hpm.length_eq, hl]; omega
      generalize upd H2 l2 (.lst zs) = H3 at s3 q3 hzs ⊢
      obtain ⟨os, hos, hol⟩ : ∃ os : List Int, zs.map (fun v => match v with | .ref t => (match H3 t with | some (.tup [_, y]) => y | _ => v) | v => v) = os.map V.int ∧ os.length = zs.length := by
        clear hpm q3 hzl
        induction zs with
        | nil => exact ⟨[], rfl, rfl⟩
        | cons v r ih =>
          obtain ⟨os, h1, h2⟩ := ih fun v hv => hzs v (by simp [hv])
          obtain ⟨t, x, y, rfl, ht⟩ := hzs v (by simp)
          exact ⟨y :: os, by rw [List.map_cons, List.map_cons, h1]; show (match H3 t with | some (.tup [_, y]) => y | _ => V.ref t) :: _ = _; rw [ht], by simp [h2]⟩
      refine ⟨l2, rfl, ⟨_, SqL.of q3⟩, lc_list (xs := zs) (fun _ => true) (fun v => match v with | .ref t => (match H3 t with | some (.tup [_, y]) => y | _ => v) | v => v) (SqL.of q3) (by omega) ?_ ?_ ?_⟩
      · intro x hx D ys R hD hR
        exact hR
      · intro v hv _ D ys R hD hR
        obtain ⟨t, x, y, rfl, ht⟩ := hzs v hv
        have e : (match H3 t with | some (.tup [_, y]) => y | _ => V.ref t) = V.int y := by rw [ht]
        refine ⟨_, rfl, t, _, 1, _, rfl, rfl, SqT.of (Same.upd hD _ _ ht), at1, ?_⟩
        rw [← e]
        exact hR
      intro D4 hD4
      rw [List.filter_eq_self.mpr fun _ _ => rfl, hos]
      exact k _ D4 os ((s2.trans s3).trans (Same.upd hD4)) upd_same (by omega)
--@split
/-! ### an order harmed -/
theorem iteD2 {c A A' B : Prop} [Decidable c] (h1 : c → A) (h2 : ¬ c → B) : if decide c = true then A else (if false = true then A' else B) := iteD h1 fun h => iteF (h2 h)
theorem odd6 (n : Int) (i : Int) (h0 : 0 ≤ i) (h6 : i < 6) : ∃ x, atI [V.int (-1), .int n, .int (-2), .int (0 - n), .int 100000000000000000000, .int (0 - 100000000000000000000)] i = some (.int x) := by
  have : i = 0 ∨ i = 1 ∨ i = 2 ∨ i = 3 ∨ i = 4 ∨ i = 5 := by omega
  rcases this with rfl | rfl | rfl | rfl | rfl | rfl
  · exact ⟨_, at0⟩
  · exact ⟨_, at1⟩
  · exact ⟨_, at2⟩
  · exact ⟨_, at3⟩
  · exact ⟨_, atI_nat (j := 4) rfl⟩
  · exact ⟨_, atI_nat (j := 5) rfl⟩
def cutI (os : List Int) (lo hi : Option Int) : List Int := (os.drop (HT.sIx os.length 0 lo)).take (HT.sIx os.length os.length hi - HT.sIx os.length 0 lo)
theorem cut_ints (os : List Int) (lo hi : Option Int) : cutV (os.map V.int) lo hi = (cutI os lo hi).map V.int := by
  unfold cutV cutI
  rw [List.length_map, List.map_take, List.map_drop]
theorem cutI_len (os : List Int) (lo hi : Option Int) : (cutI os lo hi).length ≤ os.length := by
  unfold cutI
  rw [List.length_take, List.length_drop]
  omega
theorem cutI_hi (os : List Int) {k : Int} (h : 0 ≤ k) : (cutI os none (some k)).length ≤ k.toNat := by
  unfold cutI
  have e : k = ((k.toNat : Nat) : Int) := by omega
  rw [HT.sIx_none, e, HT.sIx_nat, List.length_take, List.length_drop]
  omega
theorem cutI_lo (os : List Int) {k : Int} (h : 0 ≤ k) : (cutI os (some k) none).length ≤ os.length - k.toNat := by
  unfold cutI
  have e : k = ((k.toNat : Nat) : Int) := by omega
  rw [HT.sIx_none, e, HT.sIx_nat, List.length_take, List.length_drop]
  omega
def spHarm (K : PySem.W.Frag) : Sp := fun vs H Q _ => ∃ (o : Addr) (z : Int) (os : List Int), vs = [.ref o, .int z] ∧ SqL K H o (os.map V.int) ∧ os.length ≤ 60 ∧
  ∀ (H' : Hp) (g : Addr) (ps : List Int), Same H H' → H' g = some (.lst (ps.map V.int)) → ps.length < 64 → Q (.ref g) H'
theorem ok__law_harmed (F : Fun K "_law_harmed" "_law_harmed" s__law_harmed f fd) (B : Bl mg) : FnOk P w K mg base CX0 1 f fd ["_law_order", "_law_cell"] (spHarm K) := by
  refine F.ok sc__law_harmed (fun vs H Q E h => ?_) (fun cdv A outer s H vs Q E hr h => ?_)
  · obtain ⟨o, z, os, rfl, _⟩ := h; rfl
  · obtain ⟨o, z, os, rfl, hO, hlen, k⟩ := h
    have hsz : sizeLine = 16777216 := sizeLine_eq
    refine ⟨_, (pss_cons (ps_set (i := 2) sc__law_harmed.nd rfl (by first | exact Or.inl rfl | exact Or.inr rfl) (pe_callTy call_list_of rfl B.list_ PyProof.Rows.boot_list (pa_cons (pv 0) pa_nil)))
    (pss_cons (ps_set (i := 3) sc__law_harmed.nd rfl (by first | exact Or.inl rfl | exact Or.inr rfl) (pe_op op_mod (pe_op op_mod (pe_op op_mul (pv 1) pe_int) pe_int) pe_int))
    (pss_cons (ps_set (i := 4) sc__law_harmed.nd rfl (by first | exact Or.inl rfl | exact Or.inr rfl) (pe_op op_mod (pe_op op_mod (pe_op op_mul (pv 1) pe_int) pe_int) (pe_op op_add (pe_callB call_len_seq rfl B.len_ PySem.boot_len (pa_cons (pv 2) pa_nil)) pe_int)))
    (pss_cons (ps_join (ps_if (pt_cmpR op_eq (pv 3) pe_int (nomark _))
    (pss_one (ps_set (i := 2) sc__law_harmed.nd rfl (by first | exact Or.inl rfl | exact Or.inr rfl) (pe_op op_cat (pe_slice sl_list (pv 2) po_none (po_some (pv 4))) (pe_slice sl_list (pv 2) (po_some (pe_op op_add (pv 4) pe_int)) po_none)))) pss_nil))
    (pss_cons (ps_join (ps_if (pt_cmpR op_eq (pv 3) pe_int (nomark _))
    (pss_one (ps_set (i := 2) sc__law_harmed.nd rfl (by first | exact Or.inl rfl | exact Or.inr rfl) (pe_op op_cat (pe_slice sl_list (pv 2) po_none (po_some (pv 4))) (pe_slice sl_list (pv 2) (po_some (pe_op op_sub (pv 4) pe_int)) po_none)))) pss_nil))
    (pss_cons (ps_join (ps_if (pt_cmpR op_eq (pv 3) pe_int (nomark _))
    (pss_one (ps_set (i := 2) sc__law_harmed.nd rfl (by first | exact Or.inl rfl | exact Or.inr rfl) (pe_listrev rfl B.list_ rfl B.reversed_ rfl (pa_cons (pv 2) pa_nil)))) pss_nil))
    (pss_cons (ps_join (ps_if (PW.pt (pw_and (pt_cmpR op_eq (pv 3) pe_int (nomark _)) (pw_and1 (pt_cmpR op_lt (pe_op op_add (pv 4) pe_int) (pe_callB call_len_seq rfl B.len_ PySem.boot_len (pa_cons (pv 2) pa_nil)) (nomark _)))))
    (pss_one (ps_asg (pe_tup (pa_cons (pe_ix ix_list (pv 2) (pe_op op_add (pv 4) pe_int) (fun _ _ => rfl)) (pa_cons (pe_ix ix_list (pv 2) (pv 4) (fun _ _ => rfl)) pa_nil))) (pg_tup rfl (pgs_cons (pg_sub (pv 2) (pv 4) set_list) (pgs_cons (pg_sub (pv 2) (pe_op op_add (pv 4) pe_int) set_list) pgs_nil))))) pss_nil))
    (pss_cons (ps_join (ps_if (PW.pt (pw_and (pt_cmpR op_eq (pv 3) pe_int (nomark _)) (pw_and1 (pt_cmpR op_lt (pv 4) (pe_callB call_len_seq rfl B.len_ PySem.boot_len (pa_cons (pv 2) pa_nil)) (nomark _)))))
    (pss_one (ps_asg (pe_ix ix_list (pv 2) pe_int (fun _ _ => rfl)) (pg_sub (pv 2) (pv 4) set_list))) pss_nil))
    (pss_cons (ps_join (ps_if (pt_cmpR op_eq (pv 3) pe_int (nomark _))
    (pss_cons (ps_set (i := 5) sc__law_harmed.nd rfl (by first | exact Or.inl rfl | exact Or.inr rfl) pe_int)
    (pss_cons (ps_set (i := 6) sc__law_harmed.nd rfl (by first | exact Or.inl rfl | exact Or.inr rfl) (pe_lst (pa_cons (pe_un un_neg pe_int) (pa_cons (pe_callB call_len_seq rfl B.len_ PySem.boot_len (pa_cons (pv 2) pa_nil)) (pa_cons (pe_un un_neg pe_int) (pa_cons (pe_op op_sub pe_int (pe_callB call_len_seq rfl B.len_ PySem.boot_len (pa_cons (pv 2) pa_nil))) (pa_cons (pv 5) (pa_cons (pe_op op_sub pe_int (pv 5)) pa_nil))))))))
    (pss_cons (ps_set (i := 7) sc__law_harmed.nd rfl (by first | exact Or.inl rfl | exact Or.inr rfl) (pe_ix ix_list (pv 6) (pe_op op_mod (pe_op op_mod (pe_op op_mul (pv 1) pe_int) pe_int) pe_int) (fun _ _ => rfl)))
    (pss_one (ps_set (i := 2) sc__law_harmed.nd rfl (by first | exact Or.inl rfl | exact Or.inr rfl) (pe_op op_cat (pe_op op_cat (pe_slice sl_list (pv 2) po_none (po_some (pv 4))) (pe_lst (pa_cons (pv 7) pa_nil))) (pe_slice sl_list (pv 2) (po_some (pe_op op_add (pv 4) pe_int)) po_none))))))) pss_nil))
    (pss_one (ps_ret (pv 2)))))))))))), ?_⟩
    refine ⟨_, rfl, o, _, rfl, .inl hO, fun m hm => ?_⟩
    have s1 : Same H (upd H m (.lst (os.map V.int))) := Same.upd hm
    have hm1 : (upd H m (.lst (os.map V.int))) m = some (.lst (os.map V.int)) := upd_same
    generalize upd H m (.lst (os.map V.int)) = H1 at s1 hm1 ⊢
    refine ⟨_, rfl, _, _, rfl, rfl, .inr ⟨by decide, by decide⟩, _, _, rfl, rfl, (by show (0 : Int) < _; omega), _, _, rfl, rfl, (by show (0 : Int) < _; omega), ?_⟩
    dsimp only
    generalize z * 48271 % 1063 % 7 = wy
    refine ⟨_, rfl, _, _, rfl, rfl, .inr ⟨by decide, by decide⟩, _, _, rfl, rfl, (by show (0 : Int) < _; omega), _, rfl, m, _, rfl, .inl (SqL.of hm1), _, _, rfl, rfl, _, _, rfl, rfl, (by show (0 : Int) < _; omega), ?_⟩
    have m1 := Int.emod_nonneg (z * 48271 % 1069) (show (((os.map V.int).length : Nat) : Int) + 1 ≠ 0 by omega)
    have m2 := Int.emod_lt_of_pos (z * 48271 % 1069) (show 0 < (((os.map V.int).length : Nat) : Int) + 1 by omega)
    dsimp only
    generalize z * 48271 % 1069 % ((((os.map V.int).length : Nat) : Int) + 1) = sp at m1 m2 ⊢
    rw [List.length_map] at m2
    -- without one
    refine ⟨fun σ H2 => ∃ (m : Addr) (ps : List Int), σ = [some (.ref o), some (.int z), some (.ref m), some (.int wy), some (.int sp), none, none, none] ∧ H2 m = some (.lst (ps.map V.int)) ∧ ps.length ≤ os.length ∧ Same H H2 ∧ H m = none, ?_, ?_⟩
    · refine ⟨_, rfl, rfl, _, rfl, iteD (fun _ => ?_) (fun _ => ⟨m, os, rfl, hm1, Nat.le_refl _, s1, hm⟩)⟩
      refine ⟨_, rfl, _, rfl, _, rfl, m, _, rfl, SqL.of hm1, fun p1 hp1 => ?_⟩
      have t1 := Same.upd (o := .lst (cutV (os.map V.int) none (some sp))) hp1
      refine ⟨_, rfl, _, rfl, _, _, rfl, rfl, _, rfl, m, _, rfl, SqL.of (t1 _ _ hm1), fun p2 hp2 => ?_⟩
      have t2 := Same.upd (o := .lst (cutV (os.map V.int) (some (sp + 1)) none)) hp2
      have q1 := t2 _ _ (upd_same (H := H1) (a := p1) (o := .lst (cutV (os.map V.int) none (some sp))))
      refine ⟨p1, p2, _, _, rfl, rfl, q1, upd_same, ?_, fun p3 hp3 => ?_⟩
      · rw [cut_ints, cut_ints, List.length_map, List.length_map]
        have h1 := cutI_len os none (some sp)
        have h2 := cutI_len os (some (sp + 1)) none
        omega
      · refine ⟨p3, cutI os none (some sp) ++ cutI os (some (sp + 1)) none, rfl, ?_, ?_, ((s1.trans t1).trans t2).trans (Same.upd hp3), none_of ((s1.trans t1).trans t2) hp3⟩
        · rw [upd_same, List.map_append, cut_ints, cut_ints]
        · have h1 := cutI_len os none (some sp)
          have h2 := cutI_hi os m1
          have h3 := cutI_lo os (show 0 ≤ sp + 1 by omega)
          rw [List.length_append]
          omega
    rintro σ H2 ⟨m2', ps, rfl, hm2, hps, s2, hmn⟩
    -- with one twice
    refine ⟨fun σ H3 => ∃ (m : Addr) (qs : List Int), σ = [some (.ref o), some (.int z), some (.ref m), some (.int wy), some (.int sp), none, none, none] ∧ H3 m = some (.lst (qs.map V.int)) ∧ qs.length ≤ os.length + 1 ∧ Same H H3 ∧ H m = none, ?_, ?_⟩
    · refine ⟨_, rfl, rfl, _, rfl, iteD (fun _ => ?_) (fun _ => ⟨_, ps, rfl, hm2, by omega, s2, hmn⟩)⟩
      refine ⟨_, rfl, _, rfl, _, rfl, m2', _, rfl, SqL.of hm2, fun p1 hp1 => ?_⟩
      have t1 := Same.upd (o := .lst (cutV (ps.map V.int) none (some sp))) hp1
      refine ⟨_, rfl, _, rfl, _, _, rfl, rfl, _, rfl, m2', _, rfl, SqL.of (t1 _ _ hm2), fun p2 hp2 => ?_⟩
      have t2 := Same.upd (o := .lst (cutV (ps.map V.int) (some (sp - 1)) none)) hp2
      have q1 := t2 _ _ (upd_same (H := H2) (a := p1) (o := .lst (cutV (ps.map V.int) none (some sp))))
      refine ⟨p1, p2, _, _, rfl, rfl, q1, upd_same, ?_, fun p3 hp3 => ?_⟩
      · rw [cut_ints, cut_ints, List.length_map, List.length_map]
        have h1 := cutI_len ps none (some sp)
        have h2 := cutI_len ps (some (sp - 1)) none
        omega
      · refine ⟨p3, cutI ps none (some sp) ++ cutI ps (some (sp - 1)) none, rfl, ?_, ?_, ((s2.trans t1).trans t2).trans (Same.upd hp3), none_of ((s2.trans t1).trans t2) hp3⟩
        · rw [upd_same, List.map_append, cut_ints, cut_ints]
        · have h1 := cutI_len ps none (some sp)
          have h2 := cutI_hi ps m1
          have h3 := cutI_len ps (some (sp - 1)) none
          rw [List.length_append]
          by_cases h0 : 0 ≤ sp - 1
          · have h4 := cutI_lo ps h0
            omega
          · omega
    rintro σ H3 ⟨m3, qs, rfl, hm3, hqs, s3, hmn3⟩
    -- turned about
    refine ⟨fun σ H4 => ∃ (m : Addr) (rs : List Int), σ = [some (.ref o), some (.int z), some (.ref m), some (.int wy), some (.int sp), none, none, none] ∧ H4 m = some (.lst (rs.map V.int)) ∧ rs.length ≤ os.length + 1 ∧ Same H H4 ∧ H m = none, ?_, ?_⟩
    · refine ⟨_, rfl, rfl, _, rfl, iteD (fun _ => ?_) (fun _ => ⟨_, qs, rfl, hm3, hqs, s3, hmn3⟩)⟩
      refine ⟨_, rfl, m3, _, rfl, SqL.of hm3, fun p hp => ⟨p, qs.reverse, rfl, ?_, ?_, s3.trans (Same.upd hp), none_of s3 hp⟩⟩
      · rw [upd_same, List.map_reverse]
      · rw [List.length_reverse]; exact hqs
    rintro σ H4 ⟨m4, rs, rfl, hm4, hrs, s4, hmn4⟩
    -- two neighbours changed about
    refine ⟨fun σ H5 => ∃ (us : List Int), σ = [some (.ref o), some (.int z), some (.ref m4), some (.int wy), some (.int sp), none, none, none] ∧ H5 m4 = some (.lst (us.map V.int)) ∧ us.length ≤ os.length + 1 ∧ Same H H5, ?_, ?_⟩
    · refine ⟨_, rfl, rfl, _, rfl, iteD2 (fun _ => ?_) (fun _ => ⟨rs, rfl, hm4, hrs, s4⟩)⟩
      refine ⟨_, rfl, _, _, rfl, rfl, _, rfl, m4, _, rfl, .inl (SqL.of hm4), _, _, rfl, rfl, _, rfl, iteD (fun hin => ?_) (fun _ => ⟨rs, rfl, hm4, hrs, s4⟩)⟩
      rw [List.length_map] at hin
      obtain ⟨x1, hx1⟩ := script_at (ns := rs) (j := sp + 1) (by omega) hin
      obtain ⟨x2, hx2⟩ := script_at (ns := rs) (j := sp) m1 (by omega)
      refine ⟨_, rfl, _, rfl, _, _, rfl, rfl, m4, _, _, _, rfl, rfl, SqL.of hm4, hx1, _, rfl, _, rfl, m4, _, _, _, rfl, rfl, SqL.of hm4, hx2, Nat.le_of_ble_eq_true rfl, fun t ht => ?_⟩
      have t1 := Same.upd (o := .tup [.int x1, .int x2]) ht
      refine ⟨t, _, rfl, SqT.of upd_same, rfl, _, _, rfl, ?_⟩
      have i1 : ixN (rs.map V.int).length sp = some sp.toNat := by
        unfold ixN
        rw [if_pos m1, if_pos (by rw [List.length_map]; omega)]
      refine ⟨_, rfl, _, rfl, m4, _, _, _, rfl, rfl, t1 _ _ hm4, i1, ?_⟩
      have i2 : ixN ((rs.map V.int).set sp.toNat (.int x1)).length (sp + 1) = some (sp + 1).toNat := by
        unfold ixN
        rw [if_pos (by omega), if_pos (by rw [List.length_set, List.length_map]; exact hin)]
      refine ⟨_, _, rfl, _, rfl, _, rfl, _, _, rfl, rfl, m4, _, _, _, rfl, rfl, upd_same, i2, rfl, ?_⟩
      refine ⟨(rs.set sp.toNat x1).set (sp + 1).toNat x2, rfl, ?_, by rw [List.length_set, List.length_set]; exact hrs, fun b ob h => ?_⟩
      · rw [upd_same, List.map_set, List.map_set]
      · rw [upd_ne (ne_of_none h hmn4), upd_ne (ne_of_none h hmn4)]
        exact t1 _ _ (s4 _ _ h)
    rintro σ H5 ⟨us, rfl, hm5, hus, s5⟩
    -- the first one in the place of another
    refine ⟨fun σ H6 => ∃ (us : List Int), σ = [some (.ref o), some (.int z), some (.ref m4), some (.int wy), some (.int sp), none, none, none] ∧ H6 m4 = some (.lst (us.map V.int)) ∧ us.length ≤ os.length + 1 ∧ Same H H6, ?_, ?_⟩
    · refine ⟨_, rfl, rfl, _, rfl, iteD2 (fun _ => ?_) (fun _ => ⟨us, rfl, hm5, hus, s5⟩)⟩
      refine ⟨_, rfl, _, rfl, m4, _, rfl, .inl (SqL.of hm5), _, _, rfl, rfl, _, rfl, iteD (fun hin => ?_) (fun _ => ⟨us, rfl, hm5, hus, s5⟩)⟩
      rw [List.length_map] at hin
      obtain ⟨x1, hx1⟩ := script_at (ns := us) (j := 0) (by omega) (by omega)
      have i1 : ixN (us.map V.int).length sp = some sp.toNat := by
        unfold ixN
        rw [if_pos m1, if_pos (by rw [List.length_map]; exact hin)]
      refine ⟨_, rfl, m4, _, 0, _, rfl, rfl, SqL.of hm5, hx1, _, rfl, _, rfl, m4, _, _, _, rfl, rfl, hm5, i1, ?_⟩
      refine ⟨us.set sp.toNat x1, rfl, ?_, by rw [List.length_set]; exact hus, fun b ob h => ?_⟩
      · rw [upd_same, List.map_set]
      · rw [upd_ne (ne_of_none h hmn4)]
        exact s5 _ _ h
    rintro σ H6 ⟨ws, rfl, hm6, hws, s6⟩
    -- a number that is none
    refine ⟨fun σ H7 => ∃ (m : Addr) (rs : List Int) (v5 v6 v7 : Option V), σ = [some (.ref o), some (.int z), some (.ref m), some (.int wy), some (.int sp), v5, v6, v7] ∧ H7 m = some (.lst (rs.map V.int)) ∧ rs.length ≤ os.length + 2 ∧ Same H H7, ?_, ?_⟩
    · refine ⟨_, rfl, rfl, _, rfl, iteD (fun _ => ?_) (fun _ => ⟨_, ws, _, _, _, rfl, hm6, by omega, s6⟩)⟩
      refine ⟨_, rfl, _, rfl, m4, _, rfl, .inl (SqL.of hm6), _, rfl, _, rfl, m4, _, rfl, .inl (SqL.of hm6), _, _, rfl, rfl, _, rfl, _, rfl, _, _, rfl, rfl, Nat.le_of_ble_eq_true rfl, fun p1 hp1 => ?_⟩
      have t1 := Same.upd (o := .lst [.int (-1), .int (((ws.map V.int).length : Nat) : Int), .int (-2), .int (0 - (((ws.map V.int).length : Nat) : Int)), .int 100000000000000000000, .int (0 - 100000000000000000000)]) hp1
      obtain ⟨num, hnum⟩ := odd6 (((ws.map V.int).length : Nat) : Int) (z * 48271 % 1087 % 6) (by omega) (by omega)
      refine ⟨_, rfl, _, rfl, _, _, rfl, rfl, .inr ⟨by decide, by decide⟩, _, _, rfl, rfl, (by show (0 : Int) < _; omega), _, _, rfl, rfl, (by show (0 : Int) < _; omega), p1, _, _, _, rfl, rfl, SqL.of upd_same, hnum, ?_⟩
      have hm7 := t1 _ _ hm6
      have s7 := s6.trans t1
      generalize upd H6 p1 (.lst [.int (-1), .int (((ws.map V.int).length : Nat) : Int), .int (-2), .int (0 - (((ws.map V.int).length : Nat) : Int)), .int 100000000000000000000, .int (0 - 100000000000000000000)]) = H7 at hm7 s7 ⊢
      refine ⟨_, rfl, _, rfl, _, rfl, m4, _, rfl, SqL.of hm7, fun p2 hp2 => ?_⟩
      have t2 := Same.upd (o := .lst (cutV (ws.map V.int) none (some sp))) hp2
      have q2 := upd_same (H := H7) (a := p2) (o := .lst (cutV (ws.map V.int) none (some sp)))
      generalize upd H7 p2 (.lst (cutV (ws.map V.int) none (some sp))) = H8 at t2 q2 ⊢
      refine ⟨_, rfl, Nat.le_of_ble_eq_true rfl, fun p3 hp3 => ?_⟩
      have t3 := Same.upd (o := .lst [.int num]) hp3
      have q3 := upd_same (H := H8) (a := p3) (o := .lst [.int num])
      generalize upd H8 p3 (.lst [.int num]) = H9 at t3 q3 ⊢
      have h1 := cutI_len ws none (some sp)
      have h2 := cutI_hi ws m1
      have h3 := cutI_lo ws (show 0 ≤ sp + 1 by omega)
      refine ⟨p2, p3, _, _, rfl, rfl, t3 _ _ q2, q3, ?_, fun p4 hp4 => ?_⟩
      · rw [cut_ints, List.length_map]
        show _ + 1 ≤ _
        omega
      have t4 := Same.upd (o := .lst (cutV (ws.map V.int) none (some sp) ++ [.int num])) hp4
      have q4 := upd_same (H := H9) (a := p4) (o := .lst (cutV (ws.map V.int) none (some sp) ++ [.int num]))
      generalize upd H9 p4 (.lst (cutV (ws.map V.int) none (some sp) ++ [.int num])) = H10 at t4 q4 ⊢
      have t24 := (t2.trans t3).trans t4
      refine ⟨_, rfl, _, rfl, _, _, rfl, rfl, _, rfl, m4, _, rfl, SqL.of (t24 _ _ hm7), fun p5 hp5 => ?_⟩
      have t5 := Same.upd (o := .lst (cutV (ws.map V.int) (some (sp + 1)) none)) hp5
      have q5 := upd_same (H := H10) (a := p5) (o := .lst (cutV (ws.map V.int) (some (sp + 1)) none))
      generalize upd H10 p5 (.lst (cutV (ws.map V.int) (some (sp + 1)) none)) = H11 at t5 q5 ⊢
      refine ⟨p4, p5, _, _, rfl, rfl, t5 _ _ q4, q5, ?_, fun p6 hp6 => ?_⟩
      · rw [cut_ints, cut_ints, List.length_append, List.length_map, List.length_map]
        show _ + 1 + _ ≤ _
        omega
      · refine ⟨p6, (cutI ws none (some sp) ++ [num]) ++ cutI ws (some (sp + 1)) none, _, _, _, rfl, ?_, ?_, ((s7.trans t24).trans t5).trans (Same.upd hp6)⟩
        · rw [upd_same, List.map_append, List.map_append, cut_ints, cut_ints]
          rfl
        · rw [List.length_append, List.length_append]
          show _ + 1 + _ ≤ _
          omega
    rintro σ H7 ⟨m7, rs, v5, v6, v7, rfl, hm7, hrs7, s7⟩
    exact ⟨_, rfl, k H7 m7 rs s7 hm7 (by omega)⟩
--@split
/-- the law's step -/
def stepB (cs : List Cl) (os : List Int) (i : Nat) : Bool :=
  decide (0 ≤ os.getD i 0) && decide (os.getD i 0 < cs.length) && !(os.take i).contains (os.getD i 0) &&
    (iotaZ 0 cs.length).all fun j => (os.take i).contains j || decide (j = os.getD i 0) || !decide ((clAt cs j).e < (clAt cs (os.getD i 0)).b)
def lawT (cs : List Cl) (os : List Int) : Bool := (List.range os.length).all (stepB cs os) && (iotaZ 0 cs.length).all fun j => os.contains j
theorem time_eq (cs : List Cl) (os : List Int) : (eachB cs.length os && timeB cs os) = lawT cs os := by
  rw [Bool.eq_iff_iff, Bool.and_eq_true]
  unfold eachB timeB lawT stepB
  simp only [List.isPerm_iff, List.all_eq_true, List.mem_range, Bool.and_eq_true, Bool.or_eq_true, decide_eq_true_eq, Bool.not_eq_true', List.any_eq_false, decide_eq_false_iff_not, List.contains_iff_mem]
  constructor
  · rintro ⟨hp, ht⟩
    have hnd : os.Nodup := (hp.nodup_iff).mpr (nodup_iota _)
    have hm : ∀ x, x ∈ os ↔ 0 ≤ x ∧ x < cs.length := fun x => hp.mem_iff.trans mem_iota
    refine ⟨fun i hi => ?_, fun j hj => hp.mem_iff.mpr hj⟩
    rw [getD_at hi]
    have him := (hm os[i]).mp (List.getElem_mem hi)
    refine ⟨⟨⟨him.1, him.2⟩, ?_⟩, fun j hj => ?_⟩
    · rw [Bool.eq_false_iff]
      intro z
      obtain ⟨q, h, hq, e⟩ := mem_take.mp (List.contains_iff_mem.mp z)
      have := nodup_get hnd e
      omega
    · by_cases h1 : j ∈ os.take i
      · exact .inl (.inl h1)
      · by_cases h2 : j = os[i]
        · exact .inl (.inr h2)
        · refine .inr ?_
          obtain ⟨q, hq, e⟩ := List.getElem_of_mem (hp.mem_iff.mpr hj)
          have hqi : i < q := by
            rcases Nat.lt_trichotomy q i with z | z | z
            · exact absurd (mem_take.mpr ⟨q, hq, z, e⟩) h1
            · subst z; exact absurd e.symm h2
            · exact z
          have := ht q hq os[i] (mem_take.mpr ⟨i, hi, hqi, rfl⟩)
          rw [getD_at hq, e] at this
          exact this
  · rintro ⟨hs, ha⟩
    have hs' : ∀ i (hi : i < os.length), (0 ≤ os[i] ∧ os[i] < cs.length) ∧ os[i] ∉ os.take i ∧ ∀ j, j ∈ iotaZ 0 cs.length → (j ∈ os.take i ∨ j = os[i]) ∨ ¬ (clAt cs j).e < (clAt cs os[i]).b := fun i hi => by
      have := hs i hi
      rw [getD_at hi] at this
      obtain ⟨⟨h1, h2⟩, h3⟩ := this
      refine ⟨h1, fun z => ?_, h3⟩
      rw [List.contains_iff_mem.mpr z] at h2
      cases h2
    have hnd : os.Nodup := by
      rw [List.nodup_iff_pairwise_ne, List.pairwise_iff_getElem]
      intro i j hi hj hij e
      exact (hs' j hj).2.1 (mem_take.mpr ⟨i, hi, hij, e⟩)
    have hmem : ∀ x, x ∈ os ↔ x ∈ iotaZ 0 cs.length := fun x => by
      constructor
      · intro h
        obtain ⟨i, hi, rfl⟩ := List.getElem_of_mem h
        exact mem_iota.mpr (hs' i hi).1
      · exact ha x
    refine ⟨perm_of_mem hnd (nodup_iota _) hmem, fun i hi f hf => ?_⟩
    rw [getD_at hi]
    obtain ⟨q, hq, hqi, rfl⟩ := mem_take.mp hf
    rcases (hs' q hq).2.2 os[i] ((hmem _).mp (List.getElem_mem hi)) with (h | h) | h
    · obtain ⟨r, hr, hrq, e⟩ := mem_take.mp h
      have := nodup_get hnd e
      omega
    · have := nodup_get hnd h
      omega
    · exact h
/-- one j is no reason against the i-th -/
def okJ (cs : List Cl) (os : List Int) (i : Nat) (j : Int) : Bool := (os.take i).contains j || decide (j = os.getD i 0) || !decide ((clAt cs j).e < (clAt cs (os.getD i 0)).b)
theorem step_no {cs : List Cl} {os : List Int} {i : Nat} (h : ¬ 0 ≤ os.getD i 0 ∨ ¬ os.getD i 0 < cs.length ∨ (os.take i).contains (os.getD i 0) = true ∨ ∃ j ∈ iotaZ 0 cs.length, okJ cs os i j = false) : stepB cs os i = false := by
  unfold stepB
  rcases h with h | h | h | ⟨j, hj, h⟩
  · rw [decide_eq_false h]; rfl
  · rw [decide_eq_false h, Bool.and_false]; rfl
  · rw [h]; simp
  · rw [Bool.and_eq_false_iff]
    exact .inr (List.all_eq_false.mpr ⟨j, hj, fun z => by unfold okJ at h; rw [h] at z; cases z⟩)
theorem step_yes {cs : List Cl} {os : List Int} {i : Nat} (h0 : 0 ≤ os.getD i 0) (h1 : os.getD i 0 < cs.length) (h2 : (os.take i).contains (os.getD i 0) = false) (h3 : ∀ j ∈ iotaZ 0 cs.length, okJ cs os i j = true) : stepB cs os i = true := by
  unfold stepB
  rw [decide_eq_true h0, decide_eq_true h1, h2]
  exact List.all_eq_true.mpr h3
theorem law_no {cs : List Cl} {os : List Int} {i : Nat} (hi : i < os.length) (h : stepB cs os i = false) : lawT cs os = false := by
  unfold lawT
  rw [Bool.and_eq_false_iff]
  exact .inl (List.all_eq_false.mpr ⟨i, List.mem_range.mpr hi, by rw [h]; decide⟩)
def goneL (n : Nat) (pre : List Int) : List Bool := (iotaZ 0 n).map fun j => pre.contains j
theorem goneL_len (n : Nat) (pre : List Int) : (goneL n pre).length = n := by simp [goneL, iotaZ]
theorem goneL_get {n : Nat} {pre : List Int} {k : Nat} (hk : k < n) : (goneL n pre)[k]? = some (pre.contains (k : Int)) := by
  unfold goneL iotaZ
  rw [List.getElem?_map, List.getElem?_map, List.getElem?_range hk]
  simp
theorem goneL_at {n : Nat} {pre : List Int} {z : Int} (h0 : 0 ≤ z) (h1 : z < n) : atI ((goneL n pre).map V.bl) z = some (.bl (pre.contains z)) := by
  obtain ⟨k, rfl⟩ : ∃ k : Nat, z = (k : Int) := ⟨z.toNat, by omega⟩
  refine atI_nat ?_
  rw [List.getElem?_map, goneL_get (by omega)]
  rfl
theorem goneL_set {n : Nat} {pre : List Int} {z : Int} (h0 : 0 ≤ z) (h1 : z < n) : ((goneL n pre).map V.bl).set z.toNat (.bl true) = (goneL n (pre ++ [z])).map V.bl := by
  rw [show V.bl true = V.bl (true) from rfl, ← List.map_set]
  congr 1
  apply List.ext_getElem?
  intro k
  rw [List.getElem?_set]
  by_cases hk : k < n
  · rw [goneL_get hk, goneL_get hk, goneL_len]
    by_cases e : z.toNat = k
    · rw [if_pos e, if_pos (by omega)]
      have : (pre ++ [z]).contains (k : Int) = true := by
        rw [List.contains_iff_mem]
        have : (k : Int) = z := by omega
        simp [this]
      rw [this]
    · rw [if_neg e]
      have : (pre ++ [z]).contains (k : Int) = pre.contains (k : Int) := by
        rw [Bool.eq_iff_iff, List.contains_iff_mem, List.contains_iff_mem, List.mem_append, List.mem_singleton]
        constructor
        · rintro (h | h)
          · exact h
          · exact absurd h (by omega)
        · exact .inl
      rw [this]
  · rw [List.getElem?_eq_none (by rw [goneL_len]; omega), if_neg (by omega), List.getElem?_eq_none (by rw [goneL_len]; omega)]
theorem flat_rep {α : Type} (n : Nat) (a : α) : (List.replicate n [a]).flatten = List.replicate n a := by
  induction n with
  | zero => rfl
  | succ k ih => rw [List.replicate_succ, List.flatten_cons, ih, List.replicate_succ]; rfl
theorem goneL_nil (n : Nat) : List.replicate n (V.bl false) = (goneL n []).map V.bl := by
  apply List.ext_getElem?
  intro k
  rw [List.getElem?_map]
  by_cases hk : k < n
  · rw [goneL_get hk, List.getElem?_replicate_of_lt hk]; rfl
  · rw [List.getElem?_eq_none (by simpa using hk), List.getElem?_eq_none (by rw [goneL_len]; omega)]; rfl
theorem goneL_all (n : Nat) (os : List Int) : decide (goneL n os = List.replicate n true) = (iotaZ 0 n).all fun j => os.contains j := by
  rw [Bool.eq_iff_iff, decide_eq_true_eq, List.all_eq_true]
  constructor
  · intro h j hj
    obtain ⟨h0, h1⟩ := mem_iota.mp hj
    have h2 := goneL_get (n := n) (pre := os) (k := j.toNat) (by omega)
    rw [h, List.getElem?_replicate_of_lt (by omega), show ((j.toNat : Nat) : Int) = j by omega] at h2
    exact (Option.some.inj h2).symm
  · intro h
    apply List.ext_getElem?
    intro k
    by_cases hk : k < n
    · rw [goneL_get hk, List.getElem?_replicate_of_lt hk, h (k : Int) (mem_iota.mpr ⟨by omega, by omega⟩)]
    · rw [List.getElem?_eq_none (by rw [goneL_len]; omega), List.getElem?_eq_none (by simpa using hk)]
def spLK (K : PySem.W.Frag) : Sp := fun vs H Q _ => ∃ (l o : Addr) (k : Str) (xs : List V) (cs : List Cl) (os : List Int), vs = [.ref l, .ref o] ∧ SqL K H l xs ∧ Calls K H k xs cs ∧ SqL K H o (os.map V.int) ∧ xs.length ≤ 63 ∧ ∀ H', Same H H' → Q (.bl (lawT cs os)) H'
theorem ok__law_keeps_time (F : Fun K "_law_keeps_time" "_law_keeps_time" s__law_keeps_time f fd) (B : Bl mg) : FnOk P w K mg base CX0 1 f fd ["_law_calls", "_law_order"] (spLK K) := by
  refine F.ok sc__law_keeps_time (fun vs H Q E h => ?_) (fun cdv A outer s H vs Q E hr h => ?_)
  · obtain ⟨l, o, k, xs, cs, os, rfl, _⟩ := h; rfl
  · obtain ⟨l, o, kd, xs, cs, os, rfl, hS, hC, hO, hlen, k⟩ := h
    have hsz : sizeLine = 16777216 := sizeLine_eq
    have hcl := hC.len
    refine ⟨_, (pss_cons (ps_set (i := 2) sc__law_keeps_time.nd rfl (by first | exact Or.inl rfl | exact Or.inr rfl) (pe_op op_rep (pe_lst (pa_cons pe_bl pa_nil)) (pe_callB call_len_seq rfl B.len_ PySem.boot_len (pa_cons (pv 0) pa_nil))))
    (pss_cons (ps_for PassesOwn.never rfl (pi_list (pv 1)) (pg_name (i := 3) sc__law_keeps_time.nd rfl (by first | exact Or.inl rfl | exact Or.inr rfl))
    (pss_cons (ps_if (PW.pt (pw_or (pt_cmpR op_lt (pv 3) pe_int (nomark _)) (pw_or (pt_cmpR op_ge (pv 3) (pe_callB call_len_seq rfl B.len_ PySem.boot_len (pa_cons (pv 0) pa_nil)) (nomark _)) (pw_or1 (pt_val (pe_ix ix_list (pv 2) (pv 3) (fun _ _ => rfl)))))))
    (pss_one (ps_ret pe_bl)) pss_nil)
    (pss_cons (ps_for PassesOwn.never rfl (pi_range1 rfl B.range_ (pa_cons (pe_callB call_len_seq rfl B.len_ PySem.boot_len (pa_cons (pv 0) pa_nil)) pa_nil)) (pg_name (i := 4) sc__law_keeps_time.nd rfl (by first | exact Or.inl rfl | exact Or.inr rfl))
    (pss_one (ps_if (PW.pt (pw_and (pt_not (pt_val (pe_ix ix_list (pv 2) (pv 4) (fun _ _ => rfl)))) (pw_and (pt_cmpR op_ne (pv 4) (pv 3) (nomark _)) (pw_and1 (pt_cmpR op_lt (pe_ix ix_tup (pe_ix ix_list (pv 0) (pv 4) (fun _ _ => rfl)) pe_int (fun _ _ => rfl)) (pe_ix ix_tup (pe_ix ix_list (pv 0) (pv 3) (fun _ _ => rfl)) pe_int (fun _ _ => rfl)) (nomark _))))))
    (pss_one (ps_ret pe_bl)) pss_nil)))
    (pss_one (ps_asg pe_bl (pg_sub (pv 2) (pv 3) set_list))))))
    (pss_one (ps_ret (pe_cmpR (op_eqBL hr.units) (pv 2) (pe_op op_rep (pe_lst (pa_cons pe_bl pa_nil)) (pe_callB call_len_seq rfl B.len_ PySem.boot_len (pa_cons (pv 0) pa_nil))) (nomark _)))))), ?_⟩
    refine ⟨Nat.le_of_ble_eq_true rfl, fun p hp => ?_⟩
    have t1 := Same.upd (o := .lst [.bl false]) hp
    refine ⟨_, rfl, l, xs, rfl, .inl (t1.seq hS), p, _, _, rfl, rfl, upd_same, by omega, by omega, ?_, fun g hg => ?_⟩
    · show 1 * _ ≤ _
      omega
    have hgH : H g = none := none_of t1 hg
    have t2 := Same.upd (o := .lst (List.replicate ((xs.length : Int)).toNat [V.bl false]).flatten) hg
    have q2 := upd_same (H := upd H p (.lst [.bl false])) (a := g) (o := .lst (List.replicate ((xs.length : Int)).toNat [V.bl false]).flatten)
    rw [flat_rep, show ((xs.length : Int)).toNat = cs.length by omega, goneL_nil] at t2 q2 ⊢
    have s2 : Same H _ := t1.trans t2
    generalize upd (upd H p (.lst [.bl false])) g (.lst ((goneL cs.length []).map V.bl)) = H2 at q2 s2 ⊢
    clear t1 t2
    have hget : ∀ (i : Nat) (y : V), (os.map V.int)[i]? = some y → i < os.length ∧ y = V.int (os.getD i 0) ∧ os.take (i + 1) = os.take i ++ [os.getD i 0] := fun i y hi => by
      rw [List.getElem?_map] at hi
      obtain ⟨z, hz, rfl⟩ := Option.map_eq_some_iff.mp hi
      have e : os.getD i 0 = z := by rw [List.getD_eq_getElem?_getD, hz]; rfl
      exact ⟨(List.getElem?_eq_some_iff.mp hz).1, by rw [e], by rw [e]; exact take_snoc hz⟩
    refine ⟨_, rfl, o, rfl, ⟨_, s2.seq hO⟩, for_list (K := K) (a := o) (xs := os.map V.int) (fun i σ H3 => ∃ v3 v4, σ = [some (.ref l), some (.ref o), some (.ref g), v3, v4] ∧ Same H H3 ∧ H3 g = some (.lst ((goneL cs.length (os.take i)).map V.bl)) ∧ ∀ q < i, stepB cs os q = true)
      ⟨none, none, rfl, s2, q2, fun q hq => absurd hq (Nat.not_lt_zero _)⟩ (fun i σ H3 _ ⟨_, _, _, s3, _⟩ => s3.seq hO) ?_ ?_⟩
    · rintro i y σ H3 hi ⟨v3, v4, rfl, s3, hg3, hok⟩
      obtain ⟨hil, rfl, htk⟩ := hget i y hi
      have no : stepB cs os i = false → Q (.bl false) H3 := fun h => by
        have := k _ s3
        rw [law_no hil h] at this
        exact this
      refine ⟨_, rfl, _, _, rfl, rfl, _, rfl, ?_⟩
      by_cases h1 : os.getD i 0 < 0
      · exact iteP (decide_eq_true h1) (iteT (no (step_no (.inl (by omega)))))
      refine iteN (by rw [decide_eq_false h1]; decide) ⟨_, rfl, _, rfl, l, _, rfl, .inl (s3.seq hS), _, _, rfl, rfl, _, rfl, ?_⟩
      by_cases h2 : (((xs.length : Nat) : Int)) ≤ os.getD i 0
      · exact iteP (decide_eq_true h2) (iteT (no (step_no (.inr (.inl (by omega))))))
      have h0 : 0 ≤ os.getD i 0 := by omega
      have hlt : os.getD i 0 < (cs.length : Int) := by omega
      refine iteN (by rw [decide_eq_false h2]; decide) ⟨_, rfl, _, rfl, g, _, _, _, rfl, rfl, SqL.of hg3, goneL_at h0 hlt, _, rfl, ?_⟩
      cases h3 : (os.take i).contains (os.getD i 0) with
      | true => exact iteT (no (step_no (.inr (.inr (.inl h3)))))
      | false =>
      refine iteF ?_
      refine ⟨_, rfl, l, _, rfl, .inl (s3.seq hS), ((xs.length : Nat) : Int), rfl, by omega, by omega, for_range (lo := 0) (fun j σ H4 => ∃ v4, σ = [some (.ref l), some (.ref o), some (.ref g), some (.int (os.getD i 0)), v4] ∧ H4 = H3 ∧ ∀ q < j, okJ cs os i ((q : Nat) : Int) = true)
        ⟨_, rfl, rfl, fun q hq => absurd hq (Nat.not_lt_zero _)⟩ ?_ ?_⟩
      · rintro j σ H4 hj ⟨v4, rfl, rfl, hoj⟩
        have hjl : (0 + (j : Int)) < (cs.length : Int) := by omega
        have hj0 : (0 : Int) ≤ 0 + (j : Int) := by omega
        have hjm : (0 + (j : Int)) ∈ iotaZ 0 cs.length := mem_iota.mpr ⟨hj0, hjl⟩
        have stay : okJ cs os i (0 + (j : Int)) = true → ∃ v4, [some (V.ref l), some (.ref o), some (.ref g), some (.int (os.getD i 0)), some (.int (0 + (j : Int)))] = [some (.ref l), some (.ref o), some (.ref g), some (.int (os.getD i 0)), v4] ∧ H4 = H4 ∧ ∀ q < j + 1, okJ cs os i ((q : Nat) : Int) = true := fun h => by
          refine ⟨_, rfl, rfl, fun q hq => ?_⟩
          rcases Nat.lt_succ_iff_lt_or_eq.mp hq with hq | rfl
          · exact hoj q hq
          · rw [show ((q : Nat) : Int) = 0 + (q : Int) by omega]; exact h
        refine ⟨_, rfl, _, rfl, g, _, _, _, rfl, rfl, SqL.of hg3, goneL_at hj0 hjl, _, rfl, ?_⟩
        cases e1 : (os.take i).contains (0 + (j : Int)) with
        | true => exact iteF (iteF (stay (by unfold okJ; rw [e1]; rfl)))
        | false =>
        refine iteT ⟨_, rfl, _, rfl, rfl, _, rfl, ?_⟩
        by_cases e2 : (0 + (j : Int)) = os.getD i 0
        · refine iteN (by rw [decide_eq_true (congrArg V.int e2)]; decide) (iteF (stay ?_))
          unfold okJ
          rw [decide_eq_true e2]
          simp
        refine iteP (by rw [decide_eq_false (fun z => e2 (V.int.inj z))]; rfl) ?_
        obtain ⟨u, hu, ⟨t, q, rfl, ht, _⟩, _⟩ := (hC.keep s3).num (i := 0 + (j : Int)) hj0 hjl
        obtain ⟨u', hu', ⟨t', q', rfl, ht', _⟩, _⟩ := (hC.keep s3).num h0 hlt
        refine ⟨_, rfl, _, rfl, l, _, _, _, rfl, rfl, s3.seq hS, hu, t, _, 1, _, rfl, rfl, ht, at1, _, rfl, _, rfl, l, _, _, _, rfl, rfl, s3.seq hS, hu', t', _, 0, _, rfl, rfl, ht', at0, _, _, rfl, rfl, _, rfl, ?_⟩
        by_cases e3 : (clAt cs (0 + (j : Int))).e < (clAt cs (os.getD i 0)).b
        · refine iteP (decide_eq_true e3) (no (step_no (.inr (.inr (.inr ⟨_, hjm, ?_⟩)))))
          unfold okJ
          rw [e1, decide_eq_false e2, decide_eq_true e3]
          rfl
        · refine iteN (by rw [decide_eq_false e3]; decide) (stay ?_)
          unfold okJ
          rw [decide_eq_false e3]
          simp
      · rintro σ H4 ⟨v4, rfl, rfl, hoj⟩
        have i1 : ixN ((goneL cs.length (os.take i)).map V.bl).length (os.getD i 0) = some (os.getD i 0).toNat := by
          unfold ixN
          rw [if_pos h0, if_pos (by rw [List.length_map, goneL_len]; exact hlt)]
        refine ⟨_, rfl, _, rfl, g, _, _, _, rfl, rfl, hg3, i1, ?_⟩
        refine ⟨_, _, rfl, fun b ob h => ?_, ?_, fun q hq => ?_⟩
        · rw [upd_ne (ne_of_none h hgH)]
          exact s3 _ _ h
        · rw [upd_same, htk, goneL_set h0 hlt]
        · rcases Nat.lt_succ_iff_lt_or_eq.mp hq with hq | rfl
          · exact hok q hq
          · refine step_yes h0 hlt h3 fun j hj => ?_
            obtain ⟨a1, a2⟩ := mem_iota.mp hj
            have := hoj j.toNat (by omega)
            rw [show ((j.toNat : Nat) : Int) = j by omega] at this
            exact this
    · rintro σ H3 ⟨v3, v4, rfl, s3, hg3, hok⟩
      rw [List.length_map] at hok hg3
      rw [List.take_length] at hg3
      refine ⟨_, rfl, Nat.le_of_ble_eq_true rfl, fun p hp => ?_⟩
      have t1 := Same.upd (o := .lst [.bl true]) hp
      refine ⟨_, rfl, l, xs, rfl, .inl ((s3.trans t1).seq hS), p, _, _, rfl, rfl, upd_same, by omega, by omega, ?_, fun q hq => ?_⟩
      · show 1 * _ ≤ _
        omega
      have t2 := Same.upd (o := .lst (List.replicate ((xs.length : Int)).toNat [V.bl true]).flatten) hq
      refine ⟨g, q, goneL cs.length os, List.replicate cs.length true, rfl, rfl, SqL.of (t2 _ _ (t1 _ _ hg3)), SqL.of ?_, ?_⟩
      · rw [upd_same, flat_rep, show ((xs.length : Int)).toNat = cs.length by omega, List.map_replicate]
      · rw [goneL_all]
        have := k _ ((s3.trans t1).trans t2)
        unfold lawT at this
        rw [List.all_eq_true.mpr fun i hi => hok i (List.mem_range.mp hi)] at this
        exact this
--@split
def spHolds (K : PySem.W.Frag) : Sp := fun vs H Q _ => ∃ (k : Str) (l o : Addr) (xs : List V) (cs : List Cl) (os : List Int), vs = [.str k, .ref l, .ref o] ∧ (k = "row" ∨ k = "number") ∧ SqL K H l xs ∧ Calls K H k xs cs ∧ SqL K H o (os.map V.int) ∧ xs.length ≤ 63 ∧ os.length < 64 ∧
  ∀ H', Same H H' → Q (.bl (lawT cs os && ansB k cs os)) H'
theorem ok__law_holds (F : Fun K "_law_holds" "_law_holds" s__law_holds f fd) (B : Bl mg) (g__law_done : FnX P w K mg base "_law_done" 1 (spDone K)) (g__law_keeps_time : FnX P w K mg base "_law_keeps_time" 1 (spLK K)) :
    FnOk P w K mg base CX0 2 f fd ["_law_kind", "_law_calls", "_law_order"] (spHolds K) := by
  refine F.ok sc__law_holds (fun vs H Q E h => ?_) (fun cdv A outer s H vs Q E hr h => ?_)
  · obtain ⟨k, l, o, xs, cs, os, rfl, _⟩ := h; rfl
  · obtain ⟨kd, l, o, xs, cs, os, rfl, hk, hS, hC, hO, hlen, h64, k⟩ := h
    refine ⟨_, (pss_cons (ps_if (pt_not (pt_val (pe_fnX g__law_keeps_time passN hr rfl (pa_cons (pv 1) (pa_cons (pv 2) pa_nil)))))
    (pss_one (ps_ret pe_bl)) pss_nil)
    (pss_cons (ps_set (i := 3) sc__law_holds.nd rfl (by first | exact Or.inl rfl | exact Or.inr rfl) (pe_ix ix_list (pe_lst (pa_cons pe_int (pa_cons (pe_lst pa_nil) pa_nil))) (pe_callTy call_int1 rfl B.int_ PyProof.Rows.boot_int (pa_cons (pe_cmpR op_eq (pv 0) pe_str (nomark _)) pa_nil)) (fun _ _ => rfl)))
    (pss_cons (ps_for PassesOwn.never rfl (pi_list (pv 2)) (pg_name (i := 4) sc__law_holds.nd rfl (by first | exact Or.inl rfl | exact Or.inr rfl))
    (pss_cons (ps_asg (pe_fnX g__law_done passN hr rfl (pa_cons (pv 0) (pa_cons (pv 3) (pa_cons (pe_ix ix_tup (pe_ix ix_list (pv 1) (pv 4) (fun _ _ => rfl)) pe_int (fun _ _ => rfl)) pa_nil)))) (pg_tup rfl (pgs_cons (pg_name (i := 3) sc__law_holds.nd rfl (by first | exact Or.inl rfl | exact Or.inr rfl)) (pgs_cons (pg_name (i := 5) sc__law_holds.nd rfl (by first | exact Or.inl rfl | exact Or.inr rfl)) pgs_nil))))
    (pss_one (ps_if (PW.pt (pw_or (pt_cmpR op_ne (pe_cmpR op_isN (pv 5) pe_non (nomark _)) (pe_cmpR op_isN (pe_ix ix_tup (pe_ix ix_list (pv 1) (pv 4) (fun _ _ => rfl)) pe_int (fun _ _ => rfl)) pe_non (nomark _)) (nomark _)) (pw_or1 (pt_cmpR op_ne (pv 5) (pe_ix ix_tup (pe_ix ix_list (pv 1) (pv 4) (fun _ _ => rfl)) pe_int (fun _ _ => rfl)) (nomark _)))))
    (pss_one (ps_ret pe_bl)) pss_nil))))
    (pss_one (ps_ret pe_bl))))), ?_⟩
    refine ⟨_, rfl, _, rfl, l, o, kd, xs, cs, os, rfl, hS, hC, hO, hlen, fun H1 s1 => ⟨_, rfl, ?_⟩⟩
    cases eT : lawT cs os with
    | false =>
      have := k _ s1
      rw [eT] at this
      exact iteT this
    | true =>
    refine iteF ?_
    have hin : ∀ i : Int, i ∈ os → 0 ≤ i ∧ i < cs.length := by
      have e := time_eq cs os
      rw [eT, Bool.and_eq_true] at e
      exact each_in e.1
    refine ⟨Nat.le_of_ble_eq_true rfl, fun e he => ⟨Nat.le_of_ble_eq_true rfl, fun q hq => ?_⟩⟩
    have s2 : Same H1 (upd (upd H1 e (.lst [])) q (.lst [.int 0, .ref e])) := (Same.upd he).trans (Same.upd hq)
    have he2 : (upd (upd H1 e (.lst [])) q (.lst [.int 0, .ref e])) e = some (.lst (([] : List Int).map V.int)) := Same.upd hq _ _ upd_same
    have hq2 : (upd (upd H1 e (.lst [])) q (.lst [.int 0, .ref e])) q = some (.lst [.int 0, .ref e]) := upd_same
    generalize upd (upd H1 e (.lst [])) q (.lst [.int 0, .ref e]) = H2 at s2 he2 hq2 ⊢
    obtain ⟨x0, hx0, hT0⟩ : ∃ x0, atI [V.int 0, .ref e] (if decide (V.str kd = V.str "row") = true then 1 else 0) = some x0 ∧ LThing K H2 kd x0 (t0 kd) := by
      rcases hk with rfl | rfl
      · exact ⟨_, at1, .row he2⟩
      · exact ⟨_, at0, .num⟩
    refine ⟨_, rfl, rfl, .inr ⟨_, rfl, q, _, _, _, rfl, rfl, SqL.of hq2, hx0, ?_⟩⟩
    have s12 := s1.trans s2
    have hget : ∀ (i : Nat) (y : V), (os.map V.int)[i]? = some y → ∃ z, os[i]? = some z ∧ y = V.int z := fun i y hi => by
      rw [List.getElem?_map] at hi
      obtain ⟨z, hz, rfl⟩ := Option.map_eq_some_iff.mp hi
      exact ⟨z, hz, rfl⟩
    refine ⟨_, rfl, o, rfl, ⟨_, s12.seq hO⟩, for_list (K := K) (a := o) (xs := os.map V.int) (fun i σ H3 => ∃ x v4 v5, σ = [some (.str kd), some (.ref l), some (.ref o), some x, v4, v5] ∧ LThing K H3 kd x (stT (t0 kd) ((os.map fun i => (clAt cs i).d).take i)) ∧ Same H H3 ∧
      ∀ (q : Nat) z, q < i → os[q]? = some z → (ansT (t0 kd) (os.map fun i => (clAt cs i).d))[q]? = some (clAt cs z).a) ⟨x0, none, none, rfl, hT0, s12, fun q z hq => absurd hq (Nat.not_lt_zero _)⟩ (fun i σ H3 _ ⟨_, _, _, _, _, s3, _⟩ => s3.seq hO) ?_ ?_⟩
    · rintro i y σ H3 hi ⟨x, v4, v5, rfl, hTh, s3, hok⟩
      obtain ⟨z, hz, rfl⟩ := hget i y hi
      have hzz := hin z (List.mem_of_getElem? hz)
      have hd : (os.map fun i => (clAt cs i).d)[i]? = some (clAt cs z).d := by rw [List.getElem?_map, hz]; rfl
      obtain ⟨u, hu, ⟨t, qd, rfl, ht, hqd⟩, hokc⟩ := (hC.keep s3).num hzz.1 hzz.2
      have hil : i < os.length := (List.getElem?_eq_some_iff.mp hz).1
      have hsz2 : sizeT (stT (t0 kd) ((os.map fun i => (clAt cs i).d).take i)) ≤ 1000 := by
        have h1 := size_st ((os.map fun i => (clAt cs i).d).take i) (t0 kd)
        have h2 : sizeT (t0 kd) = 0 := by rcases hk with rfl | rfl <;> rfl
        have h3 : ((os.map fun i => (clAt cs i).d).take i).length ≤ i := by rw [List.length_take]; exact Nat.min_le_left _ _
        omega
      refine ⟨_, rfl, _, rfl, _, rfl, _, rfl, l, _, _, _, rfl, rfl, s3.seq hS, hu, t, _, 2, _, rfl, rfl, ht, at2, kd, x, _, qd, (clAt cs z).d.1, (clAt cs z).d.2, rfl, hTh, hsz2, hqd, good_has hk hokc.2.1, fun H4 p y s4 hp hy _ => ?_⟩
      refine ⟨p, _, rfl, SqT.of hp, rfl, _, _, rfl, _, _, rfl, rfl, ?_⟩
      have s34 := s3.trans s4
      have hu4 : SqL K H4 l xs := s34.seq hS
      have ht4 := Same.tup s4 ht
      have han := ansT_at (os.map fun i => (clAt cs i).d) (t0 kd) i _ hd
      have hy' : LThing K H4 kd y (stT (t0 kd) ((os.map fun i => (clAt cs i).d).take (i + 1))) := by
        rw [take_snoc hd, stT_snoc]
        exact hy
      have no : (doT (stT (t0 kd) ((os.map fun i => (clAt cs i).d).take i)) (clAt cs z).d.1 (clAt cs z).d.2).2 ≠ (clAt cs z).a → Q (.bl false) H4 := fun h => by
        have := k _ s34
        have ef : ansB kd cs os = false := by
          unfold ansB
          refine decide_eq_false fun e => h ?_
          rw [e, List.getElem?_map, hz] at han
          exact (Option.some.inj han).symm
        rw [eT, ef] at this
        exact this
      have yes : (doT (stT (t0 kd) ((os.map fun i => (clAt cs i).d).take i)) (clAt cs z).d.1 (clAt cs z).d.2).2 = (clAt cs z).a → ∀ (q : Nat) z', q < i + 1 → os[q]? = some z' → (ansT (t0 kd) (os.map fun i => (clAt cs i).d))[q]? = some (clAt cs z').a := fun h q z' hq hz' => by
        rcases Nat.lt_succ_iff_lt_or_eq.mp hq with hq | rfl
        · exact hok q z' hq hz'
        · rw [hz] at hz'
          rw [← Option.some.inj hz', han, h]
      refine ⟨_, rfl, rfl, _, rfl, _, rfl, l, _, _, _, rfl, rfl, hu4, hu, t, _, 3, _, rfl, rfl, ht4, at3, rfl, rfl, _, rfl, ?_⟩
      generalize (doT (stT (t0 kd) ((os.map fun i => (clAt cs i).d).take i)) (clAt cs z).d.1 (clAt cs z).d.2).2 = o1 at no yes ⊢
      generalize hao : (clAt cs z).a = o2 at no yes ⊢
      have hne : decide (aV o1 = aV o2) = decide (o1 = o2) := by
        rw [decide_eq_decide]
        constructor
        · intro h
          cases o1 <;> cases o2 <;> first | rfl | (cases h; rfl) | cases h
        · rintro rfl; rfl
      rw [hao] at ht4
      by_cases e0 : decide (aV o1 = V.non) = decide (aV o2 = V.non)
      · refine iteN (by rw [e0]; simp) ⟨_, rfl, _, rfl, _, rfl, l, _, _, _, rfl, rfl, hu4, hu, t, _, 3, _, rfl, rfl, ht4, at3, ?_⟩
        refine ⟨by cases o1 <;> cases o2 <;> rfl, _, rfl, ?_⟩
        by_cases e1 : o1 = o2
        · exact iteN (by rw [hne, decide_eq_true e1]; decide) ⟨y, _, _, rfl, hy', s34, yes e1⟩
        · exact iteP (by rw [hne, decide_eq_false e1]; rfl) (no e1)
      · refine iteP ?_ (iteT (no fun h => e0 (by rw [h])))
        cases ea : decide (aV o1 = V.non) <;> cases eb : decide (aV o2 = V.non) <;> first | rfl | (rw [ea, eb] at e0; exact absurd rfl e0)
    · rintro σ H3 ⟨x, v4, v5, rfl, _, s3, hok⟩
      rw [List.length_map] at hok
      have ea : ansB kd cs os = true := by
        unfold ansB
        refine decide_eq_true ?_
        apply List.ext_getElem?
        intro i
        by_cases hil : i < os.length
        · rw [hok i os[i] hil (List.getElem?_eq_getElem hil), List.getElem?_map, List.getElem?_eq_getElem hil]
          rfl
        · rw [List.getElem?_eq_none (by rw [ansT_len, List.length_map]; omega), List.getElem?_eq_none (by rw [List.length_map]; omega)]
      have := k _ s3
      rw [eT, ea] at this
      exact this
--@split
/-! ### the law -/
def spLaw (K : PySem.W.Frag) : Sp := fun vs H Q _ => ∃ (a : Addr) (ns : List Int), vs = [.ref a] ∧ SqL K H a (ns.map V.int) ∧ ns.length ≤ 63 ∧ ∀ H', Q (.bl true) H'
theorem is_two {K : PySem.W.Frag} {H : Hp} {h a b : Addr} {k : Str} {vs : List V} {cs : List Cl} {os : List Int} (hh : SqL K H h [.ref a, .ref b]) (ha : SqL K H a vs) (hC : Calls K H k vs cs) (hb : SqL K H b (os.map V.int)) :
    Is K H (.list [.list (cs.map callD), .list (os.map PyData.int)]) (.ref h) := by
  have h1 := is_calls ha hC
  have h2 := is_ints hb
  rw [Is, ]
  refine ⟨h, _, rfl, hh, ?_⟩
  simp only [IsAll]
  exact ⟨_, _, rfl, h1, _, _, rfl, h2, rfl⟩
theorem cmp_two {K : PySem.W.Frag} {H : Hp} {k : Str} {vs : List V} {cs : List Cl} (hC : Calls K H k vs cs) (os : List Int) : Cmp (.list [.list (cs.map callD), .list (os.map PyData.int)]) := by
  have c1 := cmp_calls hC
  have c2 := cmp_ints os
  refine ⟨?_, by simp only [noBl, noBls, Bool.and_true]; rw [Bool.and_eq_true]; exact ⟨by have := c1.2; simpa only [noBl] using this, by have := c2.2; simpa only [noBl] using this⟩⟩
  have h1 := c1.1
  have h2 := c2.1
  have d1 := depth_calls cs
  unfold SeqAt.shaped at h1 h2 ⊢
  rw [Bool.and_eq_true] at h1 h2 ⊢
  refine ⟨by simp only [PyData.canLay0, PyData.canLayAll0, Bool.and_true]; rw [Bool.and_eq_true]; exact ⟨by have := h1.1; simpa only [PyData.canLay0] using this, by have := h2.1; simpa only [PyData.canLay0] using this⟩, ?_⟩
  have e2 := of_decide_eq_true h2.2
  refine decide_eq_true ?_
  simp only [PyData.depth, PyData.depthAll] at e2 ⊢
  have d2 : PyData.depthAll (os.map PyData.int) = 0 := by
    clear e2 h2 c2
    induction os with
    | nil => simp [PyData.depthAll]
    | cons x r ih => simp [PyData.depthAll, PyData.depth, ih]
  rw [d2]
  omega
theorem ok_law (F : Fun K "law" "law" s_law f fd) (B : Bl mg) (g__law_at : FnX P w K mg base "_law_at" 1 (spAt K)) (g__law_by_points : FnX P w K mg base "_law_by_points" 1 (spBy K)) (g__law_harmed : FnX P w K mg base "_law_harmed" 1 (spHarm K))
    (g__law_holds : FnX P w K mg base "_law_holds" 2 (spHolds K)) (g__law_kept : FnX P w K mg base "_law_kept" 2 (spKept K)) (g__law_spoilt : FnX P w K mg base "_law_spoilt" 1 (spSpoilt K)) (g_is_order : FnX P w K mg base "is_order" 7 (spIs K)) :
    FnOk P w K mg base CX0 8 f fd ["_law_script"] (spLaw K) := by
  refine F.ok sc_law (fun vs H Q E h => ?_) (fun cdv A outer s H vs Q E hr h => ?_)
  · obtain ⟨a, ns, rfl, _⟩ := h; rfl
  · obtain ⟨a, ns, rfl, hS, hlen, k⟩ := h
    have hsz : sizeLine = 16777216 := sizeLine_eq
    refine ⟨_, (pss_cons (ps_set (i := 1) sc_law.nd rfl (by first | exact Or.inl rfl | exact Or.inr rfl) (pe_ix ix_list (pe_lst (pa_cons pe_str (pa_cons pe_str pa_nil))) (pe_op op_mod (pe_op op_mod (pe_op op_mul (pe_fnX g__law_at passN hr rfl (pa_cons (pv 0) (pa_cons pe_int pa_nil))) pe_int) pe_int) pe_int) (fun _ _ => rfl)))
    (pss_cons (ps_set (i := 2) sc_law.nd rfl (by first | exact Or.inl rfl | exact Or.inr rfl) (pe_ix ix_list (pe_lst (pa_cons pe_int (pa_cons pe_int (pa_cons pe_int (pa_cons pe_int pa_nil))))) (pe_op op_mod (pe_op op_mod (pe_op op_mul (pe_fnX g__law_at passN hr rfl (pa_cons (pv 0) (pa_cons pe_int pa_nil))) pe_int) pe_int) pe_int) (fun _ _ => rfl)))
    (pss_cons (ps_set (i := 3) sc_law.nd rfl (by first | exact Or.inl rfl | exact Or.inr rfl) (pe_fnX g__law_kept passN hr rfl (pa_cons (pe_slice sl_list (pv 0) (po_some pe_int) (po_some pe_int)) (pa_cons (pv 1) (pa_cons pe_str (pa_cons (pv 2) pa_nil))))))
    (pss_cons (ps_set (i := 3) sc_law.nd rfl (by first | exact Or.inl rfl | exact Or.inr rfl) (pe_fnX g__law_spoilt passN hr rfl (pa_cons (pv 3) (pa_cons (pe_fnX g__law_at passN hr rfl (pa_cons (pv 0) (pa_cons pe_int pa_nil))) pa_nil))))
    (pss_cons (ps_set (i := 4) sc_law.nd rfl (by first | exact Or.inl rfl | exact Or.inr rfl) (pe_fnX g__law_harmed passN hr rfl (pa_cons (pe_fnX g__law_by_points passN hr rfl (pa_cons (pv 3) pa_nil)) (pa_cons (pe_fnX g__law_at passN hr rfl (pa_cons (pv 0) (pa_cons pe_int pa_nil))) pa_nil))))
    (pss_cons (ps_set (i := 5) sc_law.nd rfl (by first | exact Or.inl rfl | exact Or.inr rfl) (pe_lst (pa_cons (pe_callTy call_list_of rfl B.list_ PyProof.Rows.boot_list (pa_cons (pv 3) pa_nil)) (pa_cons (pe_callTy call_list_of rfl B.list_ PyProof.Rows.boot_list (pa_cons (pv 4) pa_nil)) pa_nil))))
    (pss_cons (ps_set (i := 6) sc_law.nd rfl (by first | exact Or.inl rfl | exact Or.inr rfl) (pe_fnX g_is_order passN hr rfl (pa_cons (pv 1) (pa_cons (pe_ix ix_list (pv 5) pe_int (fun _ _ => rfl)) (pa_cons (pe_ix ix_list (pv 5) pe_int (fun _ _ => rfl)) pa_nil)))))
    (pss_cons (ps_if (PW.pt (pw_or (pt_cmpR (op_neD hr.units) (pv 5) (pe_lst (pa_cons (pv 3) (pa_cons (pv 4) pa_nil))) (nomark _)) (pw_or1 (pt_not (pt_val (pe_callB call_isi rfl B.isinstance_ PyProof.Rows.boot_isinstance (pa_cons (pv 6) (pa_cons (pe_bltn (v := .ty "bool") rfl B.bool_ PyProof.Rows.boot_bool rfl) pa_nil))))))))
    (pss_one (ps_ret pe_bl)) pss_nil)
    (pss_one (ps_ret (pe_cmpR op_eq (pv 6) (pe_fnX g__law_holds passN hr rfl (pa_cons (pv 1) (pa_cons (pv 3) (pa_cons (pv 4) pa_nil)))) (nomark _)))))))))))), ?_⟩
    refine ⟨Nat.le_of_ble_eq_true rfl, fun p0 hp0 => ?_⟩
    have s0 : Same H (upd H p0 (.lst [.str "row", .str "number"])) := Same.upd hp0
    obtain ⟨kd, hk, hkd⟩ : ∃ kd : Str, (kd = "row" ∨ kd = "number") ∧ atI [V.str "row", .str "number"] (ns.getD (0 : Int).toNat 0 * 48271 % 1091 % 2) = some (.str kd) := by
      have : ns.getD (0 : Int).toNat 0 * 48271 % 1091 % 2 = 0 ∨ ns.getD (0 : Int).toNat 0 * 48271 % 1091 % 2 = 1 := by omega
      rcases this with e | e <;> rw [e]
      · exact ⟨_, .inl rfl, at0⟩
      · exact ⟨_, .inr rfl, at1⟩
    refine ⟨_, rfl, a, ns, 0, rfl, s0.seq hS, by decide, _, _, rfl, rfl, .inr ⟨by decide, by decide⟩, _, _, rfl, rfl, (by show (0 : Int) < _; omega), _, _, rfl, rfl, (by show (0 : Int) < _; omega), p0, _, _, _, rfl, rfl, SqL.of upd_same, hkd, ?_⟩
    generalize upd H p0 (.lst [.str "row", .str "number"]) = H0 at s0 ⊢
    refine ⟨Nat.le_of_ble_eq_true rfl, fun p1 hp1 => ?_⟩
    have s1 : Same H0 (upd H0 p1 (.lst [.int 3, .int 12, .int 25, .int 60])) := Same.upd hp1
    obtain ⟨wd, hwd, hwa⟩ : ∃ wd : Int, 0 < wd ∧ atI [V.int 3, .int 12, .int 25, .int 60] (ns.getD (0 : Int).toNat 0 * 48271 % 1093 % 4) = some (.int wd) := by
      have : ns.getD (0 : Int).toNat 0 * 48271 % 1093 % 4 = 0 ∨ ns.getD (0 : Int).toNat 0 * 48271 % 1093 % 4 = 1 ∨ ns.getD (0 : Int).toNat 0 * 48271 % 1093 % 4 = 2 ∨ ns.getD (0 : Int).toNat 0 * 48271 % 1093 % 4 = 3 := by omega
      rcases this with e | e | e | e <;> rw [e]
      · exact ⟨_, by decide, at0⟩
      · exact ⟨_, by decide, at1⟩
      · exact ⟨_, by decide, at2⟩
      · exact ⟨_, by decide, at3⟩
    refine ⟨_, rfl, a, ns, 0, rfl, (s0.trans s1).seq hS, by decide, _, _, rfl, rfl, .inr ⟨by decide, by decide⟩, _, _, rfl, rfl, (by show (0 : Int) < _; omega), _, _, rfl, rfl, (by show (0 : Int) < _; omega), p1, _, _, _, rfl, rfl, SqL.of upd_same, hwa, ?_⟩
    have s01 := s0.trans s1
    generalize upd H0 p1 (.lst [.int 3, .int 12, .int 25, .int 60]) = H1 at s01 ⊢
    -- the calls
    refine ⟨_, rfl, 3, rfl, 33, rfl, a, _, rfl, s01.seq hS, fun p2 hp2 => ?_⟩
    have s2 : Same H1 (upd H1 p2 (.lst (cutV (ns.map V.int) (some 3) (some 33)))) := Same.upd hp2
    have q2 : (upd H1 p2 (.lst (cutV (ns.map V.int) (some 3) (some 33)))) p2 = some (.lst ((cutI ns (some 3) (some 33)).map V.int)) := by rw [upd_same, cut_ints]
    have hcl : (cutI ns (some 3) (some 33)).length ≤ 30 := by
      unfold cutI
      rw [show (some (3 : Int)) = some (((3 : Nat)) : Int) from rfl, show (some (33 : Int)) = some (((33 : Nat)) : Int) from rfl, HT.sIx_nat, HT.sIx_nat, List.length_take, List.length_drop]
      omega
    generalize upd H1 p2 (.lst (cutV (ns.map V.int) (some 3) (some 33))) = H2 at s2 q2 ⊢
    have s02 := s01.trans s2
    refine ⟨_, rfl, _, rfl, p2, cutI ns (some 3) (some 33), kd, wd, rfl, SqL.of q2, by omega, hk, hwd, fun H3 g3 v3 c3 s3 hg3 hC3 hl3 => ?_⟩
    have s03 := s02.trans s3
    refine ⟨_, rfl, _, rfl, a, ns, 1, rfl, s03.seq hS, by decide, g3, _, kd, v3, c3, rfl, SqL.of hg3, hC3, by omega, fun H4 g4 v4 c4 s4 hg4 hC4 hl4 => ?_⟩
    have s04 := s03.trans s4
    refine ⟨_, rfl, g4, kd, v4, c4, rfl, SqL.of hg4, hC4, by omega, fun H5 g5 o5 s5 hg5 hl5 => ?_⟩
    have s05 := s04.trans s5
    refine ⟨_, rfl, a, ns, 2, rfl, s05.seq hS, by decide, g5, _, o5, rfl, SqL.of hg5, by omega, fun H6 g6 os s6 hg6 h64 => ?_⟩
    have hg46 := s6 _ _ (s5 _ _ hg4)
    have hC6 := hC4.keep (s5.trans s6)
    -- handed
    refine ⟨_, rfl, g4, v4, rfl, .inl (SqL.of hg46), fun l1 hl1 => ?_⟩
    have t1 : Same H6 (upd H6 l1 (.lst v4)) := Same.upd hl1
    have r1 : (upd H6 l1 (.lst v4)) l1 = some (.lst v4) := upd_same
    generalize upd H6 l1 (.lst v4) = H7 at t1 r1 ⊢
    refine ⟨_, rfl, g6, _, rfl, .inl (SqL.of (t1 _ _ hg6)), fun l2 hl2 => ?_⟩
    have t2 : Same H7 (upd H7 l2 (.lst (os.map V.int))) := Same.upd hl2
    have r2 : (upd H7 l2 (.lst (os.map V.int))) l2 = some (.lst (os.map V.int)) := upd_same
    generalize upd H7 l2 (.lst (os.map V.int)) = H8 at t2 r2 ⊢
    refine ⟨Nat.le_of_ble_eq_true rfl, fun l3 hl3 => ?_⟩
    have t3 : Same H8 (upd H8 l3 (.lst [.ref l1, .ref l2])) := Same.upd hl3
    have r3 : (upd H8 l3 (.lst [.ref l1, .ref l2])) l3 = some (.lst [.ref l1, .ref l2]) := upd_same
    generalize upd H8 l3 (.lst [.ref l1, .ref l2]) = H9 at t3 r3 ⊢
    have t69 := (t1.trans t2).trans t3
    have r19 := t3 _ _ (t2 _ _ r1)
    have r29 := t3 _ _ r2
    refine ⟨_, rfl, _, rfl, l3, _, 0, _, rfl, rfl, SqL.of r3, at0, _, rfl, l3, _, 1, _, rfl, rfl, SqL.of r3, at1, kd, l1, l2, v4, c4, os, rfl, hk, SqL.of r19, hC6.keep t69, SqL.of r29, h64, by omega, fun H10 s10 => ?_⟩
    have t610 := t69.trans s10
    -- handed is as it was
    refine ⟨_, rfl, _, rfl, _, rfl, Nat.le_of_ble_eq_true rfl, fun l4 hl4 => ?_⟩
    have t4 : Same H10 (upd H10 l4 (.lst [.ref g4, .ref g6])) := Same.upd hl4
    have r4 : (upd H10 l4 (.lst [.ref g4, .ref g6])) l4 = some (.lst [.ref g4, .ref g6]) := upd_same
    generalize upd H10 l4 (.lst [.ref g4, .ref g6]) = H11 at t4 r4 ⊢
    have t611 := t610.trans t4
    have t911 := s10.trans t4
    have hC11 := hC6.keep t611
    refine ⟨_, _, is_two (SqL.of (t911 _ _ r3)) (SqL.of (t911 _ _ r19)) hC11 (SqL.of (t911 _ _ r29)), is_two (SqL.of r4) (SqL.of (t611 _ _ hg46)) hC11 (SqL.of (t611 _ _ hg6)), cmp_two hC11 os, cmp_two hC11 os, _, rfl, iteN (by rw [same_self]; decide) ?_⟩
    refine ⟨_, rfl, _, _, .type "bool", true, rfl, TyOf.bl _, kit_bb, _, rfl, iteF ?_⟩
    refine ⟨_, rfl, _, rfl, _, rfl, _, rfl, kd, g4, g6, v4, c4, os, rfl, hk, SqL.of (t611 _ _ hg46), hC11, SqL.of (t611 _ _ hg6), by omega, h64, fun H12 s12 => ⟨rfl, ?_⟩⟩
    have e : (eachB c4.length os && (timeB c4 os && ansB kd c4 os)) = (lawT c4 os && ansB kd c4 os) := by rw [← time_eq, Bool.and_assoc]
    rw [e, decide_eq_true rfl]
    exact k _
end
theorem tp_mk {P : Program} {w : World} {K : PySem.W.Frag} {h : Heap} {mg : Str → Option Value} (X : K.In h) (G : h.Ns mainGlobals mg) {st pt r b n : Addr} {t1 t2 t3 ne : Nat} {its : List ((Str × Nat) × (Str × Nat) × Addr × Value)} {np : Nat}
    (aS : PySem.W.nsIn K mainGlobals "STARTS" = some (some (.ref st))) (aP : PySem.W.nsIn K mainGlobals "PARTS" = some (some (.ref pt))) (aN : PySem.W.nsIn K mainGlobals "NoKind" = some (some (.ref n))) (aB : PySem.W.nsIn K mainGlobals "BadCall" = some (some (.ref b)))
    (lS : K.lookup st = some ⟨.type "dict", none, .dict #[⟨PyData.keyHash w.params "row", .str "row" t1, .ref r⟩, ⟨PyData.keyHash w.params "number", .str "number" t2, .int 0 t3⟩] ne, #[]⟩)
    (lr : K.lookup r = some ⟨.type "tuple", none, .seq #[] 0, #[]⟩) (hS : (st == sysModules) = false) (hP : (pt == sysModules) = false)
    (lP : K.lookup pt = some ⟨.type "dict", none, .dict (its.map fun x => (⟨reduceHash (Builtin.Tuple.tupleHashOf [PyData.keyHash w.params x.1.1, PyData.keyHash w.params x.2.1.1]), .ref x.2.2.1, x.2.2.2⟩ : DictEntry)).toArray np, #[]⟩)
    (hit : ∀ x ∈ its, K.lookup x.2.2.1 = some ⟨.type "tuple", none, .seq #[.str x.1.1 x.1.2, .str x.2.1.1 x.2.1.2] 0, #[]⟩)
    (hk : Paired (fun (p : List Key × V) (q : List Key × Addr × Value) => p.1 = q.1 ∧ RelV p.2 q.2.2) partsV (its.map fun x => ([(Sum.inr x.1.1 : Key), Sum.inr x.2.1.1], x.2.2.1, x.2.2.2))) (nd : (its.map fun x => (x.1.1, x.2.1.1)).Nodup)
    (xN : PySem.W.excIn K n [.type "ValueError", .type "Exception", .type "BaseException", .type "object"] "ValueError.__new__" = true) (xB : PySem.W.excIn K b [.type "ValueError", .type "Exception", .type "BaseException", .type "object"] "ValueError.__new__" = true)
    (e1 : PySem.W.exmOne K (.ref b) (.ref b) = some true) (e2 : PySem.W.exmOne K (.ref n) (.ref b) = some false) (e3 : PySem.W.exmOne K (.ref n) (.ref n) = some true) : Tp P w K mg st pt r b n where
  mST := PySem.W.mg_of X G aS
  mPT := PySem.W.mg_of X G aP
  tST := topK_texts (xs := [("row", t1, .ref r), ("number", t2, .int 0 t3)]) lS hS (.cons ⟨rfl, rfl⟩ (.cons ⟨rfl, _, rfl⟩ .nil)) (by show (["row", "number"] : List Str).Nodup; decide)
  tPT := topT_pairs lP hit hP hk nd
  em := fun _ => .inr ⟨_, #[], 0, lr, rfl, rfl, Nat.zero_le _, .nil⟩
  kN := ⟨PySem.W.mg_of X G aN, xN⟩
  kB := ⟨PySem.W.mg_of X G aB, xB⟩
  e1 := e1
  e2 := e2
  e3 := e3
theorem all_mk {l : PySem.W.OpenLaw} {w : World} {K : PySem.W.Frag} {h : Heap} {mg : Str → Option Value} {fa : Addr} (X : K.In h) (G : h.Ns mainGlobals mg) (hfa : mg "law" = some (.ref fa)) {st pt r b n : Addr} (T : Tp l.prog w K mg st pt r b n)
    {f0 : Addr} {od0 an0 : Option Addr} {sl0 : Array (Option Value)} {oc0 kV0 dc0 pm0 cd0 ct0 : Value}
    (a0 : PySem.W.nsIn K mainGlobals "check_kind" = some (some (.ref f0))) (l0 : K.lookup f0 = some ⟨oc0, od0, .func (PySem.W.fnOf "check_kind" "check_kind" (defArgs s_check_kind) (defBody s_check_kind) (defScope s_check_kind) .none kV0 dc0 pm0 an0 cd0 ct0), sl0⟩) (c0 : PySem.W.codeIn K cd0 "check_kind" = true) (k0 : PySem.W.keepIn K (.ref f0) = true)
    {f1 : Addr} {od1 an1 : Option Addr} {sl1 : Array (Option Value)} {oc1 kV1 dc1 pm1 cd1 ct1 : Value}
    (a1 : PySem.W.nsIn K mainGlobals "start" = some (some (.ref f1))) (l1 : K.lookup f1 = some ⟨oc1, od1, .func (PySem.W.fnOf "start" "start" (defArgs s_start) (defBody s_start) (defScope s_start) .none kV1 dc1 pm1 an1 cd1 ct1), sl1⟩) (c1 : PySem.W.codeIn K cd1 "start" = true) (k1 : PySem.W.keepIn K (.ref f1) = true)
    {f2 : Addr} {od2 an2 : Option Addr} {sl2 : Array (Option Value)} {oc2 kV2 dc2 pm2 cd2 ct2 : Value}
    (a2 : PySem.W.nsIn K mainGlobals "is_whole_number" = some (some (.ref f2))) (l2 : K.lookup f2 = some ⟨oc2, od2, .func (PySem.W.fnOf "is_whole_number" "is_whole_number" (defArgs s_is_whole_number) (defBody s_is_whole_number) (defScope s_is_whole_number) .none kV2 dc2 pm2 an2 cd2 ct2), sl2⟩) (c2 : PySem.W.codeIn K cd2 "is_whole_number" = true) (k2 : PySem.W.keepIn K (.ref f2) = true)
    {f3 : Addr} {od3 an3 : Option Addr} {sl3 : Array (Option Value)} {oc3 kV3 dc3 pm3 cd3 ct3 : Value}
    (a3 : PySem.W.nsIn K mainGlobals "has_parts" = some (some (.ref f3))) (l3 : K.lookup f3 = some ⟨oc3, od3, .func (PySem.W.fnOf "has_parts" "has_parts" (defArgs s_has_parts) (defBody s_has_parts) (defScope s_has_parts) .none kV3 dc3 pm3 an3 cd3 ct3), sl3⟩) (c3 : PySem.W.codeIn K cd3 "has_parts" = true) (k3 : PySem.W.keepIn K (.ref f3) = true)
    {f4 : Addr} {od4 an4 : Option Addr} {sl4 : Array (Option Value)} {oc4 kV4 dc4 pm4 cd4 ct4 : Value}
    (a4 : PySem.W.nsIn K mainGlobals "can_do" = some (some (.ref f4))) (l4 : K.lookup f4 = some ⟨oc4, od4, .func (PySem.W.fnOf "can_do" "can_do" (defArgs s_can_do) (defBody s_can_do) (defScope s_can_do) .none kV4 dc4 pm4 an4 cd4 ct4), sl4⟩) (c4 : PySem.W.codeIn K cd4 "can_do" = true) (k4 : PySem.W.keepIn K (.ref f4) = true)
    {f5 : Addr} {od5 an5 : Option Addr} {sl5 : Array (Option Value)} {oc5 kV5 dc5 pm5 cd5 ct5 : Value}
    (a5 : PySem.W.nsIn K mainGlobals "check_deed" = some (some (.ref f5))) (l5 : K.lookup f5 = some ⟨oc5, od5, .func (PySem.W.fnOf "check_deed" "check_deed" (defArgs s_check_deed) (defBody s_check_deed) (defScope s_check_deed) .none kV5 dc5 pm5 an5 cd5 ct5), sl5⟩) (c5 : PySem.W.codeIn K cd5 "check_deed" = true) (k5 : PySem.W.keepIn K (.ref f5) = true)
    {f6 : Addr} {od6 an6 : Option Addr} {sl6 : Array (Option Value)} {oc6 kV6 dc6 pm6 cd6 ct6 : Value}
    (a6 : PySem.W.nsIn K mainGlobals "do_row" = some (some (.ref f6))) (l6 : K.lookup f6 = some ⟨oc6, od6, .func (PySem.W.fnOf "do_row" "do_row" (defArgs s_do_row) (defBody s_do_row) (defScope s_do_row) .none kV6 dc6 pm6 an6 cd6 ct6), sl6⟩) (c6 : PySem.W.codeIn K cd6 "do_row" = true) (k6 : PySem.W.keepIn K (.ref f6) = true)
    {f7 : Addr} {od7 an7 : Option Addr} {sl7 : Array (Option Value)} {oc7 kV7 dc7 pm7 cd7 ct7 : Value}
    (a7 : PySem.W.nsIn K mainGlobals "do_number" = some (some (.ref f7))) (l7 : K.lookup f7 = some ⟨oc7, od7, .func (PySem.W.fnOf "do_number" "do_number" (defArgs s_do_number) (defBody s_do_number) (defScope s_do_number) .none kV7 dc7 pm7 an7 cd7 ct7), sl7⟩) (c7 : PySem.W.codeIn K cd7 "do_number" = true) (k7 : PySem.W.keepIn K (.ref f7) = true)
    {f8 : Addr} {od8 an8 : Option Addr} {sl8 : Array (Option Value)} {oc8 kV8 dc8 pm8 cd8 ct8 : Value}
    (a8 : PySem.W.nsIn K mainGlobals "do_deed" = some (some (.ref f8))) (l8 : K.lookup f8 = some ⟨oc8, od8, .func (PySem.W.fnOf "do_deed" "do_deed" (defArgs s_do_deed) (defBody s_do_deed) (defScope s_do_deed) .none kV8 dc8 pm8 an8 cd8 ct8), sl8⟩) (c8 : PySem.W.codeIn K cd8 "do_deed" = true) (k8 : PySem.W.keepIn K (.ref f8) = true)
    {f9 : Addr} {od9 an9 : Option Addr} {sl9 : Array (Option Value)} {oc9 kV9 dc9 pm9 cd9 ct9 : Value}
    (a9 : PySem.W.nsIn K mainGlobals "answers" = some (some (.ref f9))) (l9 : K.lookup f9 = some ⟨oc9, od9, .func (PySem.W.fnOf "answers" "answers" (defArgs s_answers) (defBody s_answers) (defScope s_answers) .none kV9 dc9 pm9 an9 cd9 ct9), sl9⟩) (c9 : PySem.W.codeIn K cd9 "answers" = true) (k9 : PySem.W.keepIn K (.ref f9) = true)
    {f10 : Addr} {od10 an10 : Option Addr} {sl10 : Array (Option Value)} {oc10 kV10 dc10 pm10 cd10 ct10 : Value}
    (a10 : PySem.W.nsIn K mainGlobals "check_times" = some (some (.ref f10))) (l10 : K.lookup f10 = some ⟨oc10, od10, .func (PySem.W.fnOf "check_times" "check_times" (defArgs s_check_times) (defBody s_check_times) (defScope s_check_times) .none kV10 dc10 pm10 an10 cd10 ct10), sl10⟩) (c10 : PySem.W.codeIn K cd10 "check_times" = true) (k10 : PySem.W.keepIn K (.ref f10) = true)
    {f11 : Addr} {od11 an11 : Option Addr} {sl11 : Array (Option Value)} {oc11 kV11 dc11 pm11 cd11 ct11 : Value}
    (a11 : PySem.W.nsIn K mainGlobals "ahead" = some (some (.ref f11))) (l11 : K.lookup f11 = some ⟨oc11, od11, .func (PySem.W.fnOf "ahead" "ahead" (defArgs s_ahead) (defBody s_ahead) (defScope s_ahead) .none kV11 dc11 pm11 an11 cd11 ct11), sl11⟩) (c11 : PySem.W.codeIn K cd11 "ahead" = true) (k11 : PySem.W.keepIn K (.ref f11) = true)
    {f12 : Addr} {od12 an12 : Option Addr} {sl12 : Array (Option Value)} {oc12 kV12 dc12 pm12 cd12 ct12 : Value}
    (a12 : PySem.W.nsIn K mainGlobals "check_calls" = some (some (.ref f12))) (l12 : K.lookup f12 = some ⟨oc12, od12, .func (PySem.W.fnOf "check_calls" "check_calls" (defArgs s_check_calls) (defBody s_check_calls) (defScope s_check_calls) .none kV12 dc12 pm12 an12 cd12 ct12), sl12⟩) (c12 : PySem.W.codeIn K cd12 "check_calls" = true) (k12 : PySem.W.keepIn K (.ref f12) = true)
    {f13 : Addr} {od13 an13 : Option Addr} {sl13 : Array (Option Value)} {oc13 kV13 dc13 pm13 cd13 ct13 : Value}
    (a13 : PySem.W.nsIn K mainGlobals "has_each_once" = some (some (.ref f13))) (l13 : K.lookup f13 = some ⟨oc13, od13, .func (PySem.W.fnOf "has_each_once" "has_each_once" (defArgs s_has_each_once) (defBody s_has_each_once) (defScope s_has_each_once) .none kV13 dc13 pm13 an13 cd13 ct13), sl13⟩) (c13 : PySem.W.codeIn K cd13 "has_each_once" = true) (k13 : PySem.W.keepIn K (.ref f13) = true)
    {f14 : Addr} {od14 an14 : Option Addr} {sl14 : Array (Option Value)} {oc14 kV14 dc14 pm14 cd14 ct14 : Value}
    (a14 : PySem.W.nsIn K mainGlobals "keeps_time" = some (some (.ref f14))) (l14 : K.lookup f14 = some ⟨oc14, od14, .func (PySem.W.fnOf "keeps_time" "keeps_time" (defArgs s_keeps_time) (defBody s_keeps_time) (defScope s_keeps_time) .none kV14 dc14 pm14 an14 cd14 ct14), sl14⟩) (c14 : PySem.W.codeIn K cd14 "keeps_time" = true) (k14 : PySem.W.keepIn K (.ref f14) = true)
    {f15 : Addr} {od15 an15 : Option Addr} {sl15 : Array (Option Value)} {oc15 kV15 dc15 pm15 cd15 ct15 : Value}
    (a15 : PySem.W.nsIn K mainGlobals "gives_the_answers" = some (some (.ref f15))) (l15 : K.lookup f15 = some ⟨oc15, od15, .func (PySem.W.fnOf "gives_the_answers" "gives_the_answers" (defArgs s_gives_the_answers) (defBody s_gives_the_answers) (defScope s_gives_the_answers) .none kV15 dc15 pm15 an15 cd15 ct15), sl15⟩) (c15 : PySem.W.codeIn K cd15 "gives_the_answers" = true) (k15 : PySem.W.keepIn K (.ref f15) = true)
    {f16 : Addr} {od16 an16 : Option Addr} {sl16 : Array (Option Value)} {oc16 kV16 dc16 pm16 cd16 ct16 : Value}
    (a16 : PySem.W.nsIn K mainGlobals "is_order" = some (some (.ref f16))) (l16 : K.lookup f16 = some ⟨oc16, od16, .func (PySem.W.fnOf "is_order" "is_order" (defArgs s_is_order) (defBody s_is_order) (defScope s_is_order) .none kV16 dc16 pm16 an16 cd16 ct16), sl16⟩) (c16 : PySem.W.codeIn K cd16 "is_order" = true) (k16 : PySem.W.keepIn K (.ref f16) = true)
    {f17 : Addr} {od17 an17 : Option Addr} {sl17 : Array (Option Value)} {oc17 kV17 dc17 pm17 cd17 ct17 : Value}
    (a17 : PySem.W.nsIn K mainGlobals "_law_at" = some (some (.ref f17))) (l17 : K.lookup f17 = some ⟨oc17, od17, .func (PySem.W.fnOf "_law_at" "_law_at" (defArgs s__law_at) (defBody s__law_at) (defScope s__law_at) .none kV17 dc17 pm17 an17 cd17 ct17), sl17⟩) (c17 : PySem.W.codeIn K cd17 "_law_at" = true) (k17 : PySem.W.keepIn K (.ref f17) = true)
    {f18 : Addr} {od18 an18 : Option Addr} {sl18 : Array (Option Value)} {oc18 kV18 dc18 pm18 cd18 ct18 : Value}
    (a18 : PySem.W.nsIn K mainGlobals "_law_done" = some (some (.ref f18))) (l18 : K.lookup f18 = some ⟨oc18, od18, .func (PySem.W.fnOf "_law_done" "_law_done" (defArgs s__law_done) (defBody s__law_done) (defScope s__law_done) .none kV18 dc18 pm18 an18 cd18 ct18), sl18⟩) (c18 : PySem.W.codeIn K cd18 "_law_done" = true) (k18 : PySem.W.keepIn K (.ref f18) = true)
    {f19 : Addr} {od19 an19 : Option Addr} {sl19 : Array (Option Value)} {oc19 kV19 dc19 pm19 cd19 ct19 : Value}
    (a19 : PySem.W.nsIn K mainGlobals "_law_deed_of" = some (some (.ref f19))) (l19 : K.lookup f19 = some ⟨oc19, od19, .func (PySem.W.fnOf "_law_deed_of" "_law_deed_of" (defArgs s__law_deed_of) (defBody s__law_deed_of) (defScope s__law_deed_of) .none kV19 dc19 pm19 an19 cd19 ct19), sl19⟩) (c19 : PySem.W.codeIn K cd19 "_law_deed_of" = true) (k19 : PySem.W.keepIn K (.ref f19) = true)
    {f20 : Addr} {od20 an20 : Option Addr} {sl20 : Array (Option Value)} {oc20 kV20 dc20 pm20 cd20 ct20 : Value}
    (a20 : PySem.W.nsIn K mainGlobals "_law_kept" = some (some (.ref f20))) (l20 : K.lookup f20 = some ⟨oc20, od20, .func (PySem.W.fnOf "_law_kept" "_law_kept" (defArgs s__law_kept) (defBody s__law_kept) (defScope s__law_kept) .none kV20 dc20 pm20 an20 cd20 ct20), sl20⟩) (c20 : PySem.W.codeIn K cd20 "_law_kept" = true) (k20 : PySem.W.keepIn K (.ref f20) = true)
    {f21 : Addr} {od21 an21 : Option Addr} {sl21 : Array (Option Value)} {oc21 kV21 dc21 pm21 cd21 ct21 : Value}
    (a21 : PySem.W.nsIn K mainGlobals "_law_spoilt" = some (some (.ref f21))) (l21 : K.lookup f21 = some ⟨oc21, od21, .func (PySem.W.fnOf "_law_spoilt" "_law_spoilt" (defArgs s__law_spoilt) (defBody s__law_spoilt) (defScope s__law_spoilt) .none kV21 dc21 pm21 an21 cd21 ct21), sl21⟩) (c21 : PySem.W.codeIn K cd21 "_law_spoilt" = true) (k21 : PySem.W.keepIn K (.ref f21) = true)
    {f22 : Addr} {od22 an22 : Option Addr} {sl22 : Array (Option Value)} {oc22 kV22 dc22 pm22 cd22 ct22 : Value}
    (a22 : PySem.W.nsIn K mainGlobals "_law_keeps_time" = some (some (.ref f22))) (l22 : K.lookup f22 = some ⟨oc22, od22, .func (PySem.W.fnOf "_law_keeps_time" "_law_keeps_time" (defArgs s__law_keeps_time) (defBody s__law_keeps_time) (defScope s__law_keeps_time) .none kV22 dc22 pm22 an22 cd22 ct22), sl22⟩) (c22 : PySem.W.codeIn K cd22 "_law_keeps_time" = true) (k22 : PySem.W.keepIn K (.ref f22) = true)
    {f23 : Addr} {od23 an23 : Option Addr} {sl23 : Array (Option Value)} {oc23 kV23 dc23 pm23 cd23 ct23 : Value}
    (a23 : PySem.W.nsIn K mainGlobals "_law_holds" = some (some (.ref f23))) (l23 : K.lookup f23 = some ⟨oc23, od23, .func (PySem.W.fnOf "_law_holds" "_law_holds" (defArgs s__law_holds) (defBody s__law_holds) (defScope s__law_holds) .none kV23 dc23 pm23 an23 cd23 ct23), sl23⟩) (c23 : PySem.W.codeIn K cd23 "_law_holds" = true) (k23 : PySem.W.keepIn K (.ref f23) = true)
    {f24 : Addr} {od24 an24 : Option Addr} {sl24 : Array (Option Value)} {oc24 kV24 dc24 pm24 cd24 ct24 : Value}
    (a24 : PySem.W.nsIn K mainGlobals "_law_by_points" = some (some (.ref f24))) (l24 : K.lookup f24 = some ⟨oc24, od24, .func (PySem.W.fnOf "_law_by_points" "_law_by_points" (defArgs s__law_by_points) (defBody s__law_by_points) (defScope s__law_by_points) .none kV24 dc24 pm24 an24 cd24 ct24), sl24⟩) (c24 : PySem.W.codeIn K cd24 "_law_by_points" = true) (k24 : PySem.W.keepIn K (.ref f24) = true)
    {f25 : Addr} {od25 an25 : Option Addr} {sl25 : Array (Option Value)} {oc25 kV25 dc25 pm25 cd25 ct25 : Value}
    (a25 : PySem.W.nsIn K mainGlobals "_law_harmed" = some (some (.ref f25))) (l25 : K.lookup f25 = some ⟨oc25, od25, .func (PySem.W.fnOf "_law_harmed" "_law_harmed" (defArgs s__law_harmed) (defBody s__law_harmed) (defScope s__law_harmed) .none kV25 dc25 pm25 an25 cd25 ct25), sl25⟩) (c25 : PySem.W.codeIn K cd25 "_law_harmed" = true) (k25 : PySem.W.keepIn K (.ref f25) = true)
    {f26 : Addr} {od26 an26 : Option Addr} {sl26 : Array (Option Value)} {oc26 kV26 dc26 pm26 cd26 ct26 : Value}
    (a26 : PySem.W.nsIn K mainGlobals "law" = some (some (.ref f26))) (l26 : K.lookup f26 = some ⟨oc26, od26, .func (PySem.W.fnOf "law" "law" (defArgs s_law) (defBody s_law) (defScope s_law) .none kV26 dc26 pm26 an26 cd26 ct26), sl26⟩) (c26 : PySem.W.codeIn K cd26 "law" = true) (k26 : PySem.W.keepIn K (.ref f26) = true)
    (z_any : PySem.W.nsIn K mainGlobals "any" = some none)
    (z_bool : PySem.W.nsIn K mainGlobals "bool" = some none)
    (z_enumerate : PySem.W.nsIn K mainGlobals "enumerate" = some none)
    (z_int : PySem.W.nsIn K mainGlobals "int" = some none)
    (z_isinstance : PySem.W.nsIn K mainGlobals "isinstance" = some none)
    (z_len : PySem.W.nsIn K mainGlobals "len" = some none)
    (z_list : PySem.W.nsIn K mainGlobals "list" = some none)
    (z_range : PySem.W.nsIn K mainGlobals "range" = some none)
    (z_reversed : PySem.W.nsIn K mainGlobals "reversed" = some none)
    (z_sorted : PySem.W.nsIn K mainGlobals "sorted" = some none)
    (z_str : PySem.W.nsIn K mainGlobals "str" = some none)
    : ∃ fd : FuncData, (∀ (s : Shared) (v : Value), BindsTo s fd ⟨[v], []⟩ [("_law_script", v)]) ∧ ∀ base : Heap, K.In base → base.Ns mainGlobals mg → FnOk l.prog w K mg base CX0 40 fa fd ["_law_script"] (spLaw K) := by
  have e := hfa.symm.trans (PySem.W.mg_of X G a26)
  cases e
  have B : Bl mg := ⟨PySem.W.mg_none_of X G z_any, PySem.W.mg_none_of X G z_bool, PySem.W.mg_none_of X G z_enumerate, PySem.W.mg_none_of X G z_int, PySem.W.mg_none_of X G z_isinstance, PySem.W.mg_none_of X G z_len, PySem.W.mg_none_of X G z_list, PySem.W.mg_none_of X G z_range, PySem.W.mg_none_of X G z_reversed, PySem.W.mg_none_of X G z_sorted, PySem.W.mg_none_of X G z_str⟩
  have F0 := fun_mk (st := s_check_kind) l0 c0 k0
  have b0 := F0.binds (ps := ["kind"]) fun _ _ _ _ _ _ us hl => match us, hl with | [_], _ => rfl
  have m0 := PySem.W.mg_of X G a0
  have F1 := fun_mk (st := s_start) l1 c1 k1
  have b1 := F1.binds (ps := ["kind"]) fun _ _ _ _ _ _ us hl => match us, hl with | [_], _ => rfl
  have m1 := PySem.W.mg_of X G a1
  have F2 := fun_mk (st := s_is_whole_number) l2 c2 k2
  have b2 := F2.binds (ps := ["value"]) fun _ _ _ _ _ _ us hl => match us, hl with | [_], _ => rfl
  have m2 := PySem.W.mg_of X G a2
  have F3 := fun_mk (st := s_has_parts) l3 c3 k3
  have b3 := F3.binds (ps := ["deed", "parts"]) fun _ _ _ _ _ _ us hl => match us, hl with | [_, _], _ => rfl
  have m3 := PySem.W.mg_of X G a3
  have F4 := fun_mk (st := s_can_do) l4 c4 k4
  have b4 := F4.binds (ps := ["kind", "deed"]) fun _ _ _ _ _ _ us hl => match us, hl with | [_, _], _ => rfl
  have m4 := PySem.W.mg_of X G a4
  have F5 := fun_mk (st := s_check_deed) l5 c5 k5
  have b5 := F5.binds (ps := ["kind", "deed"]) fun _ _ _ _ _ _ us hl => match us, hl with | [_, _], _ => rfl
  have m5 := PySem.W.mg_of X G a5
  have F6 := fun_mk (st := s_do_row) l6 c6 k6
  have b6 := F6.binds (ps := ["row", "deed"]) fun _ _ _ _ _ _ us hl => match us, hl with | [_, _], _ => rfl
  have m6 := PySem.W.mg_of X G a6
  have F7 := fun_mk (st := s_do_number) l7 c7 k7
  have b7 := F7.binds (ps := ["number", "deed"]) fun _ _ _ _ _ _ us hl => match us, hl with | [_, _], _ => rfl
  have m7 := PySem.W.mg_of X G a7
  have F8 := fun_mk (st := s_do_deed) l8 c8 k8
  have b8 := F8.binds (ps := ["kind", "thing", "deed"]) fun _ _ _ _ _ _ us hl => match us, hl with | [_, _, _], _ => rfl
  have m8 := PySem.W.mg_of X G a8
  have F9 := fun_mk (st := s_answers) l9 c9 k9
  have b9 := F9.binds (ps := ["kind", "deeds"]) fun _ _ _ _ _ _ us hl => match us, hl with | [_, _], _ => rfl
  have m9 := PySem.W.mg_of X G a9
  have F10 := fun_mk (st := s_check_times) l10 c10 k10
  have b10 := F10.binds (ps := ["call"]) fun _ _ _ _ _ _ us hl => match us, hl with | [_], _ => rfl
  have m10 := PySem.W.mg_of X G a10
  have F11 := fun_mk (st := s_ahead) l11 c11 k11
  have b11 := F11.binds (ps := ["one", "other"]) fun _ _ _ _ _ _ us hl => match us, hl with | [_, _], _ => rfl
  have m11 := PySem.W.mg_of X G a11
  have F12 := fun_mk (st := s_check_calls) l12 c12 k12
  have b12 := F12.binds (ps := ["kind", "calls"]) fun _ _ _ _ _ _ us hl => match us, hl with | [_, _], _ => rfl
  have m12 := PySem.W.mg_of X G a12
  have F13 := fun_mk (st := s_has_each_once) l13 c13 k13
  have b13 := F13.binds (ps := ["calls", "order"]) fun _ _ _ _ _ _ us hl => match us, hl with | [_, _], _ => rfl
  have m13 := PySem.W.mg_of X G a13
  have F14 := fun_mk (st := s_keeps_time) l14 c14 k14
  have b14 := F14.binds (ps := ["calls", "order"]) fun _ _ _ _ _ _ us hl => match us, hl with | [_, _], _ => rfl
  have m14 := PySem.W.mg_of X G a14
  have F15 := fun_mk (st := s_gives_the_answers) l15 c15 k15
  have b15 := F15.binds (ps := ["kind", "calls", "order"]) fun _ _ _ _ _ _ us hl => match us, hl with | [_, _, _], _ => rfl
  have m15 := PySem.W.mg_of X G a15
  have F16 := fun_mk (st := s_is_order) l16 c16 k16
  have b16 := F16.binds (ps := ["kind", "calls", "order"]) fun _ _ _ _ _ _ us hl => match us, hl with | [_, _, _], _ => rfl
  have m16 := PySem.W.mg_of X G a16
  have F17 := fun_mk (st := s__law_at) l17 c17 k17
  have b17 := F17.binds (ps := ["_law_script", "_law_k"]) fun _ _ _ _ _ _ us hl => match us, hl with | [_, _], _ => rfl
  have m17 := PySem.W.mg_of X G a17
  have F18 := fun_mk (st := s__law_done) l18 c18 k18
  have b18 := F18.binds (ps := ["_law_kind", "_law_state", "_law_deed"]) fun _ _ _ _ _ _ us hl => match us, hl with | [_, _, _], _ => rfl
  have m18 := PySem.W.mg_of X G a18
  have F19 := fun_mk (st := s__law_deed_of) l19 c19 k19
  have b19 := F19.binds (ps := ["_law_cell", "_law_kind", "_law_thing"]) fun _ _ _ _ _ _ us hl => match us, hl with | [_, _, _], _ => rfl
  have m19 := PySem.W.mg_of X G a19
  have F20 := fun_mk (st := s__law_kept) l20 c20 k20
  have b20 := F20.binds (ps := ["_law_cells", "_law_kind", "_law_thing", "_law_wide"]) fun _ _ _ _ _ _ us hl => match us, hl with | [_, _, _, _], _ => rfl
  have m20 := PySem.W.mg_of X G a20
  have F21 := fun_mk (st := s__law_spoilt) l21 c21 k21
  have b21 := F21.binds (ps := ["_law_calls", "_law_cell"]) fun _ _ _ _ _ _ us hl => match us, hl with | [_, _], _ => rfl
  have m21 := PySem.W.mg_of X G a21
  have F22 := fun_mk (st := s__law_keeps_time) l22 c22 k22
  have b22 := F22.binds (ps := ["_law_calls", "_law_order"]) fun _ _ _ _ _ _ us hl => match us, hl with | [_, _], _ => rfl
  have m22 := PySem.W.mg_of X G a22
  have F23 := fun_mk (st := s__law_holds) l23 c23 k23
  have b23 := F23.binds (ps := ["_law_kind", "_law_calls", "_law_order"]) fun _ _ _ _ _ _ us hl => match us, hl with | [_, _, _], _ => rfl
  have m23 := PySem.W.mg_of X G a23
  have F24 := fun_mk (st := s__law_by_points) l24 c24 k24
  have b24 := F24.binds (ps := ["_law_calls"]) fun _ _ _ _ _ _ us hl => match us, hl with | [_], _ => rfl
  have m24 := PySem.W.mg_of X G a24
  have F25 := fun_mk (st := s__law_harmed) l25 c25 k25
  have b25 := F25.binds (ps := ["_law_order", "_law_cell"]) fun _ _ _ _ _ _ us hl => match us, hl with | [_, _], _ => rfl
  have m25 := PySem.W.mg_of X G a25
  have F26 := fun_mk (st := s_law) l26 c26 k26
  have b26 := F26.binds (ps := ["_law_script"]) fun _ _ _ _ _ _ us hl => match us, hl with | [_], _ => rfl
  have m26 := PySem.W.mg_of X G a26
  refine ⟨PySem.W.fnOf "law" "law" (defArgs s_law) (defBody s_law) (defScope s_law) .none kV26 dc26 pm26 an26 cd26 ct26, fun s v => .of_eq rfl, fun base _ _ => ?_⟩
  have g_check_kind := FnX.mk' (ok_check_kind (P := l.prog) (w := w) (base := base) F0 B T ) m0 k0 b0
  have g_start := (Fn.mk' (ok_start (P := l.prog) (w := w) (base := base) F1 B T g_check_kind) m1 k1 b1).x
  have g_is_whole_number := (Fn.mk' (ok_is_whole_number (P := l.prog) (w := w) (base := base) F2 B  ) m2 k2 b2).x
  have g_has_parts := (Fn.mk' (ok_has_parts (P := l.prog) (w := w) (base := base) F3 B  g_is_whole_number) m3 k3 b3).x
  have g_can_do := (Fn.mk' (ok_can_do (P := l.prog) (w := w) (base := base) F4 B T g_has_parts) m4 k4 b4).x
  have g_check_deed := FnX.mk' (ok_check_deed (P := l.prog) (w := w) (base := base) F5 B T g_can_do g_check_kind) m5 k5 b5
  have g_do_row := (Fn.mk' (ok_do_row (P := l.prog) (w := w) (base := base) F6 B  ) m6 k6 b6).x
  have g_do_number := (Fn.mk' (ok_do_number (P := l.prog) (w := w) (base := base) F7 B  ) m7 k7 b7).x
  have g_do_deed := (Fn.mk' (ok_do_deed (P := l.prog) (w := w) (base := base) F8 B  g_do_number g_do_row) m8 k8 b8).x
  have g_answers := (Fn.mk' (ok_answers (P := l.prog) (w := w) (base := base) F9 B T g_check_deed g_do_deed g_start) m9 k9 b9).x
  have g_check_times := (Fn.mk' (ok_check_times (P := l.prog) (w := w) (base := base) F10 B  ) m10 k10 b10).x
  have g_ahead := (Fn.mk' (ok_ahead (P := l.prog) (w := w) (base := base) F11 B  g_check_times) m11 k11 b11).x
  have g_check_calls := (Fn.mk' (ok_check_calls (P := l.prog) (w := w) (base := base) F12 B T g_check_deed g_check_kind g_check_times) m12 k12 b12).x
  have g_has_each_once := (Fn.mk' (ok_has_each_once (P := l.prog) (w := w) (base := base) F13 B  ) m13 k13 b13).x
  have g_keeps_time := (Fn.mk' (ok_keeps_time (P := l.prog) (w := w) (base := base) F14 B  g_ahead) m14 k14 b14).x
  have g_gives_the_answers := (Fn.mk' (ok_gives_the_answers (P := l.prog) (w := w) (base := base) F15 B  g_answers) m15 k15 b15).x
  have g_is_order := (Fn.mk' (ok_is_order (P := l.prog) (w := w) (base := base) F16 B  g_check_calls g_gives_the_answers g_has_each_once g_keeps_time) m16 k16 b16).x
  have g__law_at := (Fn.mk' (ok__law_at (P := l.prog) (w := w) (base := base) F17 B  ) m17 k17 b17).x
  have g__law_done := (Fn.mk' (ok__law_done (P := l.prog) (w := w) (base := base) F18 B  ) m18 k18 b18).x
  have g__law_deed_of := (Fn.mk' (ok__law_deed_of (P := l.prog) (w := w) (base := base) F19 B  ) m19 k19 b19).x
  have g__law_kept := (Fn.mk' (ok__law_kept (P := l.prog) (w := w) (base := base) F20 B  g__law_deed_of g__law_done) m20 k20 b20).x
  have g__law_spoilt := (Fn.mk' (ok__law_spoilt (P := l.prog) (w := w) (base := base) F21 B  ) m21 k21 b21).x
  have g__law_keeps_time := (Fn.mk' (ok__law_keeps_time (P := l.prog) (w := w) (base := base) F22 B  ) m22 k22 b22).x
  have g__law_holds := (Fn.mk' (ok__law_holds (P := l.prog) (w := w) (base := base) F23 B  g__law_done g__law_keeps_time) m23 k23 b23).x
  have g__law_by_points := (Fn.mk' (ok__law_by_points (P := l.prog) (w := w) (base := base) F24 B  ) m24 k24 b24).x
  have g__law_harmed := (Fn.mk' (ok__law_harmed (P := l.prog) (w := w) (base := base) F25 B  ) m25 k25 b25).x
  exact (ok_law F26 B  g__law_at g__law_by_points g__law_harmed g__law_holds g__law_kept g__law_spoilt g_is_order).mono (by decide)
theorem walk {l : PySem.W.OpenLaw} {q : Program} {loose : List Str} {XP : (Str → Option Value) → Heap → Prop} {YP : World → Heap → Prop} {d : DefRec} {K : Params → PySem.W.Frag} (hn : l.most = some 63) (hdf : d.params.defaults = [])
    (hY : ∀ (w : World) (h : Heap), YP w h → (K w.params).In h)
    (F : ∀ (w : World) (mg : Str → Option Value) (fa : Addr) (h : Heap), (K w.params).In h → h.Ns mainGlobals mg → mg d.name = some (.ref fa) →
      ∃ fd : FuncData, (∀ (s : Shared) (u : Value), BindsTo s fd ⟨[u], []⟩ [("_law_script", u)]) ∧ ∀ base : Heap, (K w.params).In base → base.Ns mainGlobals mg → FnOk l.prog w (K w.params) mg base CX0 40 fa fd ["_law_script"] (spLaw (K w.params))) :
    PySem.W.WalkO q loose XP YP l.row.toRowW d [] (fun f vs => PySem.call f vs) :=
  L2.walk_of (n := 63) (k := 40) (x := "_law_script") (CX := fun _ => CX0) (sp := fun w => spLaw (K w.params)) hn (by decide) hdf ⟨rfl, by decide, by decide⟩ hY F (fun _ _ a ns hl _ hS => ⟨a, ns, rfl, hS, hl, fun _ => rfl⟩) fun _ _ _ _ _ z => z
end My


open PySem PySem.W PyProof.Rows
set_option maxRecDepth 100000 in
set_option maxHeartbeats 0 in
theorem PySem.Challenge.cw_callorder_k03_orders_judged_holds : PySem.Challenge.rw_callorder_k03_orders_judged.Holds := by
  w_on; o_law
  refine holds_open (q := HD.q0) (loose := HD.loose0) (Xt := HD.Xt0) (XP := XL HD.q0 []) (Yf := Hook.obs HD.hk) (Ya := Hook.val HD.hk) (YP := Hook.says HD.hk) HD.left0 (Hook.of HD.hk) (Hook.keeps HD.hk) (fun s e => xl_of s (Bool.and_eq_true_iff.mp e).1) XL.keeps (by rfl) (by rfl) (by rfl) (fun s e => recFacts_of (Bool.and_eq_true_iff.mp e).2) (by rfl) (by first | assumption | decide +kernel) (by decide +kernel) ⟨rfl, rfl, rfl, rfl, rfl, by decide +kernel⟩ ?hw ?hc
  (case hw => w_witness2)
  k_fill
  refine My.walk (l := PySem.Challenge.rw_callorder_k03_orders_judged) rfl rfl (fun w h Y => PySem.W.kIn_of Y) ?F
  case F =>
    intro w mg fa h KX G hmg
    have T := My.tp_mk (P := PySem.Challenge.rw_callorder_k03_orders_judged.prog) (w := w) KX G (st := 52) (pt := 54) (r := 53) (its := [(("row", 247), ("put", 248), 55, .int 3 249), (("row", 250), ("take", 251), 56, .int 2 252), (("row", 253), ("look", 254), 57, .int 2 255), (("number", 256), ("set", 257), 58, .int 3 258), (("number", 259), ("add", 260), 59, .int 3 261), (("number", 262), ("look", 263), 60, .int 2 264)])
      rfl rfl rfl rfl rfl rfl (by decide) (by decide) rfl
      (fun x hx => by
        simp only [List.mem_cons, List.not_mem_nil, or_false] at hx
        rcases hx with rfl | rfl | rfl | rfl | rfl | rfl <;> rfl)
      (.cons ⟨rfl, _, rfl⟩ (.cons ⟨rfl, _, rfl⟩ (.cons ⟨rfl, _, rfl⟩ (.cons ⟨rfl, _, rfl⟩ (.cons ⟨rfl, _, rfl⟩ (.cons ⟨rfl, _, rfl⟩ .nil)))))) (by decide) (by kernel_rfl) (by kernel_rfl) (by kernel_rfl) (by kernel_rfl) (by kernel_rfl)
    refine' My.all_mk KX G hmg T ?a0 ?l0 ?c0 ?k0 ?a1 ?l1 ?c1 ?k1 ?a2 ?l2 ?c2 ?k2 ?a3 ?l3 ?c3 ?k3 ?a4 ?l4 ?c4 ?k4 ?a5 ?l5 ?c5 ?k5 ?a6 ?l6 ?c6 ?k6 ?a7 ?l7 ?c7 ?k7 ?a8 ?l8 ?c8 ?k8 ?a9 ?l9 ?c9 ?k9 ?a10 ?l10 ?c10 ?k10 ?a11 ?l11 ?c11 ?k11 ?a12 ?l12 ?c12 ?k12 ?a13 ?l13 ?c13 ?k13 ?a14 ?l14 ?c14 ?k14 ?a15 ?l15 ?c15 ?k15 ?a16 ?l16 ?c16 ?k16 ?a17 ?l17 ?c17 ?k17 ?a18 ?l18 ?c18 ?k18 ?a19 ?l19 ?c19 ?k19 ?a20 ?l20 ?c20 ?k20 ?a21 ?l21 ?c21 ?k21 ?a22 ?l22 ?c22 ?k22 ?a23 ?l23 ?c23 ?k23 ?a24 ?l24 ?c24 ?k24 ?a25 ?l25 ?c25 ?k25 ?a26 ?l26 ?c26 ?k26 ?z_any ?z_bool ?z_enumerate ?z_int ?z_isinstance ?z_len ?z_list ?z_range ?z_reversed ?z_sorted ?z_str
    (case a0 => exact rfl)
    (case l0 => exact rfl)
    (case c0 => exact rfl)
    (case k0 => exact rfl)
    (case a1 => exact rfl)
    (case l1 => exact rfl)
    (case c1 => exact rfl)
    (case k1 => exact rfl)
    (case a2 => exact rfl)
    (case l2 => exact rfl)
    (case c2 => exact rfl)
    (case k2 => exact rfl)
    (case a3 => exact rfl)
    (case l3 => exact rfl)
    (case c3 => exact rfl)
    (case k3 => exact rfl)
    (case a4 => exact rfl)
    (case l4 => exact rfl)
    (case c4 => exact rfl)
    (case k4 => exact rfl)
    (case a5 => exact rfl)
    (case l5 => exact rfl)
    (case c5 => exact rfl)
    (case k5 => exact rfl)
    (case a6 => exact rfl)
    (case l6 => exact rfl)
    (case c6 => exact rfl)
    (case k6 => exact rfl)
    (case a7 => exact rfl)
    (case l7 => exact rfl)
    (case c7 => exact rfl)
    (case k7 => exact rfl)
    (case a8 => exact rfl)
    (case l8 => exact rfl)
    (case c8 => exact rfl)
    (case k8 => exact rfl)
    (case a9 => exact rfl)
    (case l9 => exact rfl)
    (case c9 => exact rfl)
    (case k9 => exact rfl)
    (case a10 => exact rfl)
    (case l10 => exact rfl)
    (case c10 => exact rfl)
    (case k10 => exact rfl)
    (case a11 => exact rfl)
    (case l11 => exact rfl)
    (case c11 => exact rfl)
    (case k11 => exact rfl)
    (case a12 => exact rfl)
    (case l12 => exact rfl)
    (case c12 => exact rfl)
    (case k12 => exact rfl)
    (case a13 => exact rfl)
    (case l13 => exact rfl)
    (case c13 => exact rfl)
    (case k13 => exact rfl)
    (case a14 => exact rfl)
    (case l14 => exact rfl)
    (case c14 => exact rfl)
    (case k14 => exact rfl)
    (case a15 => exact rfl)
    (case l15 => exact rfl)
    (case c15 => exact rfl)
    (case k15 => exact rfl)
    (case a16 => exact rfl)
    (case l16 => exact rfl)
    (case c16 => exact rfl)
    (case k16 => exact rfl)
    (case a17 => exact rfl)
    (case l17 => exact rfl)
    (case c17 => exact rfl)
    (case k17 => exact rfl)
    (case a18 => exact rfl)
    (case l18 => exact rfl)
    (case c18 => exact rfl)
    (case k18 => exact rfl)
    (case a19 => exact rfl)
    (case l19 => exact rfl)
    (case c19 => exact rfl)
    (case k19 => exact rfl)
    (case a20 => exact rfl)
    (case l20 => exact rfl)
    (case c20 => exact rfl)
    (case k20 => exact rfl)
    (case a21 => exact rfl)
    (case l21 => exact rfl)
    (case c21 => exact rfl)
    (case k21 => exact rfl)
    (case a22 => exact rfl)
    (case l22 => exact rfl)
    (case c22 => exact rfl)
    (case k22 => exact rfl)
    (case a23 => exact rfl)
    (case l23 => exact rfl)
    (case c23 => exact rfl)
    (case k23 => exact rfl)
    (case a24 => exact rfl)
    (case l24 => exact rfl)
    (case c24 => exact rfl)
    (case k24 => exact rfl)
    (case a25 => exact rfl)
    (case l25 => exact rfl)
    (case c25 => exact rfl)
    (case k25 => exact rfl)
    (case a26 => exact rfl)
    (case l26 => exact rfl)
    (case c26 => exact rfl)
    (case k26 => exact rfl)
    (case z_any => exact rfl)
    (case z_bool => exact rfl)
    (case z_enumerate => exact rfl)
    (case z_int => exact rfl)
    (case z_isinstance => exact rfl)
    (case z_len => exact rfl)
    (case z_list => exact rfl)
    (case z_range => exact rfl)
    (case z_reversed => exact rfl)
    (case z_sorted => exact rfl)
    (case z_str => exact rfl)

