import PyProof.Rows.All
import Wide.All
import OpenK.AllK
import Wide.FinOn
import Lean
import PyProof.EqAt
import PyProof.EqKinds
import PyProof.TupleCall
import KE.KLam
import KE.KNestM
import KE.KMinKey
import Open.Tops
import PySem.Challenge.RW_callorder_k06_whole_kept_by_a_lock
set_option Elab.async false
set_option linter.all false
set_option maxRecDepth 100000
namespace L2
open PySem PySem.Spec PyProof.Rows

abbrev Key := Sum Int Str
def keyIs : Key → Value → Bool
  | .inl k, v => Value.isInt k v
  | .inr x, v => Value.isStrOf x v
def keyH (w : World) : Key → Int
  | .inl k => hashInt k
  | .inr x => hashStr w x
theorem keyIs_shape : ∀ {k : Key} {v : Value}, keyIs k v = true → (∃ i t, k = Sum.inl i ∧ v = Value.int i t) ∨ (∃ x t, k = Sum.inr x ∧ v = Value.str x t)
  | .inl i, v, h => by
    obtain ⟨t, e⟩ := Value.isInt_shape (k := i) (v := v) h
    exact .inl ⟨i, t, rfl, e⟩
  | .inr x, v, h => by
    obtain ⟨t, e⟩ := Value.isStrOf_shape (x := x) (v := v) h
    exact .inr ⟨x, t, rfl, e⟩
theorem keyIs_int (i : Int) (t : Tok) : keyIs (.inl i) (.int i t) = true := by simp [keyIs, Value.isInt]
theorem keyIs_str (x : Str) (t : Tok) : keyIs (.inr x) (.str x t) = true := by simp [keyIs, Value.isStrOf]
theorem key_ll (a b : Int) : decide ((Sum.inl a : Key) = Sum.inl b) = (a == b) := by
  by_cases e : a = b
  · subst e; simp
  · have h : ¬ (Sum.inl a : Key) = Sum.inl b := fun q => e (Sum.inl.inj q)
    rw [decide_eq_false h]
    exact (beq_eq_false_iff_ne.mpr e).symm
theorem key_rr (a b : Str) : decide ((Sum.inr a : Key) = Sum.inr b) = decide (a = b) := by
  by_cases e : a = b
  · subst e; simp
  · have h : ¬ (Sum.inr a : Key) = Sum.inr b := fun q => e (Sum.inr.inj q)
    rw [decide_eq_false h, decide_eq_false e]
theorem key_lr (a : Int) (b : Str) : decide ((Sum.inl a : Key) = Sum.inr b) = false := decide_eq_false (fun q => nomatch q)
theorem key_rl (a : Str) (b : Int) : decide ((Sum.inr a : Key) = Sum.inl b) = false := decide_eq_false (fun q => nomatch q)

def mixKind (prog : Program) (w : World) : PySem.KeyKind prog w Key where
  is := keyIs
  hash := keyH w
  inj := fun v a b ha hb => by
    rcases keyIs_shape ha with ⟨i, t, rfl, rfl⟩ | ⟨x, t, rfl, rfl⟩
    · rcases keyIs_shape hb with ⟨j, u, rfl, e⟩ | ⟨y, u, rfl, e⟩
      · injection e with e1 _; rw [e1]
      · exact nomatch e
    · rcases keyIs_shape hb with ⟨j, u, rfl, e⟩ | ⟨y, u, rfl, e⟩
      · exact nomatch e
      · injection e with e1 _; rw [e1]
  byValue := fun k v h => by
    rcases keyIs_shape h with ⟨i, t, rfl, rfl⟩ | ⟨x, t, rfl, rfl⟩ <;> rfl
  pyHash := fun hv h => by
    rcases keyIs_shape hv with ⟨i, t, rfl, rfl⟩ | ⟨x, t, rfl, rfl⟩
    · exact wpAny_pyHash_int h
    · exact wpAny_pyHash_str h
  eqBool := fun hu hv h => by
    rcases keyIs_shape hu with ⟨i, t, rfl, rfl⟩ | ⟨x, t, rfl, rfl⟩
    · rcases keyIs_shape hv with ⟨j, u, rfl, rfl⟩ | ⟨y, u, rfl, rfl⟩
      · rw [key_ll] at h; exact wpAny_eqBool_int h
      · rw [key_lr] at h; exact SeqAt.EqAt.int_str i t y u _ _ _ _ h
    · rcases keyIs_shape hv with ⟨j, u, rfl, rfl⟩ | ⟨y, u, rfl, rfl⟩
      · rw [key_rl] at h; exact SeqAt.EqAt.str_int x t j u _ _ _ _ h
      · rw [key_rr] at h; exact wpAny_eqBool_str h
  «strs» := fun k x t v h => by
    rcases keyIs_shape h with ⟨i, u, rfl, e⟩ | ⟨y, u, rfl, e⟩
    · exact nomatch e
    · injection e with e1 _
      subst e1
      cases v <;> rfl

theorem mixKind_int (prog : Program) (w : World) (i : Int) (t : Tok) : (mixKind prog w).is (.inl i) (.int i t) = true := keyIs_int i t
theorem mixKind_str (prog : Program) (w : World) (x : Str) (t : Tok) : (mixKind prog w).is (.inr x) (.str x t) = true := keyIs_str x t
end L2

namespace L2
open PySem PySem.Spec PyProof.Rows

inductive V where
  | non | bl (b : Bool) | int (i : Int) | str (x : Str) | byt (b : Array UInt8) | flt (b : UInt64) | ref (a : Addr) | ty (n : String)
  deriving DecidableEq

def RelV : V → Value → Prop
  | .non, u => u = Value.none
  | .bl b, u => u = Value.bool b
  | .int i, u => ∃ t, u = Value.int i t
  | .str x, u => ∃ t, u = Value.str x t
  | .byt b, u => ∃ t, u = Value.bytes b t
  | .flt b, u => ∃ t, u = Value.float b t
  | .ref a, u => u = Value.ref a
  | .ty n, u => u = Value.type n

abbrev Vals : List V → List Value → Prop := Paired RelV
theorem Vals.length {xs : List V} {us : List Value} (r : Vals xs us) : xs.length = us.length := Paired.length r
theorem Vals.get : ∀ {xs : List V} {us : List Value} {i : Nat} {x : V}, Vals xs us → xs[i]? = some x → ∃ u, us[i]? = some u ∧ RelV x u
  | _, _, _, _, .nil, e => by simp at e
  | _, _, 0, _, .cons r _, e => by simp at e; subst e; exact ⟨_, rfl, r⟩
  | _, _, i + 1, x, .cons _ t, e => by
    obtain ⟨u, h1, h2⟩ := Vals.get (i := i) (x := x) t (by simpa using e)
    exact ⟨u, by simpa using h1, h2⟩
theorem Vals.set {x : V} {u : Value} (r : RelV x u) : ∀ {xs : List V} {us : List Value} (i : Nat), Vals xs us → Vals (xs.set i x) (us.set i u)
  | _, _, _, .nil => .nil
  | _, _, 0, .cons _ t => .cons r t
  | _, _, i + 1, .cons q t => .cons q (Vals.set r i t)
theorem Vals.append : ∀ {xs ys : List V} {us ws : List Value}, Vals xs us → Vals ys ws → Vals (xs ++ ys) (us ++ ws)
  | _, _, _, _, .nil, s => s
  | _, _, _, _, .cons r t, s => .cons r (Vals.append t s)
theorem Vals.take : ∀ {xs : List V} {us : List Value} (n : Nat), Vals xs us → Vals (xs.take n) (us.take n)
  | _, _, 0, _ => .nil
  | _, _, _ + 1, .nil => .nil
  | _, _, n + 1, .cons r t => .cons r (Vals.take n t)
theorem Vals.drop : ∀ {xs : List V} {us : List Value} (n : Nat), Vals xs us → Vals (xs.drop n) (us.drop n)
  | _, _, 0, r => r
  | _, _, _ + 1, .nil => .nil
  | _, _, n + 1, .cons _ t => Vals.drop n t
def RelO : Option V → Option Value → Prop
  | some v, some u => RelV v u
  | none, none => True
  | _, _ => False
def KV {κ : Type} : List (κ × V) → List (κ × Value) → Prop := Paired fun (p : κ × V) (q : κ × Value) => p.1 = q.1 ∧ RelV p.2 q.2

def kV : Key → V
  | .inl i => .int i
  | .inr x => .str x

inductive HO where
  /-- a list -/
  | lst (xs : List V)
  /-- a tuple (never changes) -/
  | tup (xs : List V)
  /-- a dict whose keys are ints and texts; one whose keys are tuples of ints and texts (the empty one is both) -/
  | dK (kvs : List (Key × V)) | dT (kvs : List (List Key × V))
  /-- a set of ints: its members, its size -/
  | set (S : Int → Bool) (n : Nat)
  /-- an instance of the class at C, its dict at dx, its attributes -/
  | ins (C dx : Addr) (fs : List (Str × V))
  /-- the dict of the instance at x -/
  | own (x : Addr)
  /-- the dict of an exception -/
  | xd (fs : List (Str × V))
  /-- a bound method, f of x -/
  | met (f x : Addr)
  /-- a range object lo, lo + 1, .. below hi -/
  | rng (lo hi : Int)
  /-- a thing that is known to the object (the script; a dict while a loop walks it): read, never written while it is so -/
  | frz (o : Obj) (u : HO)
  /-- a code object's table -/
  | tbl (ps : Array Value)
  /-- any other thing, by what is true of its one object (a def of one's own: SetO a S n := HO.ext fun h => ..) -/
  | ext (φ : Heap → Prop)

abbrev Hp := Addr → Option HO
def upd (H : Hp) (a : Addr) (o : HO) : Hp := fun b => if b = a then some o else H b
theorem upd_same {H : Hp} {a : Addr} {o : HO} : upd H a o a = some o := by unfold upd; rw [if_pos rfl]
theorem upd_ne {H : Hp} {a b : Addr} {o : HO} (h : b ≠ a) : upd H a o b = H b := by unfold upd; rw [if_neg h]
theorem upd_upd {H : Hp} {a : Addr} {o u : HO} : upd (upd H a o) a u = upd H a u := by
  funext b; unfold upd; split <;> rfl
theorem ne_of {H : Hp} {a b : Addr} {o u : HO} (h : H a = some o) (h' : H b = some u) (d : o ≠ u) : a ≠ b := by
  intro e; subst e; rw [h] at h'; exact d (Option.some.inj h')
theorem ne_of_none {H : Hp} {a b : Addr} {o : HO} (h : H a = some o) (h' : H b = none) : a ≠ b := by
  intro e; subst e; rw [h] at h'; cases h'

section
variable (P : Program) (w : World)
def ObjOk (H : Hp) (h : Heap) (a : Addr) : HO → Prop
  | .lst xs => xs.length ≤ sizeLine ∧ ∃ (its : List Value) (n : Nat), Vals xs its ∧ h.get? a = some { cls := .type "list", data := .seq its.toArray n }
  | .tup xs => xs.length ≤ sizeLine ∧ ∃ its : List Value, Vals xs its ∧ IsTup h a its.toArray
  | .dK kvs => kvs.length ≤ sizeLine ∧ (a == sysModules) = false ∧ ∃ vs, KV kvs vs ∧ h.DictOf (mixKind P w) a vs
  | .dT kvs => kvs.length ≤ sizeLine ∧ (a == sysModules) = false ∧ ∃ xs : List (List Key × Addr × Value),
      Paired (fun (p : List Key × V) (q : List Key × Addr × Value) => p.1 = q.1 ∧ H q.2.1 = some (.tup (p.1.map kV)) ∧ RelV p.2 q.2.2) kvs xs ∧
      ∃ o es ep, h.get? a = some o ∧ o.ExactDict ∧ o.data = .dict es ep ∧ es.toList = xs.map (entryOfKey (tupleKind (mixKind P w))) ∧ (xs.map (·.1)).Nodup
  | .set S n => h.SetOf (intKind P w) a S n
  | .ins C dx fs => H dx = some (.own a) ∧ fs.length ≤ 1000 ∧ dx ≠ a ∧ h.get? a = some (PySem.W.instObj C dx) ∧
      ∃ mA, h.Ns1 dx mA ∧ (∀ f, RelO (fs.lookup f) (mA f)) ∧ PySem.Within mA (fs.map (·.1))
  | .own _ => ∃ o, h.get? a = some o
  | .xd fs => ∃ mA, h.Ns1 a mA ∧ ∀ f, RelO (fs.lookup f) (mA f)
  | .rng lo hi => ∃ t u v, h.get? a = some { cls := .type "range", data := .fields #[.int lo t, .int hi u, .int 1 v] }
  | .frz o u => h.get? a = some o ∧ ObjOk H h a u
  | .tbl ps => h.get? a = some { cls := .none, data := .fields ps }
  | .met f x => h.get? a = some (PySem.W.methodObj (.ref f) (.ref x))
  | .ext φ => φ h ∧ (∃ o, h.get? a = some o) ∧ ∀ h1 h2 : Heap, φ h1 → (∀ o, h1.get? a = some o → h2.get? a = some o) → φ h2
def HOk (H : Hp) (h : Heap) : Prop := ∀ a o, H a = some o → ObjOk P w H h a o
end

section
variable {P : Program} {w : World} {H H' : Hp} {h h' : Heap} {a : Addr} {o : HO}
theorem ObjOk.lt (x : ObjOk P w H h a o) : a < h.objs.size := by
  cases o with
  | lst xs => obtain ⟨_, _, _, _, e⟩ := x; exact Heap.lt_size e
  | tup xs => obtain ⟨_, _, _, p⟩ := x; exact p.lt
  | dK kvs => obtain ⟨_, _, _, _, o, _, _, e, _⟩ := x; exact Heap.lt_size e
  | dT kvs => obtain ⟨_, _, _, _, o, _, _, e, _⟩ := x; exact Heap.lt_size e
  | set S n => obtain ⟨o, _, _, _, e, _⟩ := x; exact Heap.lt_size e
  | ins C dx fs => obtain ⟨_, _, _, e, _⟩ := x; exact Heap.lt_size e
  | own y => obtain ⟨_, e⟩ := x; exact Heap.lt_size e
  | xd fs => obtain ⟨_, ⟨_, _, _, e, _⟩, _⟩ := x; exact Heap.lt_size e
  | rng lo hi => obtain ⟨_, _, _, e⟩ := x; exact Heap.lt_size e
  | frz ob u => obtain ⟨e, _⟩ := x; exact Heap.lt_size e
  | tbl ps => exact Heap.lt_size (show h.get? a = some _ from x)
  | met f y => exact Heap.lt_size (show h.get? a = some _ from x)
  | ext φ => obtain ⟨_, ⟨_, e⟩, _⟩ := x; exact Heap.lt_size e
theorem Paired.mapP {α β : Type} {F G : α → β → Prop} : ∀ {l₁ : List α} {l₂ : List β}, Paired F l₁ l₂ → (∀ a b, F a b → G a b) → Paired G l₁ l₂
  | _, _, .nil, _ => .nil
  | _, _, .cons r t, f => .cons (f _ _ r) (Paired.mapP t f)
theorem Paired.imp' {α β : Type} {F G : α → β → Prop} (f : ∀ a b, F a b → G a b) {l₁ : List α} {l₂ : List β} (r : Paired F l₁ l₂) : Paired G l₁ l₂ := Paired.mapP r f
theorem ObjOk.stay (x : ObjOk P w H h a o) (k : ∀ b u, (b = a ∨ H b = some (.own a)) → h.get? b = some u → h'.get? b = some u)
    (ho : ∀ b, H b = some (.own a) → H' b = some (.own a)) (ht : ∀ b xs, H b = some (.tup xs) → H' b = some (.tup xs)) : ObjOk P w H' h' a o := by
  induction o with
  | lst xs => obtain ⟨z, its, n, r, e⟩ := x; exact ⟨z, its, n, r, k _ _ (.inl rfl) e⟩
  | tup xs => obtain ⟨z, its, r, ob, e, c⟩ := x; exact ⟨z, its, r, ob, k _ _ (.inl rfl) e, c⟩
  | dK kvs => obtain ⟨z, y, vs, r, ob, es, ep, e, c⟩ := x; exact ⟨z, y, vs, r, ob, es, ep, k _ _ (.inl rfl) e, c⟩
  | dT kvs =>
    obtain ⟨z, y, xs, r, ob, es, ep, e, c⟩ := x
    exact ⟨z, y, xs, Paired.mapP r fun p q z => ⟨z.1, ht _ _ z.2.1, z.2.2⟩, ob, es, ep, k _ _ (.inl rfl) e, c⟩
  | set S n => obtain ⟨ob, es, ep, t, e, c⟩ := x; exact ⟨ob, es, ep, t, k _ _ (.inl rfl) e, c⟩
  | ins C dx fs =>
    obtain ⟨d, z, ne, e, mA, ⟨od, es, ep, e2, c⟩, r⟩ := x
    exact ⟨ho _ d, z, ne, k _ _ (.inl rfl) e, mA, ⟨od, es, ep, k _ _ (.inr d) e2, c⟩, r⟩
  | own y => obtain ⟨ob, e⟩ := x; exact ⟨ob, k _ _ (.inl rfl) e⟩
  | xd fs => obtain ⟨mA, ⟨od, es, ep, e, c⟩, r⟩ := x; exact ⟨mA, ⟨od, es, ep, k _ _ (.inl rfl) e, c⟩, r⟩
  | rng lo hi => obtain ⟨t, u, v, e⟩ := x; exact ⟨t, u, v, k _ _ (.inl rfl) e⟩
  | frz ob u ih => obtain ⟨e, q⟩ := x; exact ⟨k _ _ (.inl rfl) e, ih q⟩
  | tbl ps =>
    have e : h.get? a = some { cls := .none, data := .fields ps } := x
    show h'.get? a = some { cls := .none, data := .fields ps }
    exact k a _ (.inl rfl) e
  | met f y =>
    have e : h.get? a = some (PySem.W.methodObj (.ref f) (.ref y)) := x
    show h'.get? a = some (PySem.W.methodObj (.ref f) (.ref y))
    exact k a _ (.inl rfl) e
  | ext φ => obtain ⟨p, ⟨o, e⟩, st⟩ := x; exact ⟨st _ _ p fun o q => k _ _ (.inl rfl) q, ⟨o, k _ _ (.inl rfl) e⟩, st⟩
theorem HOk.lt (x : HOk P w H h) (e : H a = some o) : a < h.objs.size := (x a o e).lt
theorem HOk.fresh (x : HOk P w H h) (e : h.objs.size ≤ a) : H a = none := by
  cases q : H a with
  | none => rfl
  | some u => exact absurd (Nat.lt_of_lt_of_le (x.lt q) e) (Nat.lt_irrefl _)
theorem HOk.kept (x : HOk P w H h) (k : ∀ b u, h.get? b = some u → h'.get? b = some u) : HOk P w H h' := fun a o e =>
  (x a o e).stay (fun b u _ q => k b u q) (fun _ q => q) fun _ _ q => q
theorem HOk.laid (x : HOk P w H h) (k : ∀ b u, h.get? b = some u → h'.get? b = some u) (hp : h.objs.size ≤ a) (new : ObjOk P w (upd H a o) h' a o) : HOk P w (upd H a o) h' := fun b u e => by
  have hn := x.fresh hp
  by_cases hb : b = a
  · subst hb; rw [upd_same] at e; cases e; exact new
  · rw [upd_ne hb] at e
    exact (x b u e).stay (fun c v _ q => k c v q) (fun c q => by rw [upd_ne (ne_of_none q hn)]; exact q) fun c xs q => by rw [upd_ne (ne_of_none q hn)]; exact q
end

def Rd (H : Hp) (a : Addr) (u : HO) : Prop := H a = some u ∨ ∃ o, H a = some (.frz o u)
theorem Rd.ok {P : Program} {w : World} {H : Hp} {h : Heap} {a : Addr} {u : HO} (r : Rd H a u) (x : HOk P w H h) : ObjOk P w H h a u := by
  rcases r with r | ⟨o, r⟩
  · exact x a u r
  · obtain ⟨_, q⟩ := x a _ r
    exact q
def Mut : Option HO → Prop
  | some (.lst _) => True
  | some (.dK _) => True
  | some (.dT _) => True
  | some (.set _ _) => True
  | some (.ins _ _ _) => True
  | some (.ext _) => True
  | _ => False
section
variable {P : Program} {w : World} {H : Hp} {h h' : Heap} {x e : Addr} {o' : HO}
theorem HOk.write (ok : HOk P w H h) (mu : Mut (H x)) (he : e = x ∨ H e = some (.own x)) (k : ∀ b u, b ≠ e → h.get? b = some u → h'.get? b = some u) (heo : ∃ u, h'.get? e = some u)
    (new : ObjOk P w (upd H x o') h' x o') : HOk P w (upd H x o') h' := fun b u q => by
  have nown : ∀ c y, H c = some (.own y) → c ≠ x := fun c y r z => by subst z; rw [r] at mu; exact mu
  have ntup : ∀ c xs, H c = some (.tup xs) → c ≠ x := fun c xs r z => by subst z; rw [r] at mu; exact mu
  by_cases hb : b = x
  · subst hb; rw [upd_same] at q; cases q; exact new
  · rw [upd_ne hb] at q
    by_cases hbe : b = e
    · have q' : H b = some (.own x) := by
        rcases he with z | z
        · exact absurd (hbe.trans z) hb
        · rw [hbe]; exact z
      rw [q] at q'; cases q'
      obtain ⟨v, hv⟩ := heo
      exact ⟨v, by rw [hbe]; exact hv⟩
    · refine (ok b u q).stay (fun c v hc r => k c v ?_ r) (fun c r => by rw [upd_ne (nown c b r)]; exact r) fun c xs r => by rw [upd_ne (ntup c xs r)]; exact r
      rcases hc with rfl | hc
      · exact hbe
      · rintro rfl
        rcases he with z | z
        · exact nown c b hc z
        · rw [hc] at z; cases z; exact hb rfl
end

structure Un (fs ex : List Addr) (H H' : Hp) (h h' : Heap) : Prop where
  keep : ∀ b o, h.get? b = some o → H b = none → b ∉ fs → b ∉ ex → h'.get? b = some o
  slot : ∀ b o, h.get? b = some o → H b = none → b ∈ fs → b ∉ ex → ∃ sl, h'.get? b = some { o with slots := sl }
  free : ∀ b o, h.get? b = some o → H b = none → b ∉ ex → H' b = none
  there : ∀ b o, h.get? b = some o → b ∉ ex → ∃ o', h'.get? b = some o'
  tups : ∀ b xs, H b = some (.tup xs) → H' b = some (.tup xs)
  frzs : ∀ b o u, H b = some (.frz o u) → H' b = some (.frz o u)
  tbls : ∀ b ps, H b = some (.tbl ps) → ∃ more, H' b = some (.tbl (ps ++ more))
section
variable {fs fs' ex ex' : List Addr} {H H1 H2 : Hp} {h h1 h2 h' : Heap} {a x e : Addr} {o : HO}
theorem Un.any (u : Un fs ex H H1 h h1) {b : Addr} {ob : Obj} (q : h.get? b = some ob) (n : H b = none) (hx : b ∉ ex) : ∃ sl, h1.get? b = some { ob with slots := sl } := by
  by_cases hb : b ∈ fs
  · exact u.slot b ob q n hb hx
  · exact ⟨ob.slots, u.keep b ob q n hb hx⟩
theorem Un.kept (k : ∀ b u, h.get? b = some u → h'.get? b = some u) : Un fs ex H H h h' :=
  ⟨fun b ob q _ _ _ => k b ob q, fun b ob q _ _ _ => ⟨ob.slots, k b ob q⟩, fun _ _ _ n _ => n, fun b ob q _ => ⟨ob, k b ob q⟩, fun _ _ q => q, fun _ _ _ q => q, fun _ ps q => ⟨#[], by rw [q]; simp⟩⟩
theorem Un.refl : Un fs ex H H h h := Un.kept fun _ _ q => q
theorem Un.laid (k : ∀ b u, h.get? b = some u → h'.get? b = some u) (hp : h.objs.size ≤ a) (hn : H a = none) : Un fs ex H (upd H a o) h h' where
  keep := fun b u q _ _ _ => k b u q
  slot := fun b u q _ _ _ => ⟨u.slots, k b u q⟩
  free := fun b u q n _ => by rw [upd_ne (Nat.ne_of_lt (Nat.lt_of_lt_of_le (Heap.lt_size q) hp))]; exact n
  there := fun b u q _ => ⟨u, k b u q⟩
  tups := fun b xs q => by rw [upd_ne (ne_of_none q hn)]; exact q
  frzs := fun b u xs q => by rw [upd_ne (ne_of_none q hn)]; exact q
  tbls := fun b ps q => ⟨#[], by rw [upd_ne (ne_of_none q hn), q]; simp⟩
theorem Un.write (mu : Mut (H x)) (he : e = x ∨ H e = some (.own x)) (k : ∀ b u, b ≠ e → h.get? b = some u → h'.get? b = some u) (heo : ∃ u, h'.get? e = some u) : Un fs ex H (upd H x o) h h' := by
  have hx : ∀ b, H b = none → b ≠ x := fun b n z => by subst z; rw [n] at mu; exact mu
  have hb : ∀ b, H b = none → b ≠ e := fun b n z => by
    subst z
    rcases he with r | r
    · exact hx b n r
    · rw [n] at r; cases r
  have hm : ∀ b u, H b = some u → ¬ Mut (some u) → b ≠ x := fun b u q nm z => by subst z; rw [q] at mu; exact nm mu
  refine ⟨fun b u q n _ _ => k b u (hb b n) q, fun b u q n _ _ => ⟨u.slots, k b u (hb b n) q⟩, fun b u q n _ => by rw [upd_ne (hx b n)]; exact n, fun b u q _ => ?_,
    fun b xs q => by rw [upd_ne (hm b _ q fun z => z)]; exact q, fun b u xs q => by rw [upd_ne (hm b _ q fun z => z)]; exact q, fun b ps q => ⟨#[], by rw [upd_ne (hm b _ q fun z => z), q]; simp⟩⟩
  by_cases hbe : b = e
  · subst hbe; exact heo
  · exact ⟨u, k b u hbe q⟩
end

def trk (h : Heap) (H : Hp) : List Addr := (List.range h.objs.size).filter fun a => (H a).isSome
def hidT (h : Heap) (H : Hp) : Heap := PySem.W.hideAll h (trk h H)
theorem hidT_size (h : Heap) (H : Hp) : (hidT h H).objs.size = h.objs.size := PySem.W.hideAll_size _ _
theorem hidT_get {h : Heap} {H : Hp} {b : Addr} {o : Obj} (e : h.get? b = some o) (n : H b = none) : (hidT h H).get? b = some o :=
  PySem.W.hideAll_get _ e fun hm => by
    have q : (H b).isSome = true := (List.mem_filter.mp hm).2
    rw [n] at q; simp at q
theorem of_hidT {h : Heap} {H : Hp} {b : Addr} {o : Obj} (e : (hidT h H).get? b = some o) : h.get? b = some o ∧ H b = none := by
  have e' : h.get? b = some o := PySem.W.of_hideAll (trk h H) e
  refine ⟨e', ?_⟩
  cases q : H b with
  | none => rfl
  | some x =>
    have hm : b ∈ trk h H := List.mem_filter.mpr ⟨List.mem_range.mpr (Heap.lt_size e'), by simp [q]⟩
    have z : (hidT h H).get? b = none := PySem.W.hideAll_none (trk h H) hm
    rw [z] at e; cases e

def allNews (g h : Heap) (L : Addr) : List (Addr × Obj) := (List.range h.objs.size).filterMap fun a => if a = L ∨ (g.get? a).isSome = true then none else (h.get? a).map fun o => (a, o)
def rest (g h : Heap) (L d : Addr) : List (Addr × Obj) := (allNews g h L).filter fun p => decide (p.1 ≠ d)
end L2

namespace L2
open PySem PySem.Spec PyProof.Rows

structure Mod (K : PySem.W.Frag) (mg : Str → Option Value) (base : Heap) : Prop where
  kin : K.In base
  glob : base.Ns mainGlobals mg
  blt : ∃ mb, base.Ns builtinsNs mb ∧ ∀ x : Str, x ≠ "__name__" → mb x = bootBuiltins x
  nolimit : base.NoLimit

structure Cx where
  prog : Program
  w : World
  K : PySem.W.Frag
  mg : Str → Option Value
  base : Heap
  A : Around
  N : List Str
  s₀ : Shared
  H₀ : Hp
  env : Env
  outer : List Env
  stack : List Env
  ex : List Addr
  fn : Str → Bool
  calm : Bool
  pn : List (Addr × Obj)
  xe : Value → Shared → Prop
def frs (l : List Env) : List Addr := l.filterMap (·.frame)
abbrev Cx.fs (X : Cx) : List Addr := frs X.outer

def Vis (sc : Scope) (x : Str) : Prop := sc.names.lookup x = some .local ∨ sc.names.lookup x = some .cell ∨ sc.names.lookup x = some .free
def Loc (sc : Scope) (x : Str) : Prop := sc.names.lookup x = some .local ∨ sc.names.lookup x = some .cell
def Look (env : Env) (h : Heap) (m : Str → Option Value) (x : Str) (u : Value) : Prop :=
  (env.kindOf x = some .local ∧ m x = some u) ∨ ((env.kindOf x = some .cell ∨ env.kindOf x = some .free) ∧ ∃ c, env.cells.lookup x = some c ∧ h.IsCell c (some u))

structure Cx.Ok (X : Cx) : Prop where
  mod : Mod X.K X.mg X.base
  kind : X.env.scope.kind = .function
  glob : X.env.globals = mainGlobals
  blt : X.env.builtins = builtinsNs
  above : X.s₀.heap.objs.size ≤ X.env.locals
  inj : ∀ x y c, X.env.cells.lookup x = some c → X.env.cells.lookup y = some c → x = y
  has : ∀ x, (X.env.kindOf x = some .cell ∨ X.env.kindOf x = some .free) → ∃ c, X.env.cells.lookup x = some c
  cab : ∀ x c, X.fn x = true → X.env.cells.lookup x = some c → X.s₀.heap.objs.size ≤ c
  hd : X.calm = true → X.A.handled = none
  frames : X.A.frames = some X.stack
  stk : X.stack = X.outer ∨ (X.stack = X.env :: X.outer ∧ X.env.frame = some X.env.locals)
  exf : ∀ b ∈ X.ex, b ≠ X.env.locals ∧ ∀ x c, X.env.cells.lookup x = some c → c ≠ b
  bs : ∀ b o, X.base.get? b = some o → X.s₀.heap.get? b = some o ∧ X.H₀ b = none
  bsz : X.base.objs.size ≤ X.s₀.heap.objs.size
  noex : ∀ b o, X.base.get? b = some o → b ∉ X.ex
  exfs : ∀ b ∈ X.ex, b ∉ X.fs
  funs : X.s₀.heap.FunFrames X.base X.outer
  frf : ∀ b ∈ X.fs, X.H₀ b = none

structure Inv (X : Cx) (pins : List (Addr × Obj)) (σ : List (Option V)) (H : Hp) (s : Shared) : Prop where
  ok : X.Ok
  os : s.os = X.s₀.os
  bare : AllBare s.gens
  base : Un X.fs X.ex X.H₀ H X.s₀.heap s.heap
  loc : ∃ m, s.heap.Ns X.env.locals m ∧ ∀ (i : Nat) (x : Str) (v : V), X.N[i]? = some x → σ[i]? = some (some v) → Vis X.env.scope x → ∃ u, RelV v u ∧ Look X.env s.heap m x u
  cell : ∀ x c, X.env.cells.lookup x = some c → ∃ v, s.heap.IsCell c v
  free : H X.env.locals = none
  freeC : ∀ x c, X.env.cells.lookup x = some c → H c = none
  pin : ∀ p ∈ X.pn ++ pins, s.heap.get? p.1 = some p.2 ∧ H p.1 = none ∧ p.1 ≠ X.env.locals ∧ p.1 ∉ X.fs ∧ ∀ v, p.2.data ≠ .cell v
  hok : HOk X.prog X.w H s.heap
  len : σ.length = X.N.length

section
variable {X : Cx} {pins : List (Addr × Obj)} {σ : List (Option V)} {H H' : Hp} {s : Shared} {h' : Heap}

theorem Cx.Ok.nofr (ok : X.Ok) {b : Addr} {o : Obj} (e : X.base.get? b = some o) : b ∉ X.fs := fun hb => by
  have := (ok.funs.mem hb).1
  rw [e] at this; cases this
theorem Inv.bs (I : Inv X pins σ H s) : ∀ b o, X.base.get? b = some o → s.heap.get? b = some o ∧ H b = none := fun b o e =>
  ⟨I.base.keep b o (I.ok.bs b o e).1 (I.ok.bs b o e).2 (I.ok.nofr e) (I.ok.noex b o e), I.base.free b o (I.ok.bs b o e).1 (I.ok.bs b o e).2 (I.ok.noex b o e)⟩
theorem Inv.bk (I : Inv X pins σ H s) : ∀ b o, X.base.get? b = some o → s.heap.get? b = some o := fun b o e => (I.bs b o e).1
theorem Inv.mod (I : Inv X pins σ H s) : Mod X.K X.mg X.base := I.ok.mod
theorem Inv.kIn (I : Inv X pins σ H s) : X.K.In s.heap := I.ok.mod.kin.keeps I.bk
theorem Inv.lt (I : Inv X pins σ H s) : X.env.locals < s.heap.objs.size := let ⟨_, hn, _⟩ := I.loc; hn.lt
theorem Inv.sz (I : Inv X pins σ H s) : X.s₀.heap.objs.size ≤ s.heap.objs.size := Nat.le_trans I.ok.above (Nat.le_of_lt I.lt)
theorem Inv.nofs (I : Inv X pins σ H s) {a : Addr} (h : s.heap.objs.size ≤ a) : a ∉ X.fs := fun hb => by
  obtain ⟨_, o, ho, _⟩ := I.ok.funs.mem hb
  exact absurd (Nat.lt_of_lt_of_le (Heap.lt_size ho) (Nat.le_trans I.sz h)) (Nat.lt_irrefl _)
theorem Inv.cne (I : Inv X pins σ H s) : ∀ x c, X.env.cells.lookup x = some c → c ≠ X.env.locals := fun x c e z => by
  obtain ⟨v, o, ho, hd⟩ := I.cell x c e
  obtain ⟨m, ⟨o', es, ep, ho', hd', _⟩, _⟩ := I.loc
  rw [z, ho'] at ho; cases ho; rw [hd'] at hd; cases hd
theorem Inv.funs (I : Inv X pins σ H s) : s.heap.FunFrames X.base X.outer := by
  have all : ∀ (l : List Env), (∀ b ∈ frs l, b ∈ X.fs) → X.s₀.heap.FunFrames X.base l → s.heap.FunFrames X.base l := by
    intro l
    induction l with
    | nil => intro _ _; trivial
    | cons env r ih =>
      intro hs hl
      obtain ⟨hk, ⟨L, o, hf, hn, ho, hd⟩, hr⟩ := hl
      have hL : L ∈ X.fs := hs L (by unfold frs; rw [List.filterMap_cons, hf]; exact List.mem_cons_self)
      obtain ⟨sl, e⟩ := I.base.slot L o ho (I.ok.frf L hL) hL fun z => I.ok.exfs L z hL
      exact ⟨hk, ⟨L, _, hf, hn, e, hd⟩, ih (fun b hb => hs b (by unfold frs; rw [List.filterMap_cons, hf]; exact List.mem_cons_of_mem _ hb)) hr⟩
  exact all X.outer (fun _ hb => hb) I.ok.funs

theorem Inv.stack (I : Inv X pins σ H s) : s.heap.FunFrames X.base X.stack := by
  rcases I.ok.stk with e | ⟨e, hf⟩
  · rw [e]; exact I.funs
  · rw [e]
    obtain ⟨m, hn, _⟩ := I.loc
    refine .cons (by rw [I.ok.kind]; decide) hf hn ?_ I.funs
    exact Heap.get?_none_of_le (Nat.le_trans I.ok.bsz I.ok.above)
theorem Inv.stkSub (I : Inv X pins σ H s) : ∀ b ∈ frs X.stack, b ∈ X.env.locals :: X.fs := fun b hb => by
  rcases I.ok.stk with e | ⟨e, hf⟩
  · rw [e] at hb; exact List.mem_cons_of_mem _ hb
  · rw [e] at hb
    unfold frs at hb
    rw [List.filterMap_cons, hf] at hb
    exact hb
theorem Inv.stkFree (I : Inv X pins σ H s) : ∀ b ∈ frs X.stack, H b = none := fun b hb => by
  rcases List.mem_cons.mp (I.stkSub b hb) with e | hb
  · rw [e]; exact I.free
  · obtain ⟨_, o, ho, _⟩ := I.ok.funs.mem hb
    exact I.base.free b o ho (I.ok.frf b hb) fun z => I.ok.exfs b z hb

theorem Inv.step {g' : Array GenState} {t' : Nat} {d' : Drawn} {ch : List Addr} (I : Inv X pins σ H s)
    (hch : ∀ b ∈ ch, (b ∈ X.ex ∨ X.s₀.heap.objs.size ≤ b) ∧ b ≠ X.env.locals ∧ (∀ x c, X.env.cells.lookup x = some c → c ≠ b) ∧ ∀ p ∈ X.pn ++ pins, p.1 ≠ b)
    (keep : ∀ b o, b ≠ X.env.locals → b ∉ X.fs → b ∉ ch → s.heap.get? b = some o → H b = none → h'.get? b = some o)
    (slot : ∀ b o, b ≠ X.env.locals → b ∈ X.fs → b ∉ ch → s.heap.get? b = some o → H b = none → ∃ sl, h'.get? b = some { o with slots := sl }) (free : ∀ b o, b ∉ ch → s.heap.get? b = some o → H b = none → H' b = none)
    (there : ∀ b o, b ∉ ch → s.heap.get? b = some o → ∃ o', h'.get? b = some o')
    (tups : ∀ b xs, H b = some (.tup xs) → H' b = some (.tup xs)) (frzs : ∀ b o u, H b = some (.frz o u) → H' b = some (.frz o u)) (tbls : ∀ b ps, H b = some (.tbl ps) → ∃ more, H' b = some (.tbl (ps ++ more)))
    (ns : ∀ m, s.heap.Ns X.env.locals m → h'.Ns X.env.locals m) (hok : HOk X.prog X.w H' h') (hg : AllBare g') :
    Inv X pins σ H' { s with heap := h', gens := g', drawn := d', toks := t' } := by
  have neL : ∀ b o, X.s₀.heap.get? b = some o → b ≠ X.env.locals := fun b o e => Nat.ne_of_lt (Nat.lt_of_lt_of_le (Heap.lt_size e) I.ok.above)
  have neC : ∀ b o, X.s₀.heap.get? b = some o → b ∉ X.ex → b ∉ ch := fun b o e hx hb => by
    rcases (hch b hb).1 with z | z
    · exact hx z
    · exact absurd (Nat.lt_of_lt_of_le (Heap.lt_size e) z) (Nat.lt_irrefl _)
  have cellK : ∀ x c, X.env.cells.lookup x = some c → ∀ v, s.heap.IsCell c v → h'.IsCell c v := fun x c e v ⟨o, ho, hd⟩ => by
    have nch : c ∉ ch := fun z => (hch c z).2.2.1 x c e rfl
    by_cases hc : c ∈ X.fs
    · obtain ⟨sl, q⟩ := slot c o (I.cne x c e) hc nch ho (I.freeC x c e)
      exact ⟨_, q, hd⟩
    · exact ⟨o, keep c o (I.cne x c e) hc nch ho (I.freeC x c e), hd⟩
  refine ⟨I.ok, I.os, hg, ⟨fun b o e n hb hx => ?_, fun b o e n hb hx => ?_, fun b o e n hx => ?_, fun b o e hx => ?_, fun b xs e => tups b xs (I.base.tups b xs e), fun b o xs e => frzs b o xs (I.base.frzs b o xs e), fun b ps e => ?_⟩, ?_, fun x c e => ?_, ?_, fun x c e => ?_, fun p hp => ?_, hok, I.len⟩
  · exact keep b o (neL b o e) hb (neC b o e hx) (I.base.keep b o e n hb hx) (I.base.free b o e n hx)
  · obtain ⟨sl, e1⟩ := I.base.slot b o e n hb hx
    obtain ⟨sl', e2⟩ := slot b _ (neL b o e) hb (neC b o e hx) e1 (I.base.free b o e n hx)
    exact ⟨sl', e2⟩
  · obtain ⟨o', e1⟩ := I.base.there b o e hx
    exact free b o' (neC b o e hx) e1 (I.base.free b o e n hx)
  · obtain ⟨o', e1⟩ := I.base.there b o e hx
    exact there b o' (neC b o e hx) e1
  · obtain ⟨m1, e1⟩ := I.base.tbls b ps e
    obtain ⟨m2, e2⟩ := tbls b _ e1
    exact ⟨m1 ++ m2, by rw [e2, Array.append_assoc]⟩
  · obtain ⟨m, hn, hl⟩ := I.loc
    refine ⟨m, ns m hn, fun i x v e1 e2 e3 => ?_⟩
    obtain ⟨u, r, l⟩ := hl i x v e1 e2 e3
    refine ⟨u, r, ?_⟩
    rcases l with l | ⟨k, c, e, z⟩
    · exact .inl l
    · exact .inr ⟨k, c, e, cellK x c e _ z⟩
  · obtain ⟨v, z⟩ := I.cell x c e
    exact ⟨v, cellK x c e v z⟩
  · obtain ⟨m, ⟨o, _, _, ho, _⟩, _⟩ := I.loc
    exact free _ o (fun z => (hch _ z).2.1 rfl) ho I.free
  · obtain ⟨v, o, ho, hd⟩ := I.cell x c e
    exact free c o (fun z => (hch c z).2.2.1 x c e rfl) ho (I.freeC x c e)
  · obtain ⟨e, n, ne, nf, d⟩ := I.pin p hp
    have nch : p.1 ∉ ch := fun z => (hch p.1 z).2.2.2 p hp rfl
    exact ⟨keep p.1 p.2 ne nf nch e n, free p.1 p.2 nch e n, ne, nf, d⟩
theorem Inv.un {t' : Nat} (I : Inv X pins σ H s) (u : Un X.fs [] H H' s.heap h') (hok : HOk X.prog X.w H' h') : Inv X pins σ H' { s with heap := h', toks := t' } := by
  obtain ⟨m, ⟨o, es, ep, ho, r⟩, _⟩ := id I.loc
  obtain ⟨sl, hL⟩ := u.any ho I.free (by simp)
  exact I.step (g' := s.gens) (d' := s.drawn) (ch := []) (fun _ z => nomatch z) (fun b o _ hb _ e n => u.keep b o e n hb (by simp)) (fun b o _ hb _ e n => u.slot b o e n hb (by simp)) (fun b o _ e n => u.free b o e n (by simp)) (fun b o _ e => u.there b o e (by simp)) u.tups u.frzs u.tbls (fun m' hm => by
    obtain ⟨o', es', ep', ho', r'⟩ := hm
    rw [ho] at ho'; cases ho'
    exact ⟨_, es', ep', hL, r'⟩) hok I.bare
theorem Inv.call {g' : Array GenState} {t' : Nat} {d' : Drawn} {ch : List Addr} (I : Inv X pins σ H s) (u : Un (frs X.stack) ch H H' s.heap h') (hok : HOk X.prog X.w H' h') (hg : AllBare g')
    (hch : ∀ b ∈ ch, (b ∈ X.ex ∨ X.s₀.heap.objs.size ≤ b) ∧ b ≠ X.env.locals ∧ (∀ x c, X.env.cells.lookup x = some c → c ≠ b) ∧ ∀ p ∈ X.pn ++ pins, p.1 ≠ b) :
    Inv X pins σ H' { s with heap := h', gens := g', drawn := d', toks := t' } := by
  obtain ⟨m, ⟨o, es, ep, ho, r⟩, _⟩ := id I.loc
  obtain ⟨sl, hL⟩ := u.any ho I.free fun z => (hch _ z).2.1 rfl
  exact I.step (ch := ch) hch (fun b o hL hb hc e n => u.keep b o e n (fun z => (List.mem_cons.mp (I.stkSub b z)).elim hL hb) hc) (fun b o _ _ hc e n => u.any e n hc) (fun b o hc e n => u.free b o e n hc) (fun b o hc e => u.there b o e hc) u.tups u.frzs u.tbls (fun m' hm => by
    obtain ⟨o', es', ep', ho', r'⟩ := hm
    rw [ho] at ho'; cases ho'
    exact ⟨_, es', ep', hL, r'⟩) hok hg
theorem Inv.turned {t' : Nat} {it : Addr} (I : Inv X pins σ H s) (k : ∀ b o, b ≠ it → s.heap.get? b = some o → h'.get? b = some o) (hn : H it = none) (hL : it ≠ X.env.locals)
    (h1 : it ∈ X.ex ∨ X.s₀.heap.objs.size ≤ it) (h2 : ∀ x c, X.env.cells.lookup x = some c → c ≠ it) (h3 : ∀ p ∈ X.pn ++ pins, p.1 ≠ it) : Inv X pins σ H { s with heap := h', toks := t' } := by
  have nit : ∀ b u, H b = some u → b ≠ it := fun b u e z => by rw [z, hn] at e; cases e
  refine I.step (g' := s.gens) (d' := s.drawn) (ch := [it]) (fun b hb => ?_) (fun b o _ _ hc e _ => k b o (fun z => hc (by simp [z])) e) (fun b o _ _ hc e _ => ⟨o.slots, k b o (fun z => hc (by simp [z])) e⟩) (fun _ _ _ _ n => n)
    (fun b o hc e => ⟨o, k b o (fun z => hc (by simp [z])) e⟩) (fun _ _ e => e) (fun _ _ _ e => e) (fun b ps e => ⟨#[], by rw [e]; simp⟩) (fun m hm => ?_) (fun b u e => ?_) I.bare
  · have e : b = it := by simpa using hb
    subst e
    exact ⟨h1, hL, h2, h3⟩
  · obtain ⟨o, es, ep, ho, r⟩ := hm
    exact ⟨o, es, ep, k _ o (Ne.symm hL) ho, r⟩
  · refine (I.hok b u e).stay (fun c v hc q => k c v ?_ q) (fun _ q => q) fun _ _ q => q
    rcases hc with z | z
    · rw [z]; exact nit b u e
    · exact nit c _ z
theorem Inv.tok (I : Inv X pins σ H s) (t : Nat) : Inv X pins σ H { s with toks := t } := I.un (h' := s.heap) (t' := t) Un.refl I.hok
theorem Inv.kept {t' : Nat} (I : Inv X pins σ H s) (k : ∀ b u, s.heap.get? b = some u → h'.get? b = some u) : Inv X pins σ H { s with heap := h', toks := t' } := I.un (Un.kept k) (I.hok.kept k)
theorem Inv.laid {a : Addr} {o : HO} {t' : Nat} (I : Inv X pins σ H s) (k : ∀ b u, s.heap.get? b = some u → h'.get? b = some u) (hp : s.heap.objs.size ≤ a) (new : ObjOk X.prog X.w (upd H a o) h' a o) :
    Inv X pins σ (upd H a o) { s with heap := h', toks := t' } := I.un (Un.laid k hp (I.hok.fresh hp)) (I.hok.laid k hp new)
theorem Inv.write {x e : Addr} {o : HO} {t' : Nat} (I : Inv X pins σ H s) (mu : Mut (H x)) (he : e = x ∨ H e = some (.own x)) (k : ∀ b u, b ≠ e → s.heap.get? b = some u → h'.get? b = some u) (heo : ∃ u, h'.get? e = some u)
    (new : ObjOk X.prog X.w (upd H x o) h' x o) : Inv X pins σ (upd H x o) { s with heap := h', toks := t' } := I.un (Un.write mu he k heo) (I.hok.write mu he k heo new)
theorem Inv.pins_of {pins' : List (Addr × Obj)} (I : Inv X pins σ H s) (h : ∀ p ∈ pins', s.heap.get? p.1 = some p.2 ∧ H p.1 = none ∧ p.1 ≠ X.env.locals ∧ p.1 ∉ X.fs ∧ ∀ v, p.2.data ≠ .cell v) : Inv X pins' σ H s :=
  ⟨I.ok, I.os, I.bare, I.base, I.loc, I.cell, I.free, I.freeC, fun p hp => (List.mem_append.mp hp).elim (fun z => I.pin p (List.mem_append_left _ z)) (h p), I.hok, I.len⟩

theorem nodup_ix {N : List Str} (hN : N.Nodup) {i j : Nat} {x : Str} (a : N[i]? = some x) (b : N[j]? = some x) : i = j := by
  obtain ⟨h1, e1⟩ := List.getElem?_eq_some_iff.mp a
  obtain ⟨h2, e2⟩ := List.getElem?_eq_some_iff.mp b
  exact (List.getElem_inj hN).mp (e1.trans e2.symm)

theorem store_ok2 {M : Model} {A : Around} {E : Value → Shared → Prop} {i : Nat} {x : Str} {v : V} {u : Value} {Q : Unit → Shared → Prop} (I : Inv X pins σ H s) (hN : X.N.Nodup) (hi : X.N[i]? = some x) (hx : Loc X.env.scope x) (r : RelV v u)
    (h : ∀ s', Inv X pins (σ.set i (some v)) H s' → (∃ a, Heap.SameBut a s.heap s'.heap ∧ (a = X.env.locals ∨ X.env.cells.lookup x = some a)) → Q () s') (hf : X.fn x = true ∨ X.env.scope.names.lookup x = some .local := by first | exact .inl rfl | exact .inr rfl | assumption) : wpAny M A (storeName X.env x u) Q E s := by
  obtain ⟨m, hn, hl⟩ := id I.loc
  have hcls : (X.env.scope.kind == .class || (X.env.scope.kind == .module && X.env.locals != X.env.globals)) = false := by rw [I.ok.kind]; rfl
  have hiσ : i < σ.length := by rw [I.len]; exact (List.getElem?_eq_some_iff.mp hi).1
  have cne := I.cne
  have tracked : ∀ {a : Addr} {h' : Heap}, (∃ o, s.heap.get? a = some o ∧ H a = none) → Heap.SameBut a s.heap h' → HOk X.prog X.w H h' := fun {a h'} ha hs b ob e => by
    obtain ⟨_, _, hfree⟩ := ha
    refine (I.hok b ob e).stay (fun c w' hc q => (hs.2 c ?_).trans q) (fun _ q => q) fun _ _ q => q
    rintro rfl
    rcases hc with rfl | hc
    · rw [hfree] at e; cases e
    · rw [hfree] at hc; cases hc
  rcases hx with hk | hk
  · refine wpAny_storeName_local hk hn (fun h' hn' hs => ?_) hcls
    obtain ⟨oL, _, _, hoL, _⟩ := id hn
    refine h _ ⟨I.ok, I.os, I.bare, ⟨fun b o e n hb hx => ?_, fun b o e n hb hx => ?_, I.base.free, fun b o e hx => ?_, I.base.tups, I.base.frzs, I.base.tbls⟩, ⟨_, hn', fun j y v' e1 e2 e3 => ?_⟩, fun y c e => ?_, I.free, I.freeC, fun p hp => ?_, tracked ⟨oL, hoL, I.free⟩ hs, by simpa using I.len⟩ ⟨_, hs, .inl rfl⟩
    · exact (hs.2 b (Nat.ne_of_lt (Nat.lt_of_lt_of_le (Heap.lt_size e) I.ok.above))).trans (I.base.keep b o e n hb hx)
    · obtain ⟨sl, e1⟩ := I.base.slot b o e n hb hx
      exact ⟨sl, (hs.2 b (Nat.ne_of_lt (Nat.lt_of_lt_of_le (Heap.lt_size e) I.ok.above))).trans e1⟩
    · obtain ⟨o', e1⟩ := I.base.there b o e hx
      exact ⟨o', (hs.2 b (Nat.ne_of_lt (Nat.lt_of_lt_of_le (Heap.lt_size e) I.ok.above))).trans e1⟩
    · by_cases hj : j = i
      · subst hj
        rw [hi] at e1; cases e1
        rw [List.getElem?_set_self hiσ] at e2
        cases e2
        exact ⟨u, r, .inl ⟨hk, by simp⟩⟩
      · rw [List.getElem?_set_ne (Ne.symm hj)] at e2
        obtain ⟨u', r', q⟩ := hl j y v' e1 e2 e3
        refine ⟨u', r', ?_⟩
        rcases q with ⟨k, e⟩ | ⟨k, c, e, z⟩
        · refine .inl ⟨k, ?_⟩
          have : y ≠ x := fun e => hj (nodup_ix hN e1 (e ▸ hi))
          simp [this, e]
        · exact .inr ⟨k, c, e, z.sameBut hs (cne y c e)⟩
    · obtain ⟨w', z⟩ := I.cell y c e
      exact ⟨w', z.sameBut hs (cne y c e)⟩
    · obtain ⟨e, n, ne, nf, d⟩ := I.pin p hp
      exact ⟨(hs.2 p.1 ne).trans e, n, ne, nf, d⟩
  · have hfn : X.fn x = true := by
      rcases hf with z | z
      · exact z
      · rw [z] at hk; cases hk
    obtain ⟨c, hc⟩ := I.ok.has x (.inl hk)
    obtain ⟨w', z⟩ := I.cell x c hc
    refine wpAny_storeName_cell I.ok.kind hk hc z (fun h' hc' hs => ?_)
    obtain ⟨oc, hoc, hocd⟩ := id z
    refine h { s with heap := h' } ⟨I.ok, I.os, I.bare, ⟨fun b o e n hb hx => ?_, fun b o e n hb hx => ?_, I.base.free, fun b o e hx => ?_, I.base.tups, I.base.frzs, I.base.tbls⟩, ⟨m, hn.sameBut hs (Ne.symm (cne x c hc)), fun j y v' e1 e2 e3 => ?_⟩, fun y c' e => ?_, I.free, I.freeC, fun p hp => ?_, tracked ⟨oc, hoc, I.freeC x c hc⟩ hs, by simpa using I.len⟩ ⟨c, hs, .inr hc⟩
    · exact (hs.2 b (Nat.ne_of_lt (Nat.lt_of_lt_of_le (Heap.lt_size e) (I.ok.cab x c hfn hc)))).trans (I.base.keep b o e n hb hx)
    · obtain ⟨sl, e1⟩ := I.base.slot b o e n hb hx
      exact ⟨sl, (hs.2 b (Nat.ne_of_lt (Nat.lt_of_lt_of_le (Heap.lt_size e) (I.ok.cab x c hfn hc)))).trans e1⟩
    · obtain ⟨o', e1⟩ := I.base.there b o e hx
      exact ⟨o', (hs.2 b (Nat.ne_of_lt (Nat.lt_of_lt_of_le (Heap.lt_size e) (I.ok.cab x c hfn hc)))).trans e1⟩
    · by_cases hj : j = i
      · subst hj
        rw [hi] at e1; cases e1
        rw [List.getElem?_set_self hiσ] at e2
        cases e2
        exact ⟨u, r, .inr ⟨.inl hk, c, hc, hc'⟩⟩
      · rw [List.getElem?_set_ne (Ne.symm hj)] at e2
        obtain ⟨u', r', q⟩ := hl j y v' e1 e2 e3
        refine ⟨u', r', ?_⟩
        rcases q with q | ⟨k, c', e, z'⟩
        · exact .inl q
        · refine .inr ⟨k, c', e, z'.sameBut hs ?_⟩
          rintro rfl
          exact hj (nodup_ix hN e1 (I.ok.inj _ _ _ e hc ▸ hi))
    · by_cases hcc : c' = c
      · subst hcc; exact ⟨_, hc'⟩
      · obtain ⟨w2, z2⟩ := I.cell y c' e
        exact ⟨w2, z2.sameBut hs hcc⟩
    · obtain ⟨e, n, ne, nf, d⟩ := I.pin p hp
      refine ⟨(hs.2 p.1 ?_).trans e, n, ne, nf, d⟩
      intro q
      rw [q, hoc] at e
      have q' : oc = p.2 := Option.some.inj e
      exact d w' (by rw [← q']; exact hocd)
theorem store_ok {M : Model} {A : Around} {E : Value → Shared → Prop} {i : Nat} {x : Str} {v : V} {u : Value} {Q : Unit → Shared → Prop} (I : Inv X pins σ H s) (hN : X.N.Nodup) (hi : X.N[i]? = some x) (hx : Loc X.env.scope x) (r : RelV v u)
    (h : ∀ s', Inv X pins (σ.set i (some v)) H s' → Q () s') (hf : X.fn x = true ∨ X.env.scope.names.lookup x = some .local := by first | exact .inl rfl | exact .inr rfl | assumption) : wpAny M A (storeName X.env x u) Q E s :=
  store_ok2 I hN hi hx r (fun s' I' _ => h s' I') hf
theorem Inv.call' {s' : Shared} {ch : List Addr} (I : Inv X pins σ H s) (ho : s'.os = s.os) (u : Un (frs X.stack) ch H H' s.heap s'.heap) (hok : HOk X.prog X.w H' s'.heap) (hg : AllBare s'.gens)
    (hch : ∀ b ∈ ch, (b ∈ X.ex ∨ X.s₀.heap.objs.size ≤ b) ∧ b ≠ X.env.locals ∧ (∀ x c, X.env.cells.lookup x = some c → c ≠ b) ∧ ∀ p ∈ X.pn ++ pins, p.1 ≠ b) : Inv X pins σ H' s' := by
  obtain ⟨h', g', d', t', o'⟩ := s'
  have e : o' = s.os := ho
  subst e
  exact I.call (g' := g') (t' := t') (d' := d') u hok hg hch
end

abbrev XK := Value → Option Addr → Hp → Prop
abbrev St := List (Option V)
abbrev VK := V → Hp → Prop
abbrev TE := St → Hp → VK → Prop
abbrev TT := St → Hp → (Bool → Hp → Prop) → Prop
abbrev TA := St → Hp → (List V → Hp → Prop) → Prop
structure Ends where
  nx : St → Hp → Prop
  rt : VK
  bk : St → Hp → Prop := fun _ _ => False
  ct : St → Hp → Prop := fun _ _ => False
abbrev TS := Ends → St → Hp → Prop

def EP (X : Cx) (pins : List (Addr × Obj)) (σ : St) (Q : VK) (u : Value) (s' : Shared) : Prop := ∃ v H', Inv X pins σ H' s' ∧ RelV v u ∧ Q v H'
def TP (X : Cx) (pins : List (Addr × Obj)) (σ : St) (Q : Bool → Hp → Prop) (b : Bool) (s' : Shared) : Prop := ∃ H', Inv X pins σ H' s' ∧ Q b H'
def AP (X : Cx) (pins : List (Addr × Obj)) (σ : St) (Q : List V → Hp → Prop) (us : List Value) (s' : Shared) : Prop := ∃ vs H', Inv X pins σ H' s' ∧ Vals vs us ∧ Q vs H'
def SP (X : Cx) (pins : List (Addr × Obj)) (D : Ends) (f : Flow) (s' : Shared) : Prop :=
  match f with
  | .next => ∃ σ' H', Inv X pins σ' H' s' ∧ D.nx σ' H'
  | .brk => ∃ σ' H', Inv X pins σ' H' s' ∧ D.bk σ' H'
  | .cont => ∃ σ' H', Inv X pins σ' H' s' ∧ D.ct σ' H'
  | .ret u => ∃ v σ' H', Inv X pins σ' H' s' ∧ RelV v u ∧ D.rt v H'

def PE (X : Cx) (e : Expr) (t : TE) : Prop :=
  ∀ (pins : List (Addr × Obj)) (s : Shared) (σ : St) (H : Hp) (Q : VK), Inv X pins σ H s → t σ H Q → wpAny (model X.prog X.w) X.A (eval e X.env) (EP X pins σ Q) X.xe s
def PT (X : Cx) (e : Expr) (t : TT) : Prop :=
  ∀ (pins : List (Addr × Obj)) (s : Shared) (σ : St) (H : Hp) (Q : Bool → Hp → Prop), Inv X pins σ H s → t σ H Q → wpAny (model X.prog X.w) X.A (isTrue e X.env (eval e X.env)) (TP X pins σ Q) X.xe s
def PW (X : Cx) (e : Expr) (t : TT) : Prop :=
  ∀ (whole : Sem Value) (pins : List (Addr × Obj)) (s : Shared) (σ : St) (H : Hp) (Q : Bool → Hp → Prop), Inv X pins σ H s → t σ H Q → wpAny (model X.prog X.w) X.A (isTrue e X.env whole) (TP X pins σ Q) X.xe s
theorem PW.pt {X : Cx} {e : Expr} {t : TT} (h : PW X e t) : PT X e t := h _
def PA (X : Cx) (es : List Expr) (t : TA) : Prop :=
  ∀ (pos : Pos) (pins : List (Addr × Obj)) (s : Shared) (σ : St) (H : Hp) (Q : List V → Hp → Prop), Inv X pins σ H s → t σ H Q → wpAny (model X.prog X.w) X.A (spliced (backTo pos (starEach es X.env))) (AP X pins σ Q) X.xe s
def PS (X : Cx) (st : Stmt) (t : TS) : Prop :=
  ∀ (pins : List (Addr × Obj)) (s : Shared) (σ : St) (H : Hp) (D : Ends), Inv X pins σ H s → t D σ H → wpAny (model X.prog X.w) X.A (exec st X.env) (SP X pins D) X.xe s
def PSs (X : Cx) (st : List Stmt) (t : TS) : Prop :=
  ∀ (pins : List (Addr × Obj)) (s : Shared) (σ : St) (H : Hp) (D : Ends), Inv X pins σ H s → t D σ H → wpAny (model X.prog X.w) X.A (execs st X.env) (SP X pins D) X.xe s
theorem thn {α : Type} {t : Sem α} {Q Q' : α → Shared → Prop} {M : Model} {A : Around} {E : Value → Shared → Prop} {s : Shared} (h : wpAny M A t Q E s) (hQ : ∀ a s, Q a s → Q' a s) : wpAny M A t Q' E s := wpAny_mono h hQ fun _ _ x => x
end L2

namespace L2
open PySem PySem.Spec PyProof.Rows
section
variable {X : Cx}

theorem bin {a b : Expr} {ta tb : TE} (ha : PE X a ta) (hb : PE X b tb) {pins : List (Addr × Obj)} {s : Shared} {σ : St} {H : Hp} {R : V → V → Hp → Prop} (I : Inv X pins σ H s) (h : ta σ H fun x H1 => tb σ H1 fun y H2 => R x y H2)
    {α : Type} {Q : α → Shared → Prop} {f : Value → Value → Sem α}
    (hf : ∀ v u s2 x y H2, Inv X pins σ H2 s2 → RelV x v → RelV y u → R x y H2 → wpAny (model X.prog X.w) X.A (f v u) Q X.xe s2) :
    wpAny (model X.prog X.w) X.A (eval a X.env) (fun v s₁ => wpAny (model X.prog X.w) X.A (eval b X.env) (fun u s₂ => wpAny (model X.prog X.w) X.A (f v u) Q X.xe s₂) X.xe s₁) X.xe s := by
  refine thn (ha pins s σ H _ I h) fun v s1 ⟨x, H1, I1, r1, q1⟩ => ?_
  refine thn (hb pins s1 σ H1 _ I1 q1) fun u s2 ⟨y, H2, I2, r2, q2⟩ => ?_
  exact hf v u s2 x y H2 I2 r1 r2 q2

def tVar (i : Nat) : TE := fun σ H Q => ∃ v, σ[i]? = some (some v) ∧ Q v H
def tC (v : V) : TE := fun _ H Q => Q v H
theorem pe_var {i : Nat} {x : Str} {pos : Pos} (hN : X.N[i]? = some x) (hv : Vis X.env.scope x) (hd : (x == ("__debug__" : Str)) = false := by decide) (hcd : (x == ("__classdict__" : Str)) = false := by decide) : PE X (.Name x pos) (tVar i) := by
  intro pins s σ H Q I h
  obtain ⟨v, e, h⟩ := h
  obtain ⟨m, hn, hl⟩ := I.loc
  obtain ⟨u, r, l⟩ := hl i x v hN e hv
  have fin : EP X pins σ Q u s := ⟨v, H, I, r, h⟩
  rcases l with ⟨hk, hm⟩ | ⟨hk, c, hc, hcell⟩
  · exact wpAny_Name (wpAny_loadName_local I.ok.kind hk hn hm fin) hd
  · rcases hk with hk | hk
    · exact wpAny_Name (wpAny_loadName_cell I.ok.kind hk hc hcell fin) hd
    · exact wpAny_Name (wpAny_loadName_free I.ok.kind hk hc hcell fin hcd) hd
theorem pe_int {i j pos} : PE X (.Constant (.int i) j pos) (tC (.int i)) := fun _ _ _ H _ I h => wpAny_Constant_int ⟨.int i, H, I.tok _, ⟨_, rfl⟩, h⟩
theorem pe_bl {b j pos} : PE X (.Constant (.bool b) j pos) (tC (.bl b)) := fun _ _ _ H _ I h => Constant_bool ⟨.bl b, H, I, rfl, h⟩
theorem pe_non {j pos} : PE X (.Constant .none j pos) (tC .non) := fun _ _ _ H _ I h => Constant_none ⟨.non, H, I, rfl, h⟩
theorem pe_str {x j pos} : PE X (.Constant (.str x) j pos) (tC (.str x)) := fun _ _ _ H _ I h => Calls.Constant_str ⟨.str x, H, I.tok _, ⟨_, rfl⟩, h⟩

def Gl (X : Cx) (x : Str) : Prop := X.env.kindOf x = some .globalImplicit
theorem ld_glob {E : Value → Shared → Prop} {pins : List (Addr × Obj)} {s : Shared} {σ : St} {H : Hp} {x : Str} {u : Value} {pos : Pos} {Q : Value → Shared → Prop} (I : Inv X pins σ H s) (hg : Gl X x) (hm : X.mg x = some u) (h : Q u s)
    (hd : (x == ("__debug__" : Str)) = false := by decide) : wpAny (model X.prog X.w) X.A (eval (.Name x pos) X.env) Q E s :=
  Calls.Name_function_global I.ok.kind hg (Calls.loadGlobal_global (by rw [I.ok.glob]; exact I.mod.glob.keeps I.bk) hm h) hd
theorem ld_blt {E : Value → Shared → Prop} {pins : List (Addr × Obj)} {s : Shared} {σ : St} {H : Hp} {x : Str} {u : Value} {pos : Pos} {Q : Value → Shared → Prop} (I : Inv X pins σ H s) (hg : Gl X x) (hm : X.mg x = none) (hv : bootBuiltins x = some u) (h : Q u s)
    (hn : x ≠ "__name__" := by decide) (hd : (x == ("__debug__" : Str)) = false := by decide) : wpAny (model X.prog X.w) X.A (eval (.Name x pos) X.env) Q E s := by
  obtain ⟨mb, h1, h2⟩ := I.mod.blt
  exact Calls.Name_function_global I.ok.kind hg (Calls.loadGlobal_builtin (by rw [I.ok.glob]; exact I.mod.glob.keeps I.bk) hm (by rw [I.ok.blt]; exact h1.keeps I.bk) ((h2 x hn).trans hv) h) hd
theorem pe_glob {x : Str} {v : V} {u : Value} {pos : Pos} (hg : Gl X x) (hm : X.mg x = some u) (r : RelV v u) (hd : (x == ("__debug__" : Str)) = false := by decide) : PE X (.Name x pos) (tC v) :=
  fun _ _ _ H _ I h => ld_glob I hg hm ⟨v, H, I, r, h⟩ hd
theorem pe_bltn {x : Str} {v : V} {u : Value} {pos : Pos} (hg : Gl X x) (hm : X.mg x = none) (hv : bootBuiltins x = some u) (r : RelV v u) (hn : x ≠ "__name__" := by decide) (hd : (x == ("__debug__" : Str)) = false := by decide) : PE X (.Name x pos) (tC v) :=
  fun _ _ _ H _ I h => ld_blt I hg hm hv ⟨v, H, I, r, h⟩ hn hd

def t2I (ta tb : TE) (k : Int → Int → Hp → Prop) : St → Hp → Prop := fun σ H => ta σ H fun x H1 => tb σ H1 fun y H2 => ∃ i j, x = .int i ∧ y = .int j ∧ k i j H2
def tAdd (ta tb : TE) : TE := fun σ H Q => t2I ta tb (fun i j H2 => Q (.int (i + j)) H2) σ H
def tSub (ta tb : TE) : TE := fun σ H Q => t2I ta tb (fun i j H2 => Q (.int (i - j)) H2) σ H
def tMul (ta tb : TE) : TE := fun σ H Q => t2I ta tb (fun i j H2 => (-(2 ^ 64) < i ∧ i < 2 ^ 64) ∧ Q (.int (i * j)) H2) σ H
variable {a b : Expr} {ta tb : TE} {pos : Pos}
def PC (X : Cx) (op : CmpOp) (a b : Expr) (t : TE) : Prop :=
  ∀ (pins : List (Addr × Obj)) (s : Shared) (σ : St) (H : Hp) (Q : VK), Inv X pins σ H s → t σ H Q →
    wpAny (model X.prog X.w) X.A (eval a X.env) (fun v s₁ => wpAny (model X.prog X.w) X.A (eval b X.env) (fun u s₂ => wpAny (model X.prog X.w) X.A (compareOp op v u) (EP X pins σ Q) X.xe s₂) X.xe s₁) X.xe s
def tCmp (p : Int → Int → Bool) (ta tb : TE) : TE := fun σ H Q => t2I ta tb (fun i j H2 => Q (.bl (p i j)) H2) σ H
abbrev tLt : TE → TE → TE := tCmp fun i j => decide (i < j)
abbrev tLe : TE → TE → TE := tCmp fun i j => decide (i ≤ j)
abbrev tGt : TE → TE → TE := tCmp fun i j => decide (j < i)
abbrev tGe : TE → TE → TE := tCmp fun i j => decide (j ≤ i)
abbrev tEqI : TE → TE → TE := tCmp fun i j => decide (i = j)
abbrev tNeI : TE → TE → TE := tCmp fun i j => !decide (i = j)
def tIsN (ta : TE) : TE := fun σ H Q => ta σ H fun x H1 => Q (.bl (decide (x = .non))) H1
def tNotN (ta : TE) : TE := fun σ H Q => ta σ H fun x H1 => Q (.bl (!decide (x = .non))) H1
def tB (t : TE) : TT := fun σ H Q => t σ H fun x H1 => ∃ c, x = .bl c ∧ Q c H1
theorem pe_cmp {op : CmpOp} {t : TE} (h : PC X op a b t) (h1 : behindInMarks op b = false := by first | exact nobehind _ (by decide) (by decide) | rfl) : PE X (.Compare a [op] [b] pos) t := fun pins s σ H Q I hw => wpAny_Compare1 (h pins s σ H Q I hw) h1
theorem pt_cmp {op : CmpOp} {t : TE} (h : PC X op a b t) (h1 : behindInMarks op b = false := by first | exact nobehind _ (by decide) (by decide) | rfl) : PT X (.Compare a [op] [b] pos) (tB t) := by
  intro pins s σ H Q I hw
  refine wpAny_isTrue_Compare1 (thn (h pins s σ H _ I hw) fun v s1 h1 => thn h1 fun u s2 h2 => thn h2 fun c s3 ⟨x, H1, I1, r1, q1⟩ => ?_) h1
  obtain ⟨d, rfl, q⟩ := q1
  cases r1
  exact wpAny_truthy_bool ⟨H1, I1, q⟩
theorem pt_val {e : Expr} {t : TE} (h : PE X e t) (he : ∀ whole, isTrue e X.env whole = (do let v ← whole; standAt e.pos; holding [v] (truthy v)) := by intro _; rfl) : PT X e (tB t) := by
  intro pins s σ H Q I hw
  refine isTrue_plain (thn (h pins s σ H _ I hw) fun v s1 ⟨x, H1, I1, r1, q1⟩ => ?_) (he _)
  obtain ⟨d, rfl, q⟩ := q1
  cases r1
  exact wpAny_truthy_bool ⟨H1, I1, q⟩

variable {tA tB' : TT} {rest : List Expr}
def tAnd (t u : TT) : TT := fun σ H Q => t σ H fun c H1 => if c = true then u σ H1 Q else Q false H1
def tOr (t u : TT) : TT := fun σ H Q => t σ H fun c H1 => if c = true then Q true H1 else u σ H1 Q
def tNot (t : TT) : TT := fun σ H Q => t σ H fun c H1 => Q (!c) H1
theorem pw_and1 (ha : PT X a tA) : PW X (.BoolOp .And [a] pos) tA := by
  intro wh pins s σ H Q I h
  refine isTrue_and (thn (ha pins s σ H Q I h) fun c s1 e => ?_)
  cases c with
  | true => exact isTrue_and_nil e
  | false => exact e
theorem pw_or1 (ha : PT X a tA) : PW X (.BoolOp .Or [a] pos) tA := by
  intro wh pins s σ H Q I h
  refine isTrue_or (thn (ha pins s σ H Q I h) fun c s1 e => ?_)
  cases c with
  | false => exact isTrue_or_nil e
  | true => exact e
theorem pw_and (ha : PT X a tA) (hb : PW X (.BoolOp .And (b :: rest) pos) tB') : PW X (.BoolOp .And (a :: b :: rest) pos) (tAnd tA tB') := by
  intro wh pins s σ H Q I h
  refine isTrue_and (thn (ha pins s σ H _ I h) fun c s1 ⟨H1, I1, q1⟩ => ?_)
  cases c with
  | true => exact hb wh pins s1 σ H1 Q I1 q1
  | false => exact ⟨H1, I1, q1⟩
theorem pw_or (ha : PT X a tA) (hb : PW X (.BoolOp .Or (b :: rest) pos) tB') : PW X (.BoolOp .Or (a :: b :: rest) pos) (tOr tA tB') := by
  intro wh pins s σ H Q I h
  refine isTrue_or (thn (ha pins s σ H _ I h) fun c s1 ⟨H1, I1, q1⟩ => ?_)
  cases c with
  | true => exact ⟨H1, I1, q1⟩
  | false => exact hb wh pins s1 σ H1 Q I1 q1
theorem pt_not (ha : PT X a tA) : PT X (.UnaryOp .Not a pos) (tNot tA) := by
  intro pins s σ H Q I h
  exact isTrue_not (ha pins s σ H (fun c H1 => Q (!c) H1) I h)
def tAndV (ta tb : TE) : TE := fun σ H Q => ta σ H fun x H1 => ∃ c, x = .bl c ∧ if c = true then tb σ H1 Q else Q (.bl false) H1
def tOrV (ta tb : TE) : TE := fun σ H Q => ta σ H fun x H1 => ∃ c, x = .bl c ∧ if c = true then Q (.bl true) H1 else tb σ H1 Q
def tNotV (ta : TE) : TE := fun σ H Q => ta σ H fun x H1 => ∃ c, x = .bl c ∧ Q (.bl (!c)) H1
theorem pe_one {op} {t : TE} (h : PE X a t) : PE X (.BoolOp op [a] pos) t := fun pins s σ H Q I hw => BoolOp_one (h pins s σ H Q I hw)
theorem pe_and (ha : PE X a ta) (hb : PE X (.BoolOp .And (b :: rest) pos) tb) : PE X (.BoolOp .And (a :: b :: rest) pos) (tAndV ta tb) := by
  intro pins s σ H Q I h
  refine BoolOp_and (thn (ha pins s σ H _ I h) fun v s1 ⟨x, H1, I1, r1, q1⟩ => ?_)
  obtain ⟨c, rfl, q1⟩ := q1
  cases r1
  refine wpAny_truthy_bool ?_
  cases c with
  | true => exact hb pins s1 σ H1 Q I1 q1
  | false => exact ⟨.bl false, H1, I1, rfl, q1⟩
theorem pe_or (ha : PE X a ta) (hb : PE X (.BoolOp .Or (b :: rest) pos) tb) : PE X (.BoolOp .Or (a :: b :: rest) pos) (tOrV ta tb) := by
  intro pins s σ H Q I h
  refine BoolOp_or (thn (ha pins s σ H _ I h) fun v s1 ⟨x, H1, I1, r1, q1⟩ => ?_)
  obtain ⟨c, rfl, q1⟩ := q1
  cases r1
  refine wpAny_truthy_bool ?_
  cases c with
  | false => exact hb pins s1 σ H1 Q I1 q1
  | true => exact ⟨.bl true, H1, I1, rfl, q1⟩
theorem pe_not (ha : PE X a ta) : PE X (.UnaryOp .Not a pos) (tNotV ta) := by
  intro pins s σ H Q I h
  refine UnaryOp_ (thn (ha pins s σ H _ I h) fun v s1 ⟨x, H1, I1, r1, q1⟩ => ?_)
  obtain ⟨c, rfl, q1⟩ := q1
  cases r1
  exact not_of (wpAny_truthy_bool ⟨.bl (!c), H1, I1, rfl, q1⟩)
def tIf (t : TT) (ta tb : TE) : TE := fun σ H Q => t σ H fun c H1 => if c = true then ta σ H1 Q else tb σ H1 Q
theorem pe_ifExp {c : Expr} (hc : PT X c tA) (ha : PE X a ta) (hb : PE X b tb) : PE X (.IfExp c a b pos) (tIf tA ta tb) := by
  intro pins s σ H Q I h
  refine wpAny_IfExp (thn (hc pins s σ H _ I h) fun d s1 ⟨H1, I1, q1⟩ => ?_)
  cases d with
  | true => exact ha pins s1 σ H1 Q I1 q1
  | false => exact hb pins s1 σ H1 Q I1 q1
end
end L2

namespace L2
open PySem PySem.Spec PyProof.Rows

def SqL (K : PySem.W.Frag) (H : Hp) (a : Addr) (xs : List V) : Prop :=
  Rd H a (.lst xs) ∨
    ∃ (o : Obj) (its : Array Value) (n : Nat), K.lookup a = some o ∧ o.cls = .type "list" ∧ o.dict = none ∧ o.data = .seq its n ∧ its.size ≤ sizeLine ∧ Vals xs its.toList
def SqT (K : PySem.W.Frag) (H : Hp) (a : Addr) (xs : List V) : Prop :=
  Rd H a (.tup xs) ∨
    ∃ (o : Obj) (its : Array Value) (n : Nat), K.lookup a = some o ∧ o.cls = .type "tuple" ∧ o.data = .seq its n ∧ its.size ≤ sizeLine ∧ Vals xs its.toList
def absV : Value → Option V
  | .none => some .non
  | .bool b => some (.bl b)
  | .int i _ => some (.int i)
  | .str x _ => some (.str x)
  | .bytes b _ => some (.byt b)
  | .float b _ => some (.flt b)
  | .ref a => some (.ref a)
  | .type n => some (.ty n)
  | _ => none
theorem RelV.abs {x : V} {u : Value} (r : RelV x u) : absV u = some x := by
  cases x with
  | non => cases r; rfl
  | bl _ => cases r; rfl
  | int _ => obtain ⟨t, rfl⟩ := r; rfl
  | str _ => obtain ⟨t, rfl⟩ := r; rfl
  | byt _ => obtain ⟨t, rfl⟩ := r; rfl
  | flt _ => obtain ⟨t, rfl⟩ := r; rfl
  | ref _ => cases r; rfl
  | ty _ => cases r; rfl
theorem RelV.inj {x y : V} {u : Value} (r : RelV x u) (q : RelV y u) : x = y := Option.some.inj (r.abs.symm.trans q.abs)
theorem Vals.inj : ∀ {xs ys : List V} {us : List Value}, Vals xs us → Vals ys us → xs = ys
  | _, _, _, .nil, .nil => rfl
  | _, _, _, .cons r t, .cons r' t' => by rw [r.inj r', Vals.inj t t']
section
variable {X : Cx} {pins : List (Addr × Obj)} {σ : St} {H : Hp} {s : Shared} {a : Addr} {xs ys : List V}
theorem SqL.of {K : PySem.W.Frag} (h : H a = some (.lst xs)) : SqL K H a xs := .inl (.inl h)
theorem SqT.of {K : PySem.W.Frag} (h : H a = some (.tup xs)) : SqT K H a xs := .inl (.inl h)
theorem Inv.list (I : Inv X pins σ H s) (h : SqL X.K H a xs) : ∃ its : List Value, Vals xs its ∧ PlainL s.heap a its.toArray ∧ xs.length ≤ sizeLine := by
  rcases h with h | ⟨o, its, n, hk, hc, hd, hs, hz, r⟩
  · obtain ⟨z, its, n, r, e⟩ := h.ok I.hok
    exact ⟨its, r, ⟨_, n, e, rfl, rfl, rfl⟩, z⟩
  · refine ⟨its.toList, r, ⟨o, n, I.kIn a o hk, hc, hd, by simpa using hs⟩, ?_⟩
    have e := r.length
    simp only [Array.length_toList] at e
    omega
theorem Inv.tuple (I : Inv X pins σ H s) (h : SqT X.K H a xs) : ∃ its : List Value, Vals xs its ∧ IsTup s.heap a its.toArray ∧ xs.length ≤ sizeLine := by
  rcases h with h | ⟨o, its, n, hk, hc, hs, hz, r⟩
  · obtain ⟨z, its, r, p⟩ := h.ok I.hok
    exact ⟨its, r, p, z⟩
  · refine ⟨its.toList, r, ⟨o, I.kIn a o hk, hc, n, by simpa using hs⟩, ?_⟩
    have e := r.length
    simp only [Array.length_toList] at e
    omega
theorem Inv.list_inj (I : Inv X pins σ H s) (h : SqL X.K H a xs) (h' : SqL X.K H a ys) : xs = ys := by
  obtain ⟨its, r, ⟨o, n, e, _, _, d⟩, _⟩ := I.list h
  obtain ⟨its', r', ⟨o', n', e', _, _, d'⟩, _⟩ := I.list h'
  rw [e] at e'; cases e'
  rw [d] at d'
  injection d' with d1 _
  have : its = its' := by simpa using congrArg Array.toList d1
  subst this
  exact r.inj r'
theorem Inv.tuple_inj (I : Inv X pins σ H s) (h : SqT X.K H a xs) (h' : SqT X.K H a ys) : xs = ys := by
  obtain ⟨its, r, ⟨o, e, _, n, d⟩, _⟩ := I.tuple h
  obtain ⟨its', r', ⟨o', e', _, n', d'⟩, _⟩ := I.tuple h'
  rw [e] at e'; cases e'
  rw [d] at d'
  injection d' with d1 _
  have : its = its' := by simpa using congrArg Array.toList d1
  subst this
  exact r.inj r'
end

abbrev Cx.wish (X : Cx) (E : Value → Shared → Prop) : Cx := { X with xe := E }
abbrev Cx.nox (X : Cx) : Cx := X.wish fun _ _ => False
theorem Cx.Ok.wish {X : Cx} (ok : X.Ok) (E : Value → Shared → Prop) : (X.wish E).Ok :=
  ⟨ok.mod, ok.kind, ok.glob, ok.blt, ok.above, ok.inj, ok.has, ok.cab, ok.hd, ok.frames, ok.stk, ok.exf, ok.bs, ok.bsz, ok.noex, ok.exfs, ok.funs, ok.frf⟩
theorem Cx.Ok.unwish {X : Cx} {E : Value → Shared → Prop} (ok : (X.wish E).Ok) : X.Ok :=
  ⟨ok.mod, ok.kind, ok.glob, ok.blt, ok.above, ok.inj, ok.has, ok.cab, ok.hd, ok.frames, ok.stk, ok.exf, ok.bs, ok.bsz, ok.noex, ok.exfs, ok.funs, ok.frf⟩
section
variable {X : Cx} {pins : List (Addr × Obj)} {σ : St} {H : Hp} {s : Shared} {E : Value → Shared → Prop}
theorem Inv.wish (I : Inv X pins σ H s) (E : Value → Shared → Prop) : Inv (X.wish E) pins σ H s := ⟨I.ok.wish E, I.os, I.bare, I.base, I.loc, I.cell, I.free, I.freeC, I.pin, I.hok, I.len⟩
theorem Inv.unwish (I : Inv (X.wish E) pins σ H s) : Inv X pins σ H s := ⟨I.ok.unwish, I.os, I.bare, I.base, I.loc, I.cell, I.free, I.freeC, I.pin, I.hok, I.len⟩
theorem SP.unwish {D : Ends} {f : Flow} {s' : Shared} (h : SP (X.wish E) pins D f s') : SP X pins D f s' := by
  cases f with
  | next => obtain ⟨σ', H', I, q⟩ := h; exact ⟨σ', H', I.unwish, q⟩
  | brk => obtain ⟨σ', H', I, q⟩ := h; exact ⟨σ', H', I.unwish, q⟩
  | cont => obtain ⟨σ', H', I, q⟩ := h; exact ⟨σ', H', I.unwish, q⟩
  | ret u => obtain ⟨v, σ', H', I, r, q⟩ := h; exact ⟨v, σ', H', I.unwish, r, q⟩
theorem PSs.nox {st : List Stmt} {t : TS} (h : PSs X.nox st t) : PSs X st t := fun pins s σ H D I hw =>
  wpAny_mono (h pins s σ H D (I.wish _) hw) (fun _ _ q => q.unwish) fun _ _ z => False.elim z
end

section
variable {X : Cx} {st : Stmt} {rest : List Stmt} {t u : TS} {e : Expr} {te : TE} {pos : Pos}
def tNext : TS := fun D σ H => D.nx σ H
def tSeq (t u : TS) : TS := fun D σ H => t { D with nx := u D } σ H
theorem pss_nil : PSs X [] tNext := fun _ _ σ H _ I h => wpAny_execs_nil ⟨σ, H, I, h⟩
theorem pss_cons (h1 : PS X st t) (h2 : PSs X rest u) : PSs X (st :: rest) (tSeq t u) := by
  intro pins s σ H D I h
  refine wpAny_execs_cons (thn (h1 pins s σ H { D with nx := u D } I h) fun f s1 q => ?_)
  cases f with
  | next =>
    obtain ⟨σ', H', I', q⟩ := q
    exact h2 pins s1 σ' H' D I' q
  | ret v => exact q
  | brk => exact q
  | cont => exact q
theorem pss_one (h1 : PS X st t) : PSs X [st] t := by
  intro pins s σ H D I h
  refine wpAny_execs_cons (thn (h1 pins s σ H D I h) fun f s1 q => ?_)
  cases f with
  | next => exact wpAny_execs_nil q
  | ret v => exact q
  | brk => exact q
  | cont => exact q
def tBreak : TS := fun D σ H => D.bk σ H
def tCont : TS := fun D σ H => D.ct σ H
theorem ps_break : PS X (.Break pos) tBreak := fun _ _ σ H _ I h => wpAny_Break ⟨σ, H, I, h⟩
theorem ps_continue : PS X (.Continue pos) tCont := fun _ _ σ H _ I h => wpAny_Continue ⟨σ, H, I, h⟩
theorem Inv.quiet {pins : List (Addr × Obj)} {σ : St} {H : Hp} {s : Shared} (I : Inv X pins σ H s) : interactive X.env = false := by simp [interactive, I.ok.kind]
def tDrop (te : TE) : TS := fun D σ H => te σ H fun _ H1 => D.nx σ H1
theorem ps_expr (he : PE X e te) (hs : swapsWith e none pos.line X.env = pure false := by rfl) : PS X (.Expr e pos) (tDrop te) := by
  intro pins s σ H D I h
  exact wpAny_Expr_any (thn (he pins s σ H _ I h) fun v s1 ⟨x, H1, I1, r1, q1⟩ => ⟨σ, H1, I1, q1⟩) I.quiet hs
def tRet (te : TE) : TS := fun D σ H => te σ H D.rt
theorem ps_ret (he : PE X e te) : PS X (.Return (some e) pos) (tRet te) := by
  intro pins s σ H D I h
  exact wpAny_Return_some (thn (he pins s σ H _ I h) fun v s1 ⟨x, H1, I1, r1, q1⟩ => ⟨x, σ, H1, I1, r1, q1⟩)
def tRetN : TS := fun D _ H => D.rt .non H
def tIfS (c : TT) (t u : TS) : TS := fun D σ H => c σ H fun b H1 => if b = true then t D σ H1 else u D σ H1
theorem ps_if {c : Expr} {a b : List Stmt} {tc : TT} (hc : PT X c tc) (ha : PSs X a t) (hb : PSs X b u) : PS X (.If c a b pos) (tIfS tc t u) := by
  intro pins s σ H D I h
  refine wpAny_If (thn (hc pins s σ H _ I h) fun d s1 ⟨H1, I1, q1⟩ => ?_)
  cases d with
  | true => exact ha pins s1 σ H1 D I1 q1
  | false => exact hb pins s1 σ H1 D I1 q1
def tNever : TS := fun _ _ _ => False
theorem ps_never : PS X st tNever := fun _ _ _ _ _ _ h => h.elim
end

abbrev TG := V → St → Hp → (St → Hp → Prop) → Prop
abbrev TGs := List V → St → Hp → (St → Hp → Prop) → Prop
def PG (X : Cx) (target : Expr) (t : TG) : Prop :=
  ∀ (pins : List (Addr × Obj)) (s : Shared) (σ : St) (H : Hp) (v : V) (u : Value) (Q : St → Hp → Prop), Inv X pins σ H s → RelV v u → t v σ H Q →
    wpAny (model X.prog X.w) X.A (assign target X.env u) (fun _ s' => ∃ σ' H', Inv X pins σ' H' s' ∧ Q σ' H') X.xe s
def PGs (X : Cx) (ts : List Expr) (t : TGs) : Prop :=
  ∀ (pins : List (Addr × Obj)) (s : Shared) (σ : St) (H : Hp) (vs : List V) (us : List Value) (Q : St → Hp → Prop), Inv X pins σ H s → Vals vs us → t vs σ H Q →
    wpAny (model X.prog X.w) X.A (assignInOrder ((assignEach ts X.env).map (·.2)) us) (fun _ s' => ∃ σ' H', Inv X pins σ' H' s' ∧ Q σ' H') X.xe s
abbrev TSet := V → V → V → Hp → (Hp → Prop) → Prop
def PSet (X : Cx) (t : TSet) : Prop :=
  ∀ (pins : List (Addr × Obj)) (s : Shared) (σ : St) (H : Hp) (o i v : V) (ov iv u : Value) (Q : Hp → Prop), Inv X pins σ H s → RelV o ov → RelV i iv → RelV v u → t o i v H Q →
    wpAny (model X.prog X.w) X.A (setItem ov iv u) (fun _ s' => ∃ H', Inv X pins σ H' s' ∧ Q H') X.xe s
abbrev TIp := V → V → Hp → VK → Prop
def PIp (X : Cx) (op : Operator) (t : TIp) : Prop :=
  ∀ (pins : List (Addr × Obj)) (s : Shared) (σ : St) (H : Hp) (x y : V) (v u : Value) (Q : VK), Inv X pins σ H s → RelV x v → RelV y u → t x y H Q →
    wpAny (model X.prog X.w) X.A (inplaceOp op v u) (EP X pins σ Q) X.xe s
section
variable {X : Cx} {pos : Pos}
def gName (i : Nat) : TG := fun v σ H Q => Q (σ.set i (some v)) H
theorem pg_name {i : Nat} {x : Str} (hN : X.N.Nodup) (hi : X.N[i]? = some x) (hx : Loc X.env.scope x) (hf : X.fn x = true ∨ X.env.scope.names.lookup x = some .local := by first | exact .inl rfl | exact .inr rfl | assumption) : PG X (.Name x pos) (gName i) := by
  intro pins s σ H v u Q I r h
  exact wpAny_assign_Name (store_ok I hN hi hx r (fun s' I' => ⟨_, H, I', h⟩) hf)
def gNil : TGs := fun vs σ H Q => vs = [] ∧ Q σ H
def gCons (t : TG) (u : TGs) : TGs := fun vs σ H Q => ∃ v r, vs = v :: r ∧ t v σ H fun σ' H' => u r σ' H' Q
theorem pgs_nil : PGs X [] gNil := by
  intro pins s σ H vs us Q I r h
  obtain ⟨e, h⟩ := h
  subst e
  cases r
  exact assignInOrder_nil ⟨σ, H, I, h⟩
theorem pgs_cons {e : Expr} {es : List Expr} {t : TG} {u : TGs} (h1 : PG X e t) (h2 : PGs X es u)
    (hs : (assignEach (e :: es) X.env).map (·.2) = assign e X.env :: (assignEach es X.env).map (·.2) := by rfl) : PGs X (e :: es) (gCons t u) := by
  intro pins s σ H vs us Q I r h
  obtain ⟨v, vr, e1, h⟩ := h
  subst e1
  cases r with
  | cons r rr =>
    rw [hs]
    refine assignInOrder_cons (thn (h1 pins s σ H _ _ _ I r h) fun _ s1 ⟨σ1, H1, I1, q1⟩ => ?_)
    exact h2 pins s1 σ1 H1 _ _ Q I1 rr q1
def gTup (K : PySem.W.Frag) (n : Nat) (t : TGs) : TG := fun v σ H Q => ∃ a xs, v = .ref a ∧ SqT K H a xs ∧ xs.length = n ∧ t xs σ H Q
theorem pg_tup {es : List Expr} {k : Nat} {t : TGs} {n : Nat} (hc : X.calm = true) (h : PGs X es t)
    (hn : (assignEach es X.env).length = n := by rfl) (hst : (assignEach es X.env).findIdx? (·.1) = none := by rfl) : PG X (.Tuple es k pos) (gTup X.K n t) := by
  intro pins s σ H v u Q I r hw
  obtain ⟨a, xs, e1, hq, hl, hw⟩ := hw
  subst e1
  cases r
  obtain ⟨its, rv, ht, hz⟩ := I.tuple hq
  refine assign_Tuple_tuple (I.ok.hd hc) ht (by simp [hn, ← hl, rv.length]) hst fun h' hx => ?_
  have I1 : Inv X pins σ H { s with heap := h' } := I.kept (t' := s.toks) fun b o e => hx b o (Nat.ne_of_lt (Heap.lt_size e)) e
  exact h pins _ σ H xs _ Q I1 (by simpa using rv) hw
def gSub (to ti : TE) (t : TSet) : TG := fun v σ H Q => to σ H fun o H1 => ti σ H1 fun i H2 => t o i v H2 fun H3 => Q σ H3
theorem pg_sub {o i : Expr} {to ti : TE} {t : TSet} (ho : PE X o to) (hi : PE X i ti) (hs : PSet X t)
    (ha : ∀ v, assign (.Subscript o i pos) X.env v = (do
      let ov ← holding [v] (eval o X.env)
      let iv ← holding [v, ov] (eval i X.env)
      standAt pos
      holding [v, ov, iv] (setItem ov iv v)
      release [v, ov, iv] []) := by intro _; rfl) : PG X (.Subscript o i pos) (gSub to ti t) := by
  intro pins s σ H v u Q I r h
  rw [ha]
  refine wpAny_bind (wpAny_holding (thn (ho pins s σ H _ I h) fun ov s1 ⟨x, H1, I1, r1, q1⟩ => ?_))
  refine wpAny_bind (wpAny_holding (thn (hi pins s1 σ H1 _ I1 q1) fun iv s2 ⟨y, H2, I2, r2, q2⟩ => ?_))
  refine wpAny_bind (wpAny_standAt (wpAny_bind (wpAny_holding (thn (hs pins s2 σ H2 x y v ov iv u _ I2 r1 r2 r q2) fun _ s3 ⟨H3, I3, q3⟩ => ?_))))
  exact wpAny_release ⟨σ, H3, I3, q3⟩
def tAsg (te : TE) (g : TG) : TS := fun D σ H => te σ H fun x H1 => g x σ H1 D.nx
theorem ps_asg {tg e : Expr} {te : TE} {g : TG} (he : PE X e te) (hg : PG X tg g) (hs : swapsWithSole [tg] e pos.line X.env = pure false := by rfl) (hw : swappedStores [tg] e X.env = pure none := by rfl)
    (h1 : (assignEach [tg] X.env).map (·.2) = [assign tg X.env] := by rfl) : PS X (.Assign [tg] e pos) (tAsg te g) := by
  intro pins s σ H D I h
  refine wpAny_Assign_stores (thn (he pins s σ H _ I h) fun v s1 ⟨x, H1, I1, r1, q1⟩ => ?_) hs hw
  rw [h1]
  exact thn (hg pins s1 σ H1 x v _ I1 r1 q1) fun _ s2 q => q
theorem ps_set {i : Nat} {x : Str} {e : Expr} {te : TE} {pos' : Pos} (hN : X.N.Nodup) (hi : X.N[i]? = some x) (hx : Loc X.env.scope x) (he : PE X e te) (hs : swapsWith e (some (.Name x pos')) pos.line X.env = pure false := by rfl) (hf : X.fn x = true ∨ X.env.scope.names.lookup x = some .local := by first | exact .inl rfl | exact .inr rfl | assumption) :
    PS X (.Assign [.Name x pos'] e pos) (tAsg te (gName i)) := by
  intro pins s σ H D I h
  refine wpAny_Assign_Name (thn (he pins s σ H _ I h) fun v s1 ⟨y, H1, I1, r1, q1⟩ => ?_) hs
  exact store_ok I1 hN hi hx r1 (fun s2 I2 => ⟨_, H1, I2, q1⟩) hf
def tPar (i j : Nat) (ta : TA) : TS := fun D σ H => ta σ H fun vs H1 => ∃ v w, vs = [v, w] ∧ D.nx ((σ.set i (some v)).set j (some w)) H1
def tAug (i : Nat) (te : TE) (ti : TIp) : TS := fun D σ H => ∃ x, σ[i]? = some (some x) ∧ te σ H fun y H1 => ti x y H1 fun z H2 => D.nx (σ.set i (some z)) H2
def tAugS (to ti te : TE) (tget : V → V → Hp → VK → Prop) (tip : TIp) (tset : TSet) : TS := fun D σ H => to σ H fun o H1 => ti σ H1 fun i H2 => tget o i H2 fun x H3 => te σ H3 fun y H4 => tip x y H4 fun z H5 => tset o i z H5 fun H6 => D.nx σ H6
def PGet (X : Cx) (t : V → V → Hp → VK → Prop) : Prop :=
  ∀ (pins : List (Addr × Obj)) (s : Shared) (σ : St) (H : Hp) (o i : V) (ov iv : Value) (Q : VK), Inv X pins σ H s → RelV o ov → RelV i iv → t o i H Q →
    wpAny (model X.prog X.w) X.A (getItem ov iv) (EP X pins σ Q) X.xe s
def ipI (f : Int → Int → Int) : TIp := fun x y H Q => ∃ i j, x = .int i ∧ y = .int j ∧ Q (.int (f i j)) H
end

section
variable {X : Cx} {pos : Pos}
def tWhile (c : TT) (tb : TS) : TS := fun D σ H => ∃ W : Nat → St → Hp → Prop, (∃ m, W m σ H) ∧ ∀ m σ H, W m σ H →
  c σ H fun b H1 => if b = true then ∃ N : St → Hp → Prop, (∀ σ' H', N σ' H' → ∃ m', m' < m ∧ W m' σ' H') ∧ tb { D with nx := N, ct := N, bk := D.nx } σ H1 else D.nx σ H1
theorem ps_while {c : Expr} {body : List Stmt} {tc : TT} {tb : TS} (hp : PassesOwn (model X.prog X.w) X.A X.env X.xe) (hc : PT X c tc) (hb : PSs X body tb) : PS X (.While c body [] pos) (tWhile tc tb) := by
  intro pins s σ H D I h
  obtain ⟨W, ⟨m0, w0⟩, turn⟩ := h
  refine wpAny_While (codeAny_whileLoop (fun n s' => ∃ σ' H', Inv X pins σ' H' s' ∧ W n σ' H') ?_ m0 ⟨σ, H, I, w0⟩)
  rintro n s1 ⟨σ1, H1, I1, w1⟩
  refine wpAny_passesOwn hp (thn (hc pins s1 σ1 H1 _ I1 (turn n σ1 H1 w1)) fun b s2 ⟨H2, I2, q2⟩ => ?_)
  cases b with
  | true =>
    obtain ⟨N, hN, q2⟩ := q2
    rw [if_pos rfl]
    refine wpAny_passesOwn hp (thn (hb pins s2 σ1 H2 _ I2 q2) fun f s3 q3 => ?_)
    cases f with
    | next =>
      obtain ⟨σ3, H3, I3, n3⟩ := q3
      obtain ⟨m', hm, w3⟩ := hN σ3 H3 n3
      exact ⟨m', hm, σ3, H3, I3, w3⟩
    | cont =>
      obtain ⟨σ3, H3, I3, n3⟩ := q3
      obtain ⟨m', hm, w3⟩ := hN σ3 H3 n3
      exact ⟨m', hm, σ3, H3, I3, w3⟩
    | brk => exact q3
    | ret v => exact q3
  | false =>
    rw [if_neg Bool.false_ne_true]
    exact wpAny_execs_nil ⟨σ1, H2, I2, q2⟩
end

structure It where
  go : Nat → Hp → Prop
  yld : Nat → Hp → V → Hp → Prop
  stop : Nat → Hp → Prop
def FpOk (X : Cx) (pins : List (Addr × Obj)) (H : Hp) (b : Addr) : Prop :=
  H b = none ∧ b ≠ X.env.locals ∧ b ∉ X.fs ∧ (b ∈ X.ex ∨ X.s₀.heap.objs.size ≤ b) ∧ (∀ x c, X.env.cells.lookup x = some c → c ≠ b) ∧ ∀ p ∈ X.pn ++ pins, p.1 ≠ b
theorem Inv.fpOk {X : Cx} {pins : List (Addr × Obj)} {σ : St} {H H' : Hp} {s : Shared} {b : Addr} (I : Inv X pins σ H s) (hb : s.heap.objs.size ≤ b) (hn : H' b = none) : FpOk X pins H' b := by
  refine ⟨hn, Nat.ne_of_gt (Nat.lt_of_lt_of_le I.lt hb), I.nofs hb, .inr (Nat.le_trans I.sz hb), fun x c e z => ?_, fun p hp z => ?_⟩
  · obtain ⟨v, q⟩ := I.cell x c e
    exact absurd (Nat.lt_of_lt_of_le q.lt (by rw [z]; exact hb)) (Nat.lt_irrefl _)
  · exact absurd (Nat.lt_of_lt_of_le (Heap.lt_size (I.pin p hp).1) (by rw [z]; exact hb)) (Nat.lt_irrefl _)
structure Turn (P : Program) (w : World) (K : PySem.W.Frag) (tg : Expr) (J : It) (fp : List Addr) (it : Addr) (tn : Nat → Heap → Prop) : Prop where
  mem : it ∈ fp
  obj : ∀ i h, tn i h → ∀ b ∈ fp, ∃ o, h.get? b = some o ∧ ∀ v, o.data ≠ .cell v
  keep : ∀ i h h', tn i h → (∀ b ∈ fp, ∀ o, h.get? b = some o → h'.get? b = some o) → tn i h'
  item : ∀ (X : Cx), X.prog = P → X.w = w → X.K = K → X.calm = true → ∀ (i : Nat) (pins : List (Addr × Obj)) (s : Shared) (σ : St) (H : Hp) (E : Value → Shared → Prop), Inv X pins σ H s → (∀ b ∈ fp, FpOk X pins H b) → tn i s.heap → J.go i H →
    wpAny (model P w) X.A (pyNext (.ref it)) (fun r s1 => ∃ u, r = some u ∧
      wpAny (model P w) X.A (letOwnedTupleGo tg (.ref it) u) (fun _ s2 => ∃ x H', Inv X pins σ H' s2 ∧ RelV x u ∧ J.yld i H x H' ∧ tn (i + 1) s2.heap ∧ ∀ b ∈ fp, H' b = none) E s1) E s
  done : ∀ (X : Cx), X.prog = P → X.w = w → X.K = K → X.calm = true → ∀ (i : Nat) (pins : List (Addr × Obj)) (s : Shared) (σ : St) (H : Hp) (E : Value → Shared → Prop), Inv X pins σ H s → (∀ b ∈ fp, FpOk X pins H b) → tn i s.heap → J.stop i H →
    wpAny (model P w) X.A (pyNext (.ref it)) (fun r s1 => r = none ∧ Inv X pins σ H s1) E s
  self : ∀ (A : Around) (i : Nat) (s : Shared) (Q : Value → Shared → Prop) (E : Value → Shared → Prop), tn i s.heap → Q (.ref it) s → wpAny (model P w) A (pyIter (.ref it)) Q E s
abbrev TI := St → Hp → (It → Hp → Prop) → Prop
def PIE (X : Cx) (pins : List (Addr × Obj)) (σ : St) (tg : Expr) (R : It → Hp → Prop) (itv : Value) (s2 : Shared) : Prop :=
  ∃ (it : Addr) (fp : List Addr) (tn : Nat → Heap → Prop) (J : It) (H' : Hp), itv = .ref it ∧ Inv X pins σ H' s2 ∧ Turn X.prog X.w X.K tg J fp it tn ∧ tn 0 s2.heap ∧ (∀ b ∈ fp, FpOk X pins H' b) ∧ R J H'
def PI (X : Cx) (tg iter : Expr) (wi : TI) : Prop :=
  ∀ (pins : List (Addr × Obj)) (s : Shared) (σ : St) (H : Hp) (R : It → Hp → Prop), Inv X pins σ H s → wi σ H R →
    wpAny (model X.prog X.w) X.A (eval iter X.env) (fun v s1 => wpAny (model X.prog X.w) X.A (pyIter v) (PIE X pins σ tg R) X.xe s1) X.xe s

theorem go_of {M : Model} {A : Around} {E : Value → Shared → Prop} {s : Shared} {tg : Expr} {it : Addr} {u : Value} {o : Obj} {n : String} {vs : Array Value} {Q : Unit → Shared → Prop} (ho : s.heap.get? it = some o) (hc : o.cls = .type n) (hd : o.data = .fields vs)
    (hn : ["enumerate", "zip", "dict_itemiterator", "dict_reverseitemiterator", "odict_iterator", "itertools.zip_longest", "itertools.pairwise"].contains n = false) (hQ : Q () s) : wpAny M A (letOwnedTupleGo tg (.ref it) u) Q E s := by
  unfold letOwnedTupleGo
  cases tg <;> first
    | exact wpAny_pure hQ
    | (cases u <;> first
        | exact wpAny_pure hQ
        | (refine wpAny_bind (wpAny_load ho ?_)
           rw [hc, hd]
           show wpAny M A (if (["enumerate", "zip", "dict_itemiterator", "dict_reverseitemiterator", "odict_iterator", "itertools.zip_longest", "itertools.pairwise"].contains n && vs[0]? == some (rawInt _)) = true then _ else _) Q E s
           rw [if_neg (by intro h; rw [hn, Bool.false_and] at h; cases h)]
           exact wpAny_pure hQ))

def Itl (K : PySem.W.Frag) (a : Addr) : It :=
  ⟨fun i H => ∃ xs x, SqL K H a xs ∧ xs[i]? = some x, fun i H x H' => H' = H ∧ ∀ xs, SqL K H a xs → xs[i]? = some x, fun i H => ∃ xs, SqL K H a xs ∧ xs.length ≤ i⟩
def Itt (K : PySem.W.Frag) (a : Addr) : It :=
  ⟨fun i H => ∃ xs x, SqT K H a xs ∧ xs[i]? = some x, fun i H x H' => H' = H ∧ ∀ xs, SqT K H a xs → xs[i]? = some x, fun i H => ∃ xs, SqT K H a xs ∧ xs.length ≤ i⟩
def Itr (lo : Int) (n : Nat) : It := ⟨fun i _ => i < n, fun i H x H' => H' = H ∧ x = .int (lo + i), fun i _ => n ≤ i⟩
theorem turn_list {P : Program} {w : World} {K : PySem.W.Frag} {tg : Expr} (a it : Addr) : Turn P w K tg (Itl K a) [it] it (fun i h => h.IsListIter it a i) where
  mem := by simp
  obj := fun i h st b hb => by
    have e : b = it := by simpa using hb
    subst e
    obtain ⟨o, e, c, d⟩ := st
    exact ⟨o, e, fun v z => by rw [d] at z; cases z⟩
  keep := fun i h h' st k => st.at fun o e => k it (by simp) o e
  item := by
    intro X hP hw hK hc i pins s σ H E I hf st hg
    subst hP hw hK
    obtain ⟨xs, x, hq, hx⟩ := hg
    obtain ⟨its, rv, p, hz⟩ := I.list hq
    obtain ⟨u, hu, ru⟩ := rv.get hx
    obtain ⟨f0, f1, f2, f3, f4, f5⟩ := hf it (by simp)
    refine wpAny_pyNext_list_item st p.isList (x := u) (by simpa using hu) fun h' st' sb => ?_
    have I1 : Inv X pins σ H { s with heap := h' } := I.turned (t' := s.toks) (fun b o hb e => (sb.2 b hb).trans e) f0 f1 f3 f4 f5
    obtain ⟨o, e, c, d⟩ := id st'
    exact ⟨u, rfl, go_of (s := { s with heap := h' }) e c d (by decide) ⟨x, H, I1, ru, ⟨rfl, fun ys hy => by rw [I.list_inj hy hq]; exact hx⟩, st', fun b hb => (hf b hb).1⟩⟩
  done := by
    intro X hP hw hK hc i pins s σ H E I hf st hg
    subst hP hw hK
    obtain ⟨xs, hq, hx⟩ := hg
    obtain ⟨its, rv, p, hz⟩ := I.list hq
    obtain ⟨f0, f1, f2, f3, f4, f5⟩ := hf it (by simp)
    have hl := rv.length
    exact wpAny_pyNext_list_end (I.ok.hd hc) st p.isList (by simp; omega) fun h' eb => ⟨rfl, I.turned (t' := s.toks) (fun b o hb e => eb b o hb e) f0 f1 f3 f4 f5⟩
  self := fun _ _ _ _ _ st h => wpAny_pyIter_listiter st h
theorem turn_range {P : Program} {w : World} {K : PySem.W.Frag} {tg : Expr} (it : Addr) (lo : Int) (n : Nat) : Turn P w K tg (Itr lo n) [it] it (fun i h => IsRangeIter h it (lo + (i : Nat) * 1) ((n : Int) - (i : Nat)) 1) where
  mem := by simp
  obj := fun i h st b hb => by
    have e : b = it := by simpa using hb
    subst e
    exact ⟨_, st, fun v z => by
      have z' : Data.fields _ = Data.cell v := z
      cases z'⟩
  keep := fun i h h' st k => k it (by simp) _ st
  item := by
    intro X hP hw hK hc i pins s σ H E I hf st hg
    subst hP hw hK
    obtain ⟨f0, f1, f2, f3, f4, f5⟩ := hf it (by simp)
    have W := Walks.range (prog := X.prog) (w := X.w) (I.ok.hd hc) it lo 1 n
    refine W.item i s _ _ hg st fun v h' tk hv st' kk => ?_
    obtain ⟨t, rfl⟩ := hv
    have I1 : Inv X pins σ H { s with heap := h', toks := tk } := I.turned (fun b o hb e => kk b o (by simpa using hb) e) f0 f1 f3 f4 f5
    refine ⟨_, rfl, go_of (s := { s with heap := h', toks := tk }) (n := "range_iterator") st' rfl rfl (by decide) ⟨.int (lo + i), H, I1, ⟨t, ?_⟩, ⟨rfl, rfl⟩, st', fun b hb => (hf b hb).1⟩⟩
    rw [Int.mul_one]
  done := by
    intro X hP hw hK hc i pins s σ H E I hf st hg
    subst hP hw hK
    obtain ⟨f0, f1, f2, f3, f4, f5⟩ := hf it (by simp)
    exact wpAny_pyNext_range_end (I.ok.hd hc) st (by have : n ≤ i := hg; omega) fun h' eb => ⟨rfl, I.turned (t' := s.toks) (fun b o hb e => eb b o hb e) f0 f1 f3 f4 f5⟩
  self := fun _ _ _ _ _ st h => wpAny_pyIter_rangeiter st h
end L2

namespace L2
open PySem PySem.Spec PyProof.Rows
section
variable {X : Cx} {tg : Expr}
def iList (K : PySem.W.Frag) (tl : TE) : TI := fun σ H R => tl σ H fun x H1 => ∃ a, x = .ref a ∧ (∃ xs, SqL K H1 a xs) ∧ R (Itl K a) H1
def iTup (K : PySem.W.Frag) (tl : TE) : TI := fun σ H R => tl σ H fun x H1 => ∃ a, x = .ref a ∧ (∃ xs, SqT K H1 a xs) ∧ R (Itt K a) H1
theorem pi_list {l : Expr} {tl : TE} (hl : PE X l tl) : PI X tg l (iList X.K tl) := by
  intro pins s σ H R I h
  refine thn (hl pins s σ H _ I h) fun v s1 ⟨x, H1, I1, r1, q1⟩ => ?_
  obtain ⟨a, e, ⟨xs, hq⟩, q⟩ := q1
  subst e
  cases r1
  obtain ⟨its, rv, p, hz⟩ := I1.list hq
  refine wpAny_pyIter_list p.isList ?_
  refine ⟨s1.heap.objs.size, [s1.heap.objs.size], _, _, H1, rfl, I1.kept (t' := s1.toks) fun b o e => Heap.get?_push_of_some _ e, turn_list a _, ⟨_, Heap.get?_push_size _ rfl, rfl, rfl⟩, fun b hb => ?_, q⟩
  have e : b = s1.heap.objs.size := by simpa using hb
  subst e
  exact I1.fpOk (Nat.le_refl _) (I1.hok.fresh (Nat.le_refl _))
theorem range_it {pins : List (Addr × Obj)} {σ : St} {H : Hp} {s : Shared} {R : It → Hp → Prop} {E : Value → Shared → Prop} {lo hi : Int} {t u v : Tok} {tk : Nat} (I : Inv X pins σ H s) (h1 : -(2 ^ 62) ≤ lo) (h2 : lo < 2 ^ 62) (h3 : -(2 ^ 62) ≤ hi) (h4 : hi < 2 ^ 62)
    (q : R (Itr lo (hi - lo).toNat) H) : wpAny (model X.prog X.w) X.A (pyIter (.ref s.heap.objs.size)) (PIE X pins σ tg R) E { s with heap := s.heap.push { cls := .type "range", data := .fields #[.int lo t, .int hi u, .int 1 v] }, toks := tk } := by
  refine wpAny_pyIter_range (IsRange.new ..) (small_one h1 h2 h3 h4) ?_
  have I1 : Inv X pins σ H { s with heap := s.heap.push { cls := .type "range", data := .fields #[.int lo t, .int hi u, .int 1 v] }, toks := tk } := I.kept fun b o e => Heap.get?_push_of_some _ e
  refine ⟨(s.heap.push { cls := .type "range", data := .fields #[.int lo t, .int hi u, .int 1 v] }).objs.size, [(s.heap.push { cls := .type "range", data := .fields #[.int lo t, .int hi u, .int 1 v] }).objs.size], _, _, H, rfl,
    I1.kept (t' := tk) fun b o e => Heap.get?_push_of_some _ e, turn_range _ lo (hi - lo).toNat, ?_, fun b hb => ?_, q⟩
  · have e1 : lo + ((0 : Nat) : Int) * 1 = lo := by simp
    have e2 : (((hi - lo).toNat : Nat) : Int) - ((0 : Nat) : Int) = Builtin.Range.rangeSize lo hi 1 := by rw [rangeSize_one]; split <;> omega
    show IsRangeIter _ _ (lo + ((0 : Nat) : Int) * 1) ((((hi - lo).toNat : Nat) : Int) - ((0 : Nat) : Int)) 1
    rw [e1, e2]
    exact Heap.get?_push_size _ rfl
  · have e : b = (s.heap.push { cls := .type "range", data := .fields #[.int lo t, .int hi u, .int 1 v] }).objs.size := by simpa using hb
    subst e
    exact I1.fpOk (Nat.le_refl _) (I1.hok.fresh (Nat.le_refl _))
def iRng1 (ta : TA) : TI := fun σ H R => ta σ H fun vs H1 => ∃ j : Int, vs = [.int j] ∧ -(2 ^ 62) ≤ j ∧ j < 2 ^ 62 ∧ R (Itr 0 j.toNat) H1
def iRng2 (ta : TA) : TI := fun σ H R => ta σ H fun vs H1 => ∃ i j : Int, vs = [.int i, .int j] ∧ (-(2 ^ 62) ≤ i ∧ i < 2 ^ 62 ∧ -(2 ^ 62) ≤ j ∧ j < 2 ^ 62) ∧ R (Itr i (j - i).toNat) H1
theorem pi_range1 {a : Expr} {ta : TA} {p pos : Pos} (hg : Gl X "range") (hm : X.mg "range" = none) (ha : PA X [a] ta) (hs : starEach [a] X.env = [(false, eval a X.env)] := by rfl) : PI X tg (.Call (.Name "range" p) [a] [] pos) (iRng1 ta) := by
  intro pins s σ H R I h
  refine Call_ (ld_blt I hg hm boot_range (PyProof.Rows.callWith_type1 (thn (ha pos pins s σ H _ I h) fun us s1 ⟨vs, H1, I1, r1, q1⟩ => ?_) hs rfl))
  obtain ⟨j, e, q1, q2, q⟩ := q1
  subst e
  cases r1 with
  | cons r rr =>
    cases rr
    obtain ⟨t, rfl⟩ := r
    exact call_range_1 (range_it I1 (by omega) (by omega) q1 q2 (by simpa using q))
def tFor (wi : TI) (g : TG) (tb : TS) : TS := fun D σ H => wi σ H fun J H1 => ∃ W : Nat → Nat → St → Hp → Prop, (∃ m, W 0 m σ H1) ∧ ∀ i m σ H, W i m σ H →
  (J.stop i H ∧ D.nx σ H) ∨ (J.go i H ∧ ∃ N : St → Hp → Prop, (∀ σ' H', N σ' H' → ∃ m', m' < m ∧ W (i + 1) m' σ' H') ∧ ∀ x H', J.yld i H x H' → g x σ H' fun σ2 H2 => tb { D with nx := N, ct := N, bk := D.nx } σ2 H2)
def pinsAt (fp : List Addr) (h : Heap) : List (Addr × Obj) := fp.filterMap fun b => (h.get? b).map fun o => (b, o)
theorem mem_pinsAt {fp : List Addr} {h : Heap} {b : Addr} {o : Obj} (hb : b ∈ fp) (e : h.get? b = some o) : (b, o) ∈ pinsAt fp h := List.mem_filterMap.mpr ⟨b, hb, by rw [e]; rfl⟩
theorem of_pinsAt {fp : List Addr} {h : Heap} {p : Addr × Obj} (hp : p ∈ pinsAt fp h) : p.1 ∈ fp ∧ h.get? p.1 = some p.2 := by
  obtain ⟨b, hb, e⟩ := List.mem_filterMap.mp hp
  cases q : h.get? b with
  | none => rw [q] at e; cases e
  | some o =>
    rw [q] at e
    have e' : (b, o) = p := Option.some.inj e
    subst e'
    exact ⟨hb, q⟩
theorem Inv.pinned {pins : List (Addr × Obj)} {σ : St} {H : Hp} {s : Shared} {fp : List Addr} (I : Inv X pins σ H s) (hf : ∀ b ∈ fp, FpOk X pins H b) (ho : ∀ b ∈ fp, ∃ o, s.heap.get? b = some o ∧ ∀ v, o.data ≠ .cell v) : Inv X (pins ++ pinsAt fp s.heap) σ H s :=
  I.pins_of fun p hp => (List.mem_append.mp hp).elim (fun z => I.pin p (List.mem_append_right _ z)) fun z => by
    obtain ⟨hb, e⟩ := of_pinsAt z
    obtain ⟨f0, f1, f2, _⟩ := hf p.1 hb
    obtain ⟨o, e', d⟩ := ho p.1 hb
    rw [e] at e'; cases e'
    exact ⟨e, f0, f1, f2, d⟩
theorem Inv.unpinned {pins pl : List (Addr × Obj)} {σ : St} {H : Hp} {s : Shared} (I : Inv X (pins ++ pl) σ H s) : Inv X pins σ H s := I.pins_of fun p hp => I.pin p (List.mem_append_right _ (List.mem_append_left _ hp))
theorem ps_for {iter : Expr} {body : List Stmt} {wi : TI} {g : TG} {tb : TS} {pos : Pos} (hp : PassesOwn (model X.prog X.w) X.A X.env X.xe) (hc : X.calm = true) (hi : PI X tg iter wi) (hg : PG X tg g) (hb : PSs X body tb)
    (hs : ∀ x, foldedSetIterable iter X.env x = pure x := by intro _; rfl) : PS X (.For tg iter body [] pos) (tFor wi g tb) := by
  intro pins s σ H D I h
  refine wpAny_For (thn (hi pins s σ H _ I h) fun v s1 h1 => thn h1 fun itv s2 h2 => ?_) hs
  obtain ⟨it, fp, tn, J, H2, e, I2, T, st2, f2, W, ⟨m0, w0⟩, turn⟩ := h2
  subst e
  -- what stays true of the iterator's objects through the loop
  have stat : ∀ {H' : Hp}, (∀ b ∈ fp, H' b = none) → ∀ b ∈ fp, FpOk X pins H' b := fun hn b hb => ⟨hn b hb, (f2 b hb).2⟩
  refine codeAny_forLoop_any (fun n s' => ∃ i σ' H', Inv X pins σ' H' s' ∧ tn i s'.heap ∧ (∀ b ∈ fp, H' b = none) ∧ W i n σ' H') ?_ m0 ⟨0, σ, H2, I2, st2, fun b hb => (f2 b hb).1, w0⟩
  rintro n s3 ⟨i, σ3, H3, I3, st3, fr3, w3⟩
  rcases turn i n σ3 H3 w3 with ⟨stop, qn⟩ | ⟨go, N, hN, step⟩
  · refine wpAny_passesOwn hp (thn (T.done X rfl rfl rfl hc i pins s3 σ3 H3 X.xe I3 (stat fr3) st3 stop) fun r s4 ⟨hr, I4⟩ => ?_)
    subst hr
    exact wpAny_execs_nil ⟨σ3, H3, I4, qn⟩
  · refine wpAny_passesOwn hp (thn (T.item X rfl rfl rfl hc i pins s3 σ3 H3 X.xe I3 (stat fr3) st3 go) fun r s4 ⟨u, hr, h4⟩ => ?_)
    subst hr
    refine wpAny_passesOwn hp (thn h4 fun _ s5 ⟨x, H5, I5, r5, y5, st5, fr5⟩ => ?_)
    have I5' := I5.pinned (stat fr5) (T.obj _ _ st5)
    refine wpAny_passesOwn hp (thn (hg _ s5 σ3 H5 x u _ I5' r5 (step x H5 y5)) fun _ s6 ⟨σ6, H6, I6, q6⟩ => ?_)
    refine wpAny_passesOwn hp (thn (hb _ s6 σ6 H6 _ I6 q6) fun f s7 q7 => ?_)
    have again : ∀ {σ7 : St} {H7 : Hp}, Inv X (pins ++ pinsAt fp s5.heap) σ7 H7 s7 → N σ7 H7 → ∃ m, m < n ∧ ∃ i σ' H', Inv X pins σ' H' s7 ∧ tn i s7.heap ∧ (∀ b ∈ fp, H' b = none) ∧ W i m σ' H' := fun {σ7 H7} I7 n7 => by
      obtain ⟨m', hm, w7⟩ := hN σ7 H7 n7
      refine ⟨m', hm, i + 1, σ7, H7, I7.unpinned, T.keep _ _ _ st5 fun b hb o e => (I7.pin (b, o) (List.mem_append_right _ (List.mem_append_right _ (mem_pinsAt hb e)))).1, fun b hb => ?_, w7⟩
      obtain ⟨o, e, d⟩ := T.obj _ _ st5 b hb
      exact (I7.pin (b, o) (List.mem_append_right _ (List.mem_append_right _ (mem_pinsAt hb e)))).2.1
    cases f with
    | next => obtain ⟨σ7, H7, I7, n7⟩ := q7; exact again I7 n7
    | cont => obtain ⟨σ7, H7, I7, n7⟩ := q7; exact again I7 n7
    | brk => obtain ⟨σ7, H7, I7, q7⟩ := q7; exact ⟨σ7, H7, I7.unpinned, q7⟩
    | ret v => obtain ⟨x7, σ7, H7, I7, r7, q7⟩ := q7; exact ⟨x7, σ7, H7, I7.unpinned, r7, q7⟩
end

theorem for_list {K : PySem.W.Frag} {a : Addr} {xs : List V} {g : TG} {tb : TS} {D : Ends} {σ : St} {H : Hp} (Pv : Nat → St → Hp → Prop) (h0 : Pv 0 σ H) (hl : ∀ i σ H, i ≤ xs.length → Pv i σ H → SqL K H a xs)
    (hs : ∀ i x σ H, xs[i]? = some x → Pv i σ H → g x σ H fun σ2 H2 => tb { D with nx := Pv (i + 1), ct := Pv (i + 1), bk := D.nx } σ2 H2) (hd : ∀ σ H, Pv xs.length σ H → D.nx σ H) :
    ∃ W : Nat → Nat → St → Hp → Prop, (∃ m, W 0 m σ H) ∧ ∀ i m σ H, W i m σ H →
      ((Itl K a).stop i H ∧ D.nx σ H) ∨ ((Itl K a).go i H ∧ ∃ N : St → Hp → Prop, (∀ σ' H', N σ' H' → ∃ m', m' < m ∧ W (i + 1) m' σ' H') ∧ ∀ x H', (Itl K a).yld i H x H' → g x σ H' fun σ2 H2 => tb { D with nx := N, ct := N, bk := D.nx } σ2 H2) := by
  refine ⟨fun i m σ H => m = xs.length - i ∧ i ≤ xs.length ∧ Pv i σ H, ⟨xs.length, by simp, Nat.zero_le _, h0⟩, ?_⟩
  rintro i m σ H ⟨rfl, hi, p⟩
  have q := hl i σ H hi p
  by_cases hlt : i < xs.length
  · refine .inr ⟨⟨xs, xs[i], q, by simp [hlt]⟩, Pv (i + 1), fun σ' H' p' => ⟨xs.length - (i + 1), by omega, rfl, hlt, p'⟩, fun x H' y => ?_⟩
    obtain ⟨e, y⟩ := y
    subst e
    exact hs i x σ _ (y xs q) p
  · have e : i = xs.length := by omega
    subst e
    exact .inl ⟨⟨xs, q, Nat.le_refl _⟩, hd σ H p⟩
theorem for_range {lo : Int} {n : Nat} {g : TG} {tb : TS} {D : Ends} {σ : St} {H : Hp} (Pv : Nat → St → Hp → Prop) (h0 : Pv 0 σ H)
    (hs : ∀ i σ H, i < n → Pv i σ H → g (.int (lo + i)) σ H fun σ2 H2 => tb { D with nx := Pv (i + 1), ct := Pv (i + 1), bk := D.nx } σ2 H2) (hd : ∀ σ H, Pv n σ H → D.nx σ H) :
    ∃ W : Nat → Nat → St → Hp → Prop, (∃ m, W 0 m σ H) ∧ ∀ i m σ H, W i m σ H →
      ((Itr lo n).stop i H ∧ D.nx σ H) ∨ ((Itr lo n).go i H ∧ ∃ N : St → Hp → Prop, (∀ σ' H', N σ' H' → ∃ m', m' < m ∧ W (i + 1) m' σ' H') ∧ ∀ x H', (Itr lo n).yld i H x H' → g x σ H' fun σ2 H2 => tb { D with nx := N, ct := N, bk := D.nx } σ2 H2) := by
  refine ⟨fun i m σ H => m = n - i ∧ i ≤ n ∧ Pv i σ H, ⟨n, by simp, Nat.zero_le _, h0⟩, ?_⟩
  rintro i m σ H ⟨rfl, hi, p⟩
  by_cases hlt : i < n
  · refine .inr ⟨hlt, Pv (i + 1), fun σ' H' p' => ⟨n - (i + 1), by omega, rfl, hlt, p'⟩, fun x H' y => ?_⟩
    obtain ⟨e, y⟩ := y
    subst e y
    exact hs i σ _ hlt p
  · have e : i = n := by omega
    subst e
    exact .inl ⟨Nat.le_refl _, hd σ H p⟩
end L2

namespace L2
open PySem PySem.Spec PyProof.Rows

abbrev R2 := V → V → Hp → VK → Prop
def OpR (X : Cx) (f : Value → Value → Sem Value) (r : R2) : Prop :=
  ∀ (pins : List (Addr × Obj)) (s : Shared) (σ : St) (H : Hp) (x y : V) (v u : Value) (Q : VK), Inv X pins σ H s → RelV x v → RelV y u → r x y H Q →
    wpAny (model X.prog X.w) X.A (f v u) (EP X pins σ Q) X.xe s
def UnR (X : Cx) (f : Value → Sem Value) (r : V → Hp → VK → Prop) : Prop :=
  ∀ (pins : List (Addr × Obj)) (s : Shared) (σ : St) (H : Hp) (x : V) (v : Value) (Q : VK), Inv X pins σ H s → RelV x v → r x H Q →
    wpAny (model X.prog X.w) X.A (f v) (EP X pins σ Q) X.xe s
def CallR (X : Cx) (f : Value) (r : List V → Hp → VK → Prop) : Prop :=
  ∀ (pins : List (Addr × Obj)) (s : Shared) (σ : St) (H : Hp) (xs : List V) (us : List Value) (Q : VK), Inv X pins σ H s → Vals xs us → r xs H Q →
    wpAny (model X.prog X.w) X.A (call f us) (EP X pins σ Q) X.xe s
def TruR (X : Cx) (r : V → Hp → (Bool → Hp → Prop) → Prop) : Prop :=
  ∀ (pins : List (Addr × Obj)) (s : Shared) (σ : St) (H : Hp) (x : V) (v : Value) (Q : Bool → Hp → Prop), Inv X pins σ H s → RelV x v → r x H Q →
    wpAny (model X.prog X.w) X.A (truthy v) (TP X pins σ Q) X.xe s

def tOp (r : R2) (ta tb : TE) : TE := fun σ H Q => ta σ H fun x H1 => tb σ H1 fun y H2 => r x y H2 Q
def tUn (r : V → Hp → VK → Prop) (ta : TE) : TE := fun σ H Q => ta σ H fun x H1 => r x H1 Q
def rI (C : Int → Int → Prop) (g : Int → Int → V) : R2 := fun x y H Q => ∃ i j, x = .int i ∧ y = .int j ∧ C i j ∧ Q (g i j) H
def rI0 (g : Int → Int → V) : R2 := fun x y H Q => ∃ i j, x = .int i ∧ y = .int j ∧ Q (g i j) H
def rU (g : Int → V) : V → Hp → VK → Prop := fun x H Q => ∃ i, x = .int i ∧ Q (g i) H

section
variable {X : Cx} {a b c : Expr} {ta tb tc : TE} {pos : Pos}

theorem binT (ha : PE X a ta) (hb : PE X b tb) {pins : List (Addr × Obj)} {s : Shared} {σ : St} {H : Hp} {R : V → V → Hp → Prop} (I : Inv X pins σ H s)
    (h : ta σ H fun x H1 => tb σ H1 fun y H2 => R x y H2) {Q : Value → Shared → Prop} {f : Value → Value → Sem Value}
    (hf : ∀ v u s2 x y H2, Inv X pins σ H2 s2 → RelV x v → RelV y u → R x y H2 → wpAny (model X.prog X.w) X.A (f v u) Q X.xe s2) :
    wpAny (model X.prog X.w) X.A (eval a X.env) (fun v s₁ => wpAny (model X.prog X.w) X.A (eval b X.env) (fun u s₂ => wpAny (model X.prog X.w) X.A (f v u) Q X.xe s₂) X.xe s₁) X.xe s := by
  refine thn (ha pins s σ H _ I h) fun v s1 ⟨x, H1, I1, r1, q1⟩ => ?_
  refine thn (hb pins s1 σ H1 _ I1 q1) fun u s2 ⟨y, H2, I2, r2, q2⟩ => ?_
  exact hf v u s2 x y H2 I2 r1 r2 q2

theorem pe_op {op : Operator} {r : R2} (ho : OpR X (binaryOp op) r) (ha : PE X a ta) (hb : PE X b tb) : PE X (.BinOp a op b pos) (tOp r ta tb) := by
  intro pins s σ H Q I h
  exact wpAny_BinOp (binT ha hb I h fun v u s2 x y H2 I2 rx ry q => ho pins s2 σ H2 x y v u Q I2 rx ry q)
theorem pe_un {op : UnaryOp} {r : V → Hp → VK → Prop} (ho : UnR X (unaryOp op) r) (ha : PE X a ta) : PE X (.UnaryOp op a pos) (tUn r ta) := by
  intro pins s σ H Q I h
  exact UnaryOp_ (thn (ha pins s σ H _ I h) fun v s1 ⟨x, H1, I1, r1, q1⟩ => ho pins s1 σ H1 x v Q I1 r1 q1)
theorem opI {f : Value → Value → Sem Value} {C : Int → Int → Prop} {g : Int → Int → Int}
    (rule : ∀ (i j : Int) (t u : Tok) (s : Shared) (Q : Value → Shared → Prop) (E : Value → Shared → Prop), C i j → Q (.int (g i j) s.toks) { s with toks := s.toks + 1 } → wpAny (model X.prog X.w) X.A (f (.int i t) (.int j u)) Q E s) :
    OpR X f (rI C fun i j => .int (g i j)) := by
  intro pins s σ H x y v u Q I rx ry h
  obtain ⟨i, j, rfl, rfl, hc, q⟩ := h
  obtain ⟨t, rfl⟩ := rx
  obtain ⟨t', rfl⟩ := ry
  exact rule i j t t' s _ _ hc ⟨.int (g i j), H, I.tok _, ⟨_, rfl⟩, q⟩
theorem opI0 {f : Value → Value → Sem Value} {g : Int → Int → Int}
    (rule : ∀ (i j : Int) (t u : Tok) (s : Shared) (Q : Value → Shared → Prop) (E : Value → Shared → Prop), Q (.int (g i j) s.toks) { s with toks := s.toks + 1 } → wpAny (model X.prog X.w) X.A (f (.int i t) (.int j u)) Q E s) :
    OpR X f (rI0 fun i j => .int (g i j)) := by
  intro pins s σ H x y v u Q I rx ry h
  obtain ⟨i, j, rfl, rfl, q⟩ := h
  obtain ⟨t, rfl⟩ := rx
  obtain ⟨t', rfl⟩ := ry
  exact rule i j t t' s _ _ ⟨.int (g i j), H, I.tok _, ⟨_, rfl⟩, q⟩
theorem opB0 {f : Value → Value → Sem Value} {g : Int → Int → Bool}
    (rule : ∀ (i j : Int) (t u : Tok) (s : Shared) (Q : Value → Shared → Prop) (E : Value → Shared → Prop), Q (.bool (g i j)) s → wpAny (model X.prog X.w) X.A (f (.int i t) (.int j u)) Q E s) :
    OpR X f (rI0 fun i j => .bl (g i j)) := by
  intro pins s σ H x y v u Q I rx ry h
  obtain ⟨i, j, rfl, rfl, q⟩ := h
  obtain ⟨t, rfl⟩ := rx
  obtain ⟨t', rfl⟩ := ry
  exact rule i j t t' s _ _ ⟨.bl (g i j), H, I, rfl, q⟩

def CDiv (i j : Int) : Prop := 0 < j ∧ j < 1073741824
def CDivN (i j : Int) : Prop := j ≠ 0 ∧ j.natAbs < 1073741824
def CPow (i j : Int) : Prop := 0 ≤ j ∧ j ≤ 1000000 ∧ i.natAbs < 2 ^ 64
def CMul (i j : Int) : Prop := (-(2 ^ 64) < i ∧ i < 2 ^ 64) ∨ (-(2 ^ 64) < j ∧ j < 2 ^ 64)
theorem CMul.ok {i j : Int} (h : CMul i j) : IntMulOk i j := by
  rcases h with ⟨h1, h2⟩ | ⟨h1, h2⟩
  · exact .of_left (intBits_le_64 h1 h2)
  · exact .of_right (intBits_le_64 h1 h2)
theorem op_add : OpR X (binaryOp .Add) (rI0 fun i j => .int (i + j)) := opI0 fun _ _ _ _ _ _ _ q => add_int q
theorem op_sub : OpR X (binaryOp .Sub) (rI0 fun i j => .int (i - j)) := opI0 fun _ _ _ _ _ _ _ q => sub_int q
theorem op_mul : OpR X (binaryOp .Mult) (rI CMul fun i j => .int (i * j)) := opI fun _ _ _ _ _ _ _ hc q => mul_int q hc.ok
theorem op_mod : OpR X (binaryOp .Mod) (rI (fun _ j => 0 < j) fun i j => .int (i % j)) := opI fun i j _ _ _ _ _ hc q => by
  have h1 : (0 : Int) < j := hc
  exact mod_int' (by omega) (by rw [Int.fmod_eq_emod_of_nonneg i (by omega)]; exact q)
theorem unI {f : Value → Sem Value} {g : Int → Int}
    (rule : ∀ (i : Int) (t : Tok) (s : Shared) (Q : Value → Shared → Prop) (E : Value → Shared → Prop), Q (.int (g i) s.toks) { s with toks := s.toks + 1 } → wpAny (model X.prog X.w) X.A (f (.int i t)) Q E s) :
    UnR X f (rU fun i => .int (g i)) := by
  intro pins s σ H x v Q I rx h
  obtain ⟨i, rfl, q⟩ := h
  obtain ⟨t, rfl⟩ := rx
  exact rule i t s _ _ ⟨.int (g i), H, I.tok _, ⟨_, rfl⟩, q⟩
theorem un_neg : UnR X (unaryOp .USub) (rU fun i => .int (-i)) := unI fun _ _ _ _ _ q => neg_int q
end

def scal : V → V → Bool
  | .non, .non => true | .non, .int _ => true | .int _, .non => true | .non, .bl _ => true | .bl _, .non => true | .non, .str _ => true | .str _, .non => true
  | .int _, .int _ => true | .bl _, .bl _ => true | .str _, .str _ => true | .byt _, .byt _ => true
  | .int _, .str _ => true | .str _, .int _ => true | .bl _, .str _ => true | .str _, .bl _ => true
  | _, _ => false
def rEq : R2 := fun x y H Q => scal x y = true ∧ Q (.bl (decide (x = y))) H
def rNe : R2 := fun x y H Q => scal x y = true ∧ Q (.bl (!decide (x = y))) H

theorem dec_int {i j : Int} : decide (V.int i = V.int j) = (i == j) := by
  rw [Bool.eq_iff_iff]
  simp
theorem dec_bl {i j : Bool} : decide (V.bl i = V.bl j) = (i == j) := by
  rw [Bool.eq_iff_iff]
  simp
theorem dec_str {i j : Str} : decide (V.str i = V.str j) = (i == j) := by
  rw [Bool.eq_iff_iff]
  simp
theorem dec_byt {i j : Array UInt8} : decide (V.byt i = V.byt j) = (i.toList == j.toList) := by
  rw [Bool.eq_iff_iff]
  cases i
  cases j
  simp

section
variable {X : Cx} {a b c : Expr} {ta tb tc : TE} {pos : Pos}
theorem fin_bl {pins : List (Addr × Obj)} {σ : St} {H : Hp} {s : Shared} {Q : VK} {k k' : Bool} (I : Inv X pins σ H s) (q : Q (.bl k) H) (e : k = k') : EP X pins σ Q (.bool k') s := by
  subst e
  exact ⟨.bl k, H, I, rfl, q⟩
theorem op_eq : OpR X (compareOp .Eq) rEq := by
  intro pins s σ H x y v u Q I rx ry h
  obtain ⟨hs, q⟩ := h
  cases x with
  | non =>
    cases rx
    cases y with
    | non => cases ry; exact PySem.EqNone.eq_none_none (fin_bl I q (by simp))
    | bl j => cases ry; exact PySem.EqNone.eq_none_bool (fin_bl I q (by simp))
    | int j => obtain ⟨t', rfl⟩ := ry; exact PySem.EqNone.eq_none_int (fin_bl I q (by simp))
    | str j => obtain ⟨t', rfl⟩ := ry; exact PySem.EqNone.eq_none_str (fin_bl I q (by simp))
    | _ => exact absurd (show false = true from hs) Bool.false_ne_true
  | bl i =>
    cases rx
    cases y with
    | non => cases ry; exact PySem.EqNone.eq_bool_none (fin_bl I q (by simp))
    | bl j => cases ry; exact eq_bool (fin_bl I q dec_bl)
    | str j => obtain ⟨t', rfl⟩ := ry; exact PySem.EqMixed.eq_bool_str (fin_bl I q (by simp))
    | _ => exact absurd (show false = true from hs) Bool.false_ne_true
  | int i =>
    obtain ⟨t, rfl⟩ := rx
    cases y with
    | non => cases ry; exact PySem.EqNone.eq_int_none (fin_bl I q (by simp))
    | int j => obtain ⟨t', rfl⟩ := ry; exact eq_int (fin_bl I q dec_int)
    | str j => obtain ⟨t', rfl⟩ := ry; exact PySem.EqMixed.eq_int_str (fin_bl I q (by simp))
    | _ => exact absurd (show false = true from hs) Bool.false_ne_true
  | str i =>
    obtain ⟨t, rfl⟩ := rx
    cases y with
    | non => cases ry; exact PySem.EqNone.eq_str_none (fin_bl I q (by simp))
    | bl j => cases ry; exact PySem.EqMixed.eq_str_bool (fin_bl I q (by simp))
    | int j => obtain ⟨t', rfl⟩ := ry; exact PySem.EqMixed.eq_str_int (fin_bl I q (by simp))
    | str j => obtain ⟨t', rfl⟩ := ry; exact eq_str (fin_bl I q dec_str)
    | _ => exact absurd (show false = true from hs) Bool.false_ne_true
  | byt i =>
    obtain ⟨t, rfl⟩ := rx
    cases y with
    | byt j => obtain ⟨t', rfl⟩ := ry; exact PySem.W.eq_bytes (fin_bl I q dec_byt)
    | _ => exact absurd (show false = true from hs) Bool.false_ne_true
  | _ => cases y <;> exact absurd (show false = true from hs) Bool.false_ne_true
theorem op_ne : OpR X (compareOp .NotEq) rNe := by
  intro pins s σ H x y v u Q I rx ry h
  obtain ⟨hs, q⟩ := h
  cases x with
  | non =>
    cases rx
    cases y with
    | non => cases ry; exact PySem.EqNone.ne_none_none (fin_bl I q (by simp))
    | bl j => cases ry; exact PySem.EqNone.ne_none_bool (fin_bl I q (by simp))
    | int j => obtain ⟨t', rfl⟩ := ry; exact PySem.EqNone.ne_none_int (fin_bl I q (by simp))
    | str j => obtain ⟨t', rfl⟩ := ry; exact PySem.EqNone.ne_none_str (fin_bl I q (by simp))
    | _ => exact absurd (show false = true from hs) Bool.false_ne_true
  | bl i =>
    cases rx
    cases y with
    | non => cases ry; exact PySem.EqNone.ne_bool_none (fin_bl I q (by simp))
    | bl j => cases ry; exact ne_bool (fin_bl I q (congrArg not dec_bl))
    | str j => obtain ⟨t', rfl⟩ := ry; exact PySem.EqMixed.ne_bool_str (fin_bl I q (by simp))
    | _ => exact absurd (show false = true from hs) Bool.false_ne_true
  | int i =>
    obtain ⟨t, rfl⟩ := rx
    cases y with
    | non => cases ry; exact PySem.EqNone.ne_int_none (fin_bl I q (by simp))
    | int j => obtain ⟨t', rfl⟩ := ry; exact ne_int (fin_bl I q (congrArg not dec_int))
    | str j => obtain ⟨t', rfl⟩ := ry; exact PySem.EqMixed.ne_int_str (fin_bl I q (by simp))
    | _ => exact absurd (show false = true from hs) Bool.false_ne_true
  | str i =>
    obtain ⟨t, rfl⟩ := rx
    cases y with
    | non => cases ry; exact PySem.EqNone.ne_str_none (fin_bl I q (by simp))
    | bl j => cases ry; exact PySem.EqMixed.ne_str_bool (fin_bl I q (by simp))
    | int j => obtain ⟨t', rfl⟩ := ry; exact PySem.EqMixed.ne_str_int (fin_bl I q (by simp))
    | str j => obtain ⟨t', rfl⟩ := ry; exact ne_str (fin_bl I q (congrArg not dec_str))
    | _ => exact absurd (show false = true from hs) Bool.false_ne_true
  | byt i =>
    obtain ⟨t, rfl⟩ := rx
    cases y with
    | byt j => obtain ⟨t', rfl⟩ := ry; exact PySem.W.ne_bytes (fin_bl I q (congrArg not dec_byt))
    | _ => exact absurd (show false = true from hs) Bool.false_ne_true
  | _ => cases y <;> exact absurd (show false = true from hs) Bool.false_ne_true

theorem op_lt : OpR X (compareOp .Lt) (rI0 fun i j => .bl (decide (i < j))) := opB0 fun _ _ _ _ _ _ _ q => lt_int q
theorem op_le : OpR X (compareOp .LtE) (rI0 fun i j => .bl (decide (i ≤ j))) := opB0 fun _ _ _ _ _ _ _ q => le_int q
theorem op_ge : OpR X (compareOp .GtE) (rI0 fun i j => .bl (decide (j ≤ i))) := opB0 fun _ _ _ _ _ _ _ q => ge_int q
theorem op_isN : OpR X (compareOp .Is) (fun x y H Q => y = .non ∧ Q (.bl (decide (x = .non))) H) := by
  intro pins s σ H x y v u Q I rx ry h
  obtain ⟨rfl, q⟩ := h
  cases ry
  refine is_none_gen (fin_bl I q ?_)
  cases x <;> first
    | (cases rx; rfl)
    | (obtain ⟨t, rfl⟩ := rx; rfl)
def isObj : HO → Bool
  | .lst _ => true
  | .ins _ _ _ => true
  | _ => false
theorem nomark (b : Expr) {op : CmpOp} (h : op ≠ .In := by decide) (h2 : op ≠ .NotIn := by decide) : behindInMarks op b = false := by
  have e1 : (op == CmpOp.In) = false := by cases op <;> first | rfl | exact absurd rfl h
  have e2 : (op == CmpOp.NotIn) = false := by cases op <;> first | rfl | exact absurd rfl h2
  cases b <;> simp [behindInMarks, e1, e2]
theorem pe_cmpR {op : CmpOp} {r : R2} (ho : OpR X (compareOp op) r) (ha : PE X a ta) (hb : PE X b tb) (hm : behindInMarks op b = false) : PE X (.Compare a [op] [b] pos) (tOp r ta tb) := by
  intro pins s σ H Q I h
  exact wpAny_Compare1 (binT ha hb I h fun v u s2 x y H2 I2 rx ry q => ho pins s2 σ H2 x y v u Q I2 rx ry q) hm
def tTest (t : TE) : TT := fun σ H Q => t σ H fun x H' => ∃ k, x = .bl k ∧ Q k H'
theorem pt_cmpR {op : CmpOp} {r : R2} (ho : OpR X (compareOp op) r) (ha : PE X a ta) (hb : PE X b tb) (hm : behindInMarks op b = false) : PT X (.Compare a [op] [b] pos) (tTest (tOp r ta tb)) := by
  intro pins s σ H Q I h
  refine wpAny_isTrue_Compare1 (thn (ha pins s σ H _ I h) fun v s1 ⟨x, H1, I1, r1, q1⟩ => thn (hb pins s1 σ H1 _ I1 q1) fun u s2 ⟨y, H2, I2, r2, q2⟩ =>
    thn (ho pins s2 σ H2 x y v u _ I2 r1 r2 q2) fun c s3 ⟨z, H3, I3, r3, k, e, q3⟩ => ?_) hm
  subst e
  cases r3
  exact wpAny_truthy_bool ⟨H3, I3, q3⟩
def tChain (r r' : R2) (ta tb tc : TE) : TE := fun σ H Q => ta σ H fun x H1 => tb σ H1 fun y H2 => r x y H2 fun z H3 => ∃ k, z = .bl k ∧
  (if k = true then tc σ H3 fun w' H4 => r' y w' H4 Q else Q (.bl false) H3)
def TruV (K : PySem.W.Frag) (x : V) (H : Hp) (k : Bool) : Prop :=
  match x with
  | .non => k = false
  | .bl b => k = b
  | .int i => k = (i != 0)
  | .str y => y.length ≤ sizeLine ∧ k = ((y.length : Int) != 0)
  | .byt y => y.size ≤ sizeLine ∧ k = ((y.size : Int) != 0)
  | .ref p => (∃ xs, SqL K H p xs ∧ k = !xs.isEmpty) ∨ (∃ xs, SqT K H p xs ∧ k = !xs.isEmpty) ∨ ∃ kvs, H p = some (.dK kvs) ∧ k = !kvs.isEmpty
  | _ => False
theorem isEmpty_kv {κ : Type} {kvs : List (κ × V)} {vs : List (κ × Value)} (r : KV kvs vs) : (!vs.isEmpty) = !kvs.isEmpty := by
  cases r <;> rfl
theorem isEmpty_of {xs : List V} {its : List Value} (r : Vals xs its) : (!its.toArray.isEmpty) = !xs.isEmpty := by
  cases r <;> simp
theorem line63 : (sizeLine : Nat) < 2 ^ 63 := by rw [sizeLine_eq]; decide
theorem tru_ok : TruR X (fun x H Q => ∃ k, TruV X.K x H k ∧ Q k H) := by
  intro pins s σ H x v Q I rx h
  obtain ⟨k, e, q⟩ := h
  have hl := line63
  have hs : sizeLine = 16777216 := sizeLine_eq
  cases x with
  | non =>
    cases rx
    have e' : k = false := e
    subst e'
    exact truthy_none ⟨H, I, q⟩
  | bl b =>
    cases rx
    have e' : k = b := e
    subst e'
    exact wpAny_truthy_bool ⟨H, I, q⟩
  | int i =>
    obtain ⟨t, rfl⟩ := rx
    have e' : k = (i != 0) := e
    subst e'
    exact PySem.P.truthy_int ⟨H, I, q⟩
  | str y =>
    obtain ⟨t, rfl⟩ := rx
    obtain ⟨hy, e'⟩ : y.length ≤ sizeLine ∧ k = ((y.length : Int) != 0) := e
    subst e'
    exact PySem.P.truthy_str (by omega) ⟨H, I.tok _, q⟩
  | byt y =>
    obtain ⟨t, rfl⟩ := rx
    obtain ⟨hy, e'⟩ : y.size ≤ sizeLine ∧ k = ((y.size : Int) != 0) := e
    subst e'
    exact PySem.W.truthy_bytes (by omega) ⟨H, I.tok _, q⟩
  | ref p =>
    cases rx
    have e' : (∃ xs, SqL X.K H p xs ∧ k = !xs.isEmpty) ∨ (∃ xs, SqT X.K H p xs ∧ k = !xs.isEmpty) ∨ ∃ kvs, H p = some (.dK kvs) ∧ k = !kvs.isEmpty := e
    rcases e' with ⟨xs, hx, e'⟩ | ⟨xs, hx, e'⟩ | ⟨kvs, hx, e'⟩
    · subst e'
      obtain ⟨its, r, pl, hz⟩ := I.list hx
      have hlen := r.length
      exact wpAny_truthy_list pl.isList (by simp only [List.size_toArray]; omega) ⟨H, I.tok _, by rw [isEmpty_of r]; exact q⟩
    · subst e'
      obtain ⟨its, r, pl, hz⟩ := I.tuple hx
      have hlen := r.length
      exact truthy_tuple pl (by simp only [List.size_toArray]; omega) ⟨H, I.tok _, by rw [isEmpty_of r]; exact q⟩
    · subst e'
      obtain ⟨hz, hS, vs, r, m⟩ : kvs.length ≤ sizeLine ∧ (p == sysModules) = false ∧ ∃ vs, KV kvs vs ∧ s.heap.DictOf (mixKind X.prog X.w) p vs := I.hok p _ hx
      have hlen : kvs.length = vs.length := Paired.length r
      exact wpAny_truthy_dict hS m (by omega) ⟨H, I.tok _, by rw [isEmpty_kv r]; exact q⟩
  | _ => exact (show False from e).elim
theorem pt_truth (ha : PE X a ta) (he : ∀ whole, isTrue a X.env whole = (do let v ← whole; standAt a.pos; holding [v] (truthy v))) :
    PT X a (fun σ H Q => ta σ H fun x H' => ∃ k, TruV X.K x H' k ∧ Q k H') := by
  intro pins s σ H Q I h
  exact isTrue_plain (thn (ha pins s σ H _ I h) fun v s1 ⟨x, H1, I1, r1, q1⟩ => tru_ok pins s1 σ H1 x v Q I1 r1 q1) (he _)

theorem op_add_str : OpR X (binaryOp .Add) (fun x y H Q => ∃ i j, x = .str i ∧ y = .str j ∧ i.length + j.length ≤ sizeLine ∧ Q (.str (i ++ j)) H) := by
  intro pins s σ H x y v u Q I rx ry h
  obtain ⟨i, j, rfl, rfl, hz, q⟩ := h
  obtain ⟨t, rfl⟩ := rx
  obtain ⟨t', rfl⟩ := ry
  exact add_str (fun t' tk => ⟨.str (i ++ j), H, I.tok _, ⟨_, rfl⟩, q⟩) hz
def PlainIxT (b : Expr) : Prop := ∀ o i, subscripted b false o i = operate [o, i] (getItem o i)
theorem vals1 {x : V} {us : List Value} (r : Vals [x] us) : ∃ u, us = [u] ∧ RelV x u := by
  cases r with
  | cons r1 r2 => cases r2; exact ⟨_, rfl, r1⟩
theorem vals2 {x y : V} {us : List Value} (r : Vals [x, y] us) : ∃ u w', us = [u, w'] ∧ RelV x u ∧ RelV y w' := by
  cases r with
  | cons r1 r2 =>
    cases r2 with
    | cons r3 r4 => cases r4; exact ⟨_, _, rfl, r1, r3⟩
theorem call_int1 : CallR X (.type "int") (fun xs H Q => (∃ i, xs = [.int i] ∧ Q (.int i) H) ∨ ∃ k, xs = [.bl k] ∧ Q (.int (if k then 1 else 0)) H) := by
  intro pins s σ H xs us Q I r h
  rcases h with ⟨i, rfl, q⟩ | ⟨k, rfl, q⟩
  · obtain ⟨u, rfl, t, rfl⟩ := vals1 r
    exact call_int_int ⟨.int i, H, I, ⟨_, rfl⟩, q⟩
  · obtain ⟨u, rfl, r1⟩ := vals1 r
    cases r1
    exact call_int_bool ⟨.int (if k then 1 else 0), H, I.tok _, ⟨_, rfl⟩, q⟩
def LenV (K : PySem.W.Frag) (x : V) (H : Hp) (n : Nat) : Prop :=
  match x with
  | .str y => y.length ≤ sizeLine ∧ n = y.length
  | .byt y => y.size ≤ sizeLine ∧ n = y.size
  | .ref p => (∃ xs, SqL K H p xs ∧ n = xs.length) ∨ ∃ xs, SqT K H p xs ∧ n = xs.length
  | _ => False
end
end L2

namespace L2
open PySem PySem.Spec PyProof.Rows

structure ObjM (h : Heap) (x dx C : Addr) (mA : Str → Option Value) : Prop where
  obj : h.get? x = some (PySem.W.instObj C dx)
  ns : h.Ns1 dx mA
  ne : dx ≠ x

theorem lookIn_ns {h : Heap} {dx : Addr} {mA : Str → Option Value} (n : h.Ns1 dx mA) : ∃ od, h.get? dx = some od ∧ ∀ name, PySem.W.lookIn name od = some (mA name) := by
  obtain ⟨o, es, ep, ho, hd, hk, _, hm⟩ := n
  refine ⟨o, ho, fun name => ?_⟩
  have e := hm name
  unfold nsFind findBy at e
  rw [← Array.find?_toList] at e
  unfold PySem.W.lookIn
  rw [hd]
  dsimp only
  split
  · rename_i y q
    rw [q] at e
    exact congrArg some e
  · rename_i q
    rw [q] at e
    have a : es.toList.any (·.refKey) = false := by
      rw [List.any_eq_false]
      intro y hy
      obtain ⟨z, t, hkey⟩ := hk y (Array.mem_toList_iff.mp hy)
      simp [DictEntry.refKey, hkey]
    have a' : ¬ es.toList.any (·.refKey) = true := by rw [a]; exact Bool.false_ne_true
    rw [if_neg a']
    exact congrArg some e

theorem ObjM.look {h : Heap} {x dx C : Addr} {mA : Str → Option Value} (I : ObjM h x dx C mA) : ∃ od, PySem.W.InstAt h x (PySem.W.instObj C dx) C (some od) ∧ ∀ name, PySem.W.lookIn name od = some (mA name) :=
  let ⟨od, ho, hl⟩ := lookIn_ns I.ns
  ⟨od, ⟨I.obj, rfl, rfl, ho⟩, hl⟩

section
variable {prog : Program} {w : World} {A : Around} {E : Value → Shared → Prop} {s : Shared} {K : PySem.W.Frag} {x dx C f : Addr} {mA : Str → Option Value} {name : Str} {v : Value}

end

def putF (f : Str) (v : V) : List (Str × V) → List (Str × V)
  | [] => [(f, v)]
  | (g, x) :: r => if g = f then (g, v) :: r else (g, x) :: putF f v r
theorem RelO.some_of {v : V} {o : Option Value} (r : RelO (some v) o) : ∃ u, o = some u ∧ RelV v u := by
  cases o with
  | none => exact (show False from r).elim
  | some u => exact ⟨u, rfl, r⟩
section
variable {P : Program} {w : World} {H H' : Hp} {h h' : Heap} {a C dx : Addr} {fs fs' : List (Str × V)}
theorem ins_get (hok : HOk P w H h) (e : H a = some (.ins C dx fs)) : ∃ mA, ObjM h a dx C mA ∧ (∀ f, RelO (fs.lookup f) (mA f)) ∧ PySem.Within mA (fs.map (·.1)) ∧ fs.length ≤ 1000 ∧ H dx = some (.own a) := by
  obtain ⟨d, z, ne, ob, mA, n, r, q⟩ := (show ObjOk P w H h a (.ins C dx fs) from hok a _ e)
  exact ⟨mA, ⟨ob, n, ne⟩, r, q, z, d⟩
end

structure Cls (K : PySem.W.Frag) (C : Addr) : Prop where
  pg : PySem.W.plainGet K C Str.empty = true
  hd : PySem.W.hasDictIn K C = true
  po : PySem.W.plainOver K C = true
  sa : PySem.W.findIn K (.ref C) "__setattr__" = some (some (.builtin "object.__setattr__"))
theorem Cls.get {K : PySem.W.Frag} {C : Addr} (c : Cls K C) (f : Str) : PySem.W.plainGet K C f = true := c.pg
def NoAttr (K : PySem.W.Frag) (C : Addr) (f : Str) : Prop := PySem.W.findIn K (.ref C) f = some none
structure Con (K : PySem.W.Frag) (C : Addr) (f : Str) (v : V) (u : Value) : Prop where
  at_ : PySem.W.findIn K (.ref C) f = some (some u)
  rel : RelV v u
  get : PySem.W.specialIn K u "__get__" = some none
  cp : PySem.W.copiedNames.contains f = false
structure Meth (K : PySem.W.Frag) (C : Addr) (m : Str) (f : Addr) : Prop where
  at_ : PySem.W.findIn K (.ref C) m = some (some (.ref f))
  fn : PySem.W.isFn K (.ref f) = true
  kp : PySem.W.keepIn K (.ref f) = true

section
variable {X : Cx} {pins : List (Addr × Obj)} {σ : St} {H : Hp} {s : Shared} {a C dx : Addr} {fs : List (Str × V)} {f : Str} {v : V} {A : Around} {E : Value → Shared → Prop}

end

def tFld (K : PySem.W.Frag) (ta : TE) (f : Str) : TE := fun σ H Q => ta σ H fun x H1 => ∃ a C dx fs v, x = .ref a ∧ H1 a = some (.ins C dx fs) ∧ Cls K C ∧ NoAttr K C f ∧ fs.lookup f = some v ∧ Q v H1
def tCon (K : PySem.W.Frag) (ta : TE) (f : Str) : TE := fun σ H Q => ta σ H fun x H1 => ∃ a C dx fs v u, x = .ref a ∧ H1 a = some (.ins C dx fs) ∧ Cls K C ∧ Con K C f v u ∧ fs.lookup f = none ∧ Q v H1
def sFld (K : PySem.W.Frag) (ta tv : TE) (f : Str) : TS := fun D σ H => tv σ H fun y H1 => ta σ H1 fun x H2 => ∃ a C dx fs, x = .ref a ∧ H2 a = some (.ins C dx fs) ∧ Cls K C ∧ NoAttr K C f ∧ fs.length < 1000 ∧
  D.nx σ (upd H2 a (.ins C dx (putF f y fs)))
def InOp (X : Cx) (op : Operator) (rd : V → V → Hp → VK → Prop) : Prop :=
  ∀ (pins : List (Addr × Obj)) (s : Shared) (σ : St) (H : Hp) (x y : V) (u v : Value) (Q : VK), Inv X pins σ H s → RelV x u → RelV y v → rd x y H Q → wpAny (model X.prog X.w) X.A (inplaceOp op u v) (EP X pins σ Q) X.xe s
def sFldAug (K : PySem.W.Frag) (ta tv : TE) (rd : V → V → Hp → VK → Prop) (f : Str) : TS := fun D σ H => ta σ H fun x H1 => ∃ a C dx fs v, x = .ref a ∧ H1 a = some (.ins C dx fs) ∧ Cls K C ∧ NoAttr K C f ∧ fs.lookup f = some v ∧
  tv σ H1 fun y H2 => rd v y H2 fun z H3 => ∃ dx' fs', H3 a = some (.ins C dx' fs') ∧ fs'.length < 1000 ∧ D.nx σ (upd H3 a (.ins C dx' (putF f z fs')))

section
variable {X : Cx} {o e value : Expr} {f : Str} {pos pos' tpos : Pos} {ta tv : TE}
def rAdd : V → V → Hp → VK → Prop := fun x y H Q => ∃ i j, x = .int i ∧ y = .int j ∧ Q (.int (i + j)) H
def rSub : V → V → Hp → VK → Prop := fun x y H Q => ∃ i j, x = .int i ∧ y = .int j ∧ Q (.int (i - j)) H
end

section
variable {X : Cx} {pins : List (Addr × Obj)} {σ : St} {H : Hp} {s : Shared} {A : Around} {E : Value → Shared → Prop} {Q : Value → Shared → Prop} {c : Value} {b : Bool}
inductive TyOf (K : PySem.W.Frag) (H : Hp) : V → Value → Prop where
  | non : TyOf K H .non (.type "NoneType")
  | bl (x : Bool) : TyOf K H (.bl x) (.type "bool")
  | int (i : Int) : TyOf K H (.int i) (.type "int")
  | str (x : Str) : TyOf K H (.str x) (.type "str")
  | flt (x : UInt64) : TyOf K H (.flt x) (.type "float")
  | lst {a : Addr} {xs : List V} (e : H a = some (.lst xs)) : TyOf K H (.ref a) (.type "list")
  | frz {a : Addr} {o : Obj} {xs : List V} (e : H a = some (.frz o (.lst xs))) : TyOf K H (.ref a) (.type "list")
  | tup {a : Addr} {xs : List V} (e : H a = some (.tup xs)) : TyOf K H (.ref a) (.type "tuple")
  | dK {a : Addr} {kvs : List (Key × V)} (e : H a = some (.dK kvs)) : TyOf K H (.ref a) (.type "dict")
  | dT {a : Addr} {kvs : List (List Key × V)} (e : H a = some (.dT kvs)) : TyOf K H (.ref a) (.type "dict")
  | ins {a C dx : Addr} {fs : List (Str × V)} (e : H a = some (.ins C dx fs)) (cl : Cls K C) (ha : PySem.W.findIn K (.ref C) "__class__" = some (some (.builtin "object.__class__")))
      (hn : PySem.W.specialIn K (.builtin "object.__class__") "__get__" = some (some (.builtin "getset_descriptor.__get__"))) (htk : PySem.W.takesIn K (.builtin "object.__class__") = some true)
      (hm : PySem.W.mroIn K C (.type "object") = some true) : TyOf K H (.ref a) (.ref C)
theorem isinst_ok {x : V} {u t : Value} (I : Inv X pins σ H s) (rx : RelV x u) (ty : TyOf X.K H x t) (e : PySem.W.kitOne X.K t c = some b) (h : ∀ tk, Q (.bool b) { s with toks := tk }) :
    wpAny (model X.prog X.w) A (call (.builtin "isinstance") [u, c]) Q E s := by
  cases ty with
  | non => cases (show u = Value.none from rx); exact PySem.W.kia_one PySem.W.kitx_none I.kIn True.intro e (fun z => nomatch z) h
  | bl y => cases (show u = Value.bool y from rx); exact PySem.W.kia_one PySem.W.kitx_bool I.kIn True.intro e (fun z => nomatch z) h
  | int i => obtain ⟨t, q⟩ := (show ∃ t, u = Value.int i t from rx); cases q; exact PySem.W.kia_one PySem.W.kitx_int I.kIn True.intro e (fun z => nomatch z) h
  | str y => obtain ⟨t, q⟩ := (show ∃ t, u = Value.str y t from rx); cases q; exact PySem.W.kia_one PySem.W.kitx_str I.kIn True.intro e (fun z => nomatch z) h
  | flt y => obtain ⟨t, q⟩ := (show ∃ t, u = Value.float y t from rx); cases q; exact PySem.W.kia_one PySem.W.kitx_float I.kIn True.intro e (fun z => nomatch z) h
  | @lst a xs ea =>
    cases (show u = Value.ref a from rx)
    obtain ⟨_, _, n, _, h1⟩ := (show ObjOk X.prog X.w H s.heap a (.lst xs) from I.hok a _ ea)
    exact PySem.W.kia_one PySem.W.kitx_list I.kIn ⟨_, h1, rfl⟩ e (fun z => nomatch z) h
  | @frz a ob xs ea =>
    cases (show u = Value.ref a from rx)
    obtain ⟨_, _, _, n, _, h1⟩ := (show ObjOk X.prog X.w H s.heap a (.frz ob (.lst xs)) from I.hok a _ ea)
    exact PySem.W.kia_one PySem.W.kitx_list I.kIn ⟨_, h1, rfl⟩ e (fun z => nomatch z) h
  | @tup a xs ea =>
    cases (show u = Value.ref a from rx)
    obtain ⟨_, _, _, p⟩ := (show ObjOk X.prog X.w H s.heap a (.tup xs) from I.hok a _ ea)
    obtain ⟨o, h1, h2, _⟩ := p
    exact PySem.W.kia_one PySem.W.kitx_tuple I.kIn ⟨o, h1, h2⟩ e (fun z => nomatch z) h
  | @dK a kvs ea =>
    cases (show u = Value.ref a from rx)
    obtain ⟨_, _, vs, _, p⟩ := (show ObjOk X.prog X.w H s.heap a (.dK kvs) from I.hok a _ ea)
    obtain ⟨o, es, ep, h1, h2, _⟩ := p
    exact PySem.W.kia_one PySem.W.kitx_dict I.kIn ⟨o, h1, h2.1⟩ e (fun z => nomatch z) h
  | @dT a kvs ea =>
    cases (show u = Value.ref a from rx)
    obtain ⟨_, _, xs, _, o, es, ep, h1, h2, _⟩ := (show ObjOk X.prog X.w H s.heap a (.dT kvs) from I.hok a _ ea)
    exact PySem.W.kia_one PySem.W.kitx_dict I.kIn ⟨o, h1, h2.1⟩ e (fun z => nomatch z) h
  | @ins a C dx fs ea cl ha hn htk hm =>
    cases (show u = Value.ref a from rx)
    obtain ⟨mA, O, _⟩ := ins_get I.hok ea
    obtain ⟨od, J, _⟩ := O.look
    exact PySem.W.kia_one (PySem.W.kitx_own (cl.get _) cl.hd ha hn htk hm) I.kIn J e (fun z => nomatch z) h
end
end L2

namespace L2
open PySem PySem.Spec PyProof.Rows

structure Room (k : Nat) (A : Around) : Prop where
  hd : A.handled = none
  dp : A.depth + 3 * k + 5 < recursionLimit
  un : A.units + 16 * k + 200 < cLine
theorem Room.mono {j k : Nat} {A : Around} (r : Room k A) (h : j ≤ k) : Room j A := ⟨r.hd, by have := r.dp; omega, by have := r.un; omega⟩
theorem Room.deeper {k : Nat} {A : Around} (r : Room (k + 1) A) (env : Env) : Room k (A.deeper env) :=
  ⟨r.hd, by have := r.dp; show A.depth + 1 + 3 * k + 5 < _; omega, by have := r.un; show A.units + 3 + 16 * k + 200 < _; omega⟩
theorem Room.in1 {k : Nat} {A : Around} (r : Room (k + 1) A) : Room k A.in1 :=
  ⟨r.hd, by have := r.dp; show A.depth + 3 * k + 5 < _; omega, by have := r.un; show A.units + 1 + 16 * k + 200 < _; omega⟩
theorem Room.depth {k : Nat} {A : Around} (r : Room k A) : A.depth < recursionLimit := by have := r.dp; omega
theorem Room.units {k : Nat} {A : Around} (r : Room k A) : A.units + 64 < cLine := by have := r.un; omega
def tNil : TA := fun _ H Q => Q [] H
def tCons (ta : TE) (tr : TA) : TA := fun σ H Q => ta σ H fun x H1 => tr σ H1 fun xs H2 => Q (x :: xs) H2
section
variable {X : Cx} {e : Expr} {es : List Expr} {te : TE} {t : TA} {pos : Pos}
theorem pa_nil : PA X [] tNil := fun _ _ _ _ H Q I h => Calls.spliced_nil ⟨[], H, I, .nil, h⟩
theorem pa_cons (ha : PE X e te) (hr : PA X es t) (hs : starEach (e :: es) X.env = (false, eval e X.env) :: starEach es X.env := by rfl) : PA X (e :: es) (tCons te t) := by
  intro pos pins s σ H Q I h
  rw [hs]
  show wpAny _ _ (spliced ((false, eval e X.env) :: backTo pos (starEach es X.env))) _ _ s
  refine Calls.spliced_cons (thn (ha pins s σ H _ I h) fun u s1 ⟨x, H1, I1, r1, q1⟩ => ?_)
  exact thn (hr pos pins s1 σ H1 _ I1 q1) fun us s2 ⟨xs, H2, I2, r2, q2⟩ => ⟨x :: xs, H2, I2, .cons r1 r2, q2⟩

def tTup (t : TA) : TE := fun σ H Q => t σ H fun xs H1 => xs.length ≤ sizeLine ∧ ∀ p, H1 p = none → Q (.ref p) (upd H1 p (.tup xs))
def tLst (t : TA) : TE := fun σ H Q => t σ H fun xs H1 => xs.length ≤ sizeLine ∧ ∀ p, H1 p = none → Q (.ref p) (upd H1 p (.lst xs))
theorem pe_tup {x1} (h : PA X es t) : PE X (.Tuple es x1 pos) (tTup t) := by
  intro pins s σ H Q I hq
  refine wpAny_Tuple_spliced (thn (h pos pins s σ H _ I hq) fun us s1 ⟨xs, H1, I1, r, z, q⟩ => ⟨by rw [← r.length]; exact z, ?_⟩)
  have hf : H1 s1.heap.objs.size = none := I1.hok.fresh (Nat.le_refl _)
  refine ⟨.ref s1.heap.objs.size, upd H1 s1.heap.objs.size (.tup xs), I1.laid (t' := s1.toks) (fun b u e => Heap.get?_push_of_some _ e) (Nat.le_refl _) ?_, rfl, q _ hf⟩
  exact ⟨z, us, r, ⟨_, Heap.get?_push_size _ rfl, rfl, _, rfl⟩⟩
theorem pe_lst (h : PA X es t) : PE X (.List es pos) (tLst t) := by
  intro pins s σ H Q I hq
  refine wpAny_List_spliced (thn (h pos pins s σ H _ I hq) fun us s1 ⟨xs, H1, I1, r, z, q⟩ => ⟨by rw [← r.length]; exact z, ?_⟩)
  have hf : H1 s1.heap.objs.size = none := I1.hok.fresh (Nat.le_refl _)
  refine ⟨.ref s1.heap.objs.size, upd H1 s1.heap.objs.size (.lst xs), I1.laid (t' := s1.toks) (fun b u e => Heap.get?_push_of_some _ e) (Nat.le_refl _) ?_, rfl, q _ hf⟩
  exact ⟨z, us, 0, r, Heap.get?_push_size _ rfl⟩
end

abbrev Sp := List V → Hp → VK → XK → Prop
abbrev CXT := List Env → Hp → Shared → XK → Value → Shared → Prop

structure Env0 (P : Program) (w : World) (K : PySem.W.Frag) (mg : Str → Option Value) (base : Heap) (A : Around) (outer : List Env) (s : Shared) (H : Hp) : Prop where
  frames : A.frames = some outer
  mod : Mod K mg base
  bs : ∀ b o, base.get? b = some o → s.heap.get? b = some o ∧ H b = none
  bsz : base.objs.size ≤ s.heap.objs.size
  funs : s.heap.FunFrames base outer
  frf : ∀ b ∈ frs outer, H b = none
  hok : HOk P w H s.heap
  bare : AllBare s.gens
def CE (outer : List Env) (P : Program) (w : World) (H : Hp) (s : Shared) (Q : VK) (u : Value) (s' : Shared) : Prop :=
  ∃ v H', s'.os = s.os ∧ AllBare s'.gens ∧ Un (frs outer) [] H H' s.heap s'.heap ∧ HOk P w H' s'.heap ∧ RelV v u ∧ Q v H'
def CR (CX : CXT) (outer : List Env) (P : Program) (w : World) (H : Hp) (s : Shared) (Q : VK) (E : XK) (r : Result) (s' : Shared) : Prop :=
  match r with
  | .ok (.ret u) => CE outer P w H s Q u s'
  | .ok _ => False
  | .error e => CX outer H s E e s'
structure FnOk (P : Program) (w : World) (K : PySem.W.Frag) (mg : Str → Option Value) (base : Heap) (CX : CXT) (k : Nat) (f : Addr) (fd : FuncData) (ps : List Str) (sp : Sp) : Prop where
  len : ∀ vs H Q E, sp vs H Q E → vs.length = ps.length
  run : ∀ (A : Around) (outer : List Env) (s : Shared) (H : Hp) (args : Args) (us : List Value) (vs : List V) (Q : VK) (E : XK), Room k A → Env0 P w K mg base A outer s H → BindsTo s fd args (ps.zip us) → Vals vs us → sp vs H Q E →
    codeAny (model P w) A (.call (.ref f) args) (CR CX outer P w H s Q E) s
theorem FnOk.mono {P : Program} {w : World} {K : PySem.W.Frag} {mg : Str → Option Value} {base : Heap} {CX : CXT} {j k : Nat} {f : Addr} {fd : FuncData} {ps : List Str} {sp : Sp} (F : FnOk P w K mg base CX j f fd ps sp) (h : j ≤ k) :
    FnOk P w K mg base CX k f fd ps sp := ⟨F.len, fun A outer s H args us vs Q E hr => F.run A outer s H args us vs Q E (hr.mono h)⟩
theorem Env0.in1 {P : Program} {w : World} {K : PySem.W.Frag} {mg : Str → Option Value} {base : Heap} {A : Around} {outer : List Env} {s : Shared} {H : Hp} (e : Env0 P w K mg base A outer s H) :
    Env0 P w K mg base A.in1 outer s H := ⟨e.frames, e.mod, e.bs, e.bsz, e.funs, e.frf, e.hok, e.bare⟩

section
variable {X : Cx} {pins : List (Addr × Obj)} {σ : St} {H : Hp} {s s' : Shared}
theorem Inv.env0 (I : Inv X pins σ H s) : Env0 X.prog X.w X.K X.mg X.base X.A X.stack s H :=
  ⟨I.ok.frames, I.ok.mod, I.bs, Nat.le_trans I.ok.bsz I.sz, I.stack, I.stkFree, I.hok, I.bare⟩
theorem Inv.after {Q : VK} {u : Value} (I : Inv X pins σ H s) (h : CE X.stack X.prog X.w H s Q u s') : EP X pins σ Q u s' := by
  obtain ⟨v, H', os, bare, un, hok, r, q⟩ := h
  obtain ⟨hh, g, d, t, os'⟩ := s'
  obtain rfl : os' = s.os := os
  exact ⟨v, H', I.call (h' := hh) (g' := g) (d' := d) (t' := t) (ch := []) un hok bare (fun b z => absurd z (by simp)), r, q⟩
end

def tCall (sp : Sp) (dvs : List V) (E : XK) (t : TA) : TE := fun σ H Q => t σ H fun vs H1 => sp (vs ++ dvs) H1 Q E
def tMeth (C : Addr) (m : Str) (sp : Sp) (dvs : List V) (E : XK) (ta : TE) (t : TA) : TE := fun σ H Q => ta σ H fun x H1 => ∃ a dx fs, x = .ref a ∧ H1 a = some (.ins C dx fs) ∧ fs.lookup m = none ∧
  t σ H1 fun vs H2 => sp (x :: (vs ++ dvs)) H2 Q E
def tMake (C : Addr) (sp : Sp) (dvs : List V) (E : XK) (t : TA) : TE := fun σ H Q => t σ H fun vs H1 => ∀ x dx, H1 x = none → H1 dx = none → dx ≠ x →
  sp (.ref x :: (vs ++ dvs)) (upd (upd H1 dx (.own x)) x (.ins C dx [])) (fun v H2 => v = .non ∧ Q (.ref x) H2) E

def Binds (K : PySem.W.Frag) (fd : FuncData) (ps : List Str) (ds : List Value) : Prop :=
  ∀ (s : Shared) (us : List Value), K.In s.heap → (us ++ ds).length = ps.length → BindsTo s fd ⟨us, []⟩ (ps.zip (us ++ ds))
theorem Binds.all {K : PySem.W.Frag} {fd : FuncData} {ps : List Str} (h : ∀ us : List Value, us.length = ps.length → bindArgs fd ⟨us, []⟩ = pure (ps.zip us)) : Binds K fd ps [] := fun s us _ hl => by
  rw [List.append_nil] at hl ⊢
  exact .of_eq (h us hl)

def Passes (CX : CXT) (X : Cx) (E : XK) : Prop := ∀ (pins : List (Addr × Obj)) (σ : St) (H : Hp) (s : Shared) (e : Value) (s' : Shared), Inv X pins σ H s → CX X.stack H s E e s' → X.xe e s'

section
variable {X : Cx} {CX : CXT} {k : Nat} {f C : Addr} {fd : FuncData} {ps : List Str} {sp : Sp} {dvs : List V} {ds : List Value} {E : XK} {x m : Str} {p pos apos : Pos} {e o : Expr} {es : List Expr} {ta : TE} {t : TA}

theorem run_fn {pins : List (Addr × Obj)} {σ : St} {H : Hp} {s : Shared} {Q : VK} {us : List Value} {vs : List V} (F : FnOk X.prog X.w X.K X.mg X.base CX k f fd ps sp) (hr : Room k X.A) (hb : Binds X.K fd ps ds) (hd : Vals dvs ds) (hx : Passes CX X E)
    (I : Inv X pins σ H s) (r : Vals vs us) (h : sp (vs ++ dvs) H Q E) : wpAny (model X.prog X.w) X.A (call (.ref f) us) (EP X pins σ Q) X.xe s := by
  have r2 : Vals (vs ++ dvs) (us ++ ds) := r.append hd
  have hl : (us ++ ds).length = ps.length := by rw [← r2.length]; exact F.len _ _ _ _ h
  refine wpAny_call (codeAny_mono (F.run X.A X.stack s H ⟨us, []⟩ (us ++ ds) (vs ++ dvs) Q E hr I.env0 (hb s us I.kIn hl) r2 h) fun r s' hq => ?_)
  cases r with
  | error e => exact hx pins σ H s e s' I hq
  | ok fl =>
    cases fl with
    | ret u => exact I.after hq
    | next => exact False.elim hq
    | brk => exact False.elim hq
    | cont => exact False.elim hq

theorem pe_call (F : FnOk X.prog X.w X.K X.mg X.base CX k f fd ps sp) (hr : Room k X.A) (hg : Gl X x) (hm : X.mg x = some (.ref f)) (hk : PySem.W.keepIn X.K (.ref f) = true) (hb : Binds X.K fd ps ds) (hd : Vals dvs ds) (hx : Passes CX X E)
    (ha : PA X (e :: es) t) (hdb : (x == ("__debug__" : Str)) = false := by decide) (he : starEach (e :: es) X.env = (false, eval e X.env) :: starEach es X.env := by rfl) (hpl : (backTo pos (starEach es X.env)).any (·.1) = false := by rfl) :
    PE X (.Call (.Name x p) (e :: es) [] pos) (tCall sp dvs E t) := by
  intro pins s σ H Q I h
  refine wpAny_Call_Name_kw (ld_glob I hg hm ?_ hdb)
  refine PySem.W.callWith_K (h₀ := X.base) I.ok.mod.kin hk (thn (ha pos pins s σ H _ I h) fun us s1 ⟨vs, H1, I1, r, q⟩ => ⟨I1.kIn, ?_⟩) he hpl
  exact run_fn F hr hb hd hx I1 r q
structure Mk (K : PySem.W.Frag) (C f : Addr) : Prop where
  makes : PySem.W.makesIn K C = true
  init : PySem.W.findIn K (.ref C) "__init__" = some (some (.ref f))
  fn : PySem.W.isFn K (.ref f) = true
  kp : PySem.W.keepIn K (.ref C) = true

end

def PK (X : Cx) (kws : List Keyword) (t : TA) : Prop :=
  ∀ (pos : Pos) (pins : List (Addr × Obj)) (s : Shared) (σ : St) (H : Hp) (Q : List V → Hp → Prop), Inv X pins σ H s → t σ H Q → wpAny (model X.prog X.w) X.A (evalAll ((backToKw pos (keywordEach kws X.env)).map (·.2))) (AP X pins σ Q) X.xe s
section
variable {X : Cx} {CX : CXT} {k : Nat} {f C : Addr} {fd : FuncData} {ps ks : List Str} {sp : Sp} {E : XK} {x m : Str} {p pos apos kpos : Pos} {e o : Expr} {es : List Expr} {kws : List Keyword} {te ta : TE} {t tk : TA} {nm : Option Str}
theorem pk_nil : PK X [] tNil := fun _ _ _ _ H Q I h => wpAny_evalAll_nil ⟨[], H, I, .nil, h⟩
theorem pk_cons (ha : PE X e te) (hr : PK X kws t) : PK X (⟨nm, e, kpos⟩ :: kws) (tCons te t) := by
  intro pos pins s σ H Q I h
  show wpAny _ _ (evalAll ((do let v ← eval e X.env; standAt pos; pure v) :: (backToKw pos (keywordEach kws X.env)).map (·.2))) _ _ s
  refine wpAny_evalAll_cons (wpAny_bind (thn (ha pins s σ H _ I h) fun u s1 ⟨x, H1, I1, r1, q1⟩ => wpAny_bind (wpAny_standAt (wpAny_pure ?_))))
  exact thn (hr pos pins s1 σ H1 _ I1 q1) fun us s2 ⟨xs, H2, I2, r2, q2⟩ => ⟨x :: xs, H2, I2, .cons r1 r2, q2⟩

structure KBinds (K : PySem.W.Frag) (fd : FuncData) (ps ks : List Str) (g : List Value → List Value → List Value) (gV : List V → List V → List V) : Prop where
  to : ∀ (s : Shared) (us ws : List Value), K.In s.heap → (g us ws).length = ps.length → BindsTo s fd ⟨us, ks.zip ws⟩ (ps.zip (g us ws))
  rel : ∀ {vs : List V} {us : List Value} {zs : List V} {ws : List Value}, Vals vs us → Vals zs ws → Vals (gV vs zs) (g us ws)
def tCallK (sp : Sp) (gV : List V → List V → List V) (E : XK) (t tk : TA) : TE := fun σ H Q => t σ H fun vs H1 => tk σ H1 fun zs H2 => sp (gV vs zs) H2 Q E
variable {g : List Value → List Value → List Value} {gV : List V → List V → List V}
end

structure FnScope (N P : List Str) (sc : Scope) : Prop where
  kind : sc.kind = .function
  co : sc.isCoroutine = false
  gen : sc.isGenerator = false
  nd : N.Nodup
  pre : N.take P.length = P
  par : ∀ x ∈ P, sc.names.lookup x = some .local ∨ sc.names.lookup x = some .cell
  nofree : ∀ y ∈ sc.names, y.2 ≠ .free

theorem bindL_out {kindOf : Str → Option NameKind} {x : Str} : ∀ {binds : List (Str × Value)} {m : Str → Option Value}, (∀ v, (x, v) ∉ binds) → bindL kindOf binds m x = m x
  | [], _, _ => rfl
  | (n, v) :: r, m, h => by
    unfold bindL
    rw [bindL_out fun w hw => h w (List.mem_cons_of_mem _ hw)]
    split
    · have : x ≠ n := by rintro rfl; exact h v List.mem_cons_self
      simp [this]
    · rfl
theorem bindC_out {kindOf : Str → Option NameKind} {x : Str} : ∀ {binds : List (Str × Value)} {m : Str → Option Value}, (∀ v, (x, v) ∉ binds) → bindC kindOf binds m x = m x
  | [], _, _ => rfl
  | (n, v) :: r, m, h => by
    unfold bindC
    rw [bindC_out fun w hw => h w (List.mem_cons_of_mem _ hw)]
    split
    · rfl
    · have : x ≠ n := by rintro rfl; exact h v List.mem_cons_self
      simp [this]
theorem bindL_get {kindOf : Str → Option NameKind} {x : Str} {v : Value} : ∀ {P : List Str} {vs : List Value} {i : Nat} {m : Str → Option Value}, P.Nodup → P[i]? = some x → vs[i]? = some v → kindOf x = some .local →
    bindL kindOf (P.zip vs) m x = some v
  | [], _, _, _, _, h, _, _ => by simp at h
  | _ :: _, [], _, _, _, _, h, _ => by simp at h
  | p :: P, w :: vs, 0, m, nd, h1, h2, hk => by
    simp at h1 h2; subst h1; subst h2
    show bindL kindOf ((p, w) :: P.zip vs) m p = _
    unfold bindL
    rw [bindL_out fun v hv => (List.nodup_cons.mp nd).1 (List.of_mem_zip hv).1, if_pos hk]
    simp
  | p :: P, w :: vs, i + 1, m, nd, h1, h2, hk => by
    show bindL kindOf ((p, w) :: P.zip vs) m x = _
    unfold bindL
    exact bindL_get (i := i) (List.nodup_cons.mp nd).2 (by simpa using h1) (by simpa using h2) hk
theorem bindC_get {kindOf : Str → Option NameKind} {x : Str} {v : Value} : ∀ {P : List Str} {vs : List Value} {i : Nat} {m : Str → Option Value}, P.Nodup → P[i]? = some x → vs[i]? = some v → kindOf x ≠ some .local →
    bindC kindOf (P.zip vs) m x = some v
  | [], _, _, _, _, h, _, _ => by simp at h
  | _ :: _, [], _, _, _, _, h, _ => by simp at h
  | p :: P, w :: vs, 0, m, nd, h1, h2, hk => by
    simp at h1 h2; subst h1; subst h2
    show bindC kindOf ((p, w) :: P.zip vs) m p = _
    unfold bindC
    rw [bindC_out fun v hv => (List.nodup_cons.mp nd).1 (List.of_mem_zip hv).1, if_neg hk]
    simp
  | p :: P, w :: vs, i + 1, m, nd, h1, h2, hk => by
    show bindC kindOf ((p, w) :: P.zip vs) m x = _
    unfold bindC
    exact bindC_get (i := i) (List.nodup_cons.mp nd).2 (by simpa using h1) (by simpa using h2) hk

def start (N : List Str) (vs : List V) : St := vs.map some ++ List.replicate (N.length - vs.length) none

def cxOf (CX : CXT) (P : Program) (w : World) (K : PySem.W.Frag) (mg : Str → Option Value) (base : Heap) (N : List Str) (qual : Str) (scope : Scope) (f : Addr) (cd : Value) (A : Around) (outer : List Env) (s : Shared) (H : Hp) (E : XK) : Cx where
  prog := P
  w := w
  K := K
  mg := mg
  base := base
  A := A.deeper (envOfC qual scope s.heap.objs.size f cd)
  N := N
  s₀ := s
  H₀ := H
  env := envOfC qual scope s.heap.objs.size f cd
  outer := outer
  stack := envOfC qual scope s.heap.objs.size f cd :: outer
  ex := []
  calm := true
  fn := fun _ => true
  pn := []
  xe := fun e s' => wpAny (model P w) (A.deeper (envOfC qual scope s.heap.objs.size f cd)) («leaving» (envOfC qual scope s.heap.objs.size f cd) e) (fun _ s'' => CX outer H s E e s'') (fun e' s'' => CX outer H s E e' s'') s'

theorem cell_has {sc : Scope} {n : Nat} {x : Str} (h : sc.names.lookup x = some .cell) : ∃ c, (cellsFrom n sc.names []).lookup x = some c := by
  have q := PySem.W.cellsFrom_some sc.names n [] (.inl h)
  exact Option.isSome_iff_exists.mp q

theorem inv_start {CX : CXT} {P : Program} {w : World} {K : PySem.W.Frag} {mg : Str → Option Value} {base : Heap} {N ps : List Str} {qual : Str} {scope : Scope} {f : Addr} {cd : Value} {A : Around} {outer : List Env} {s s1 : Shared} {H : Hp} {E : XK} {us : List Value} {vs : List V}
    (S : FnScope N ps scope) (hd : A.handled = none) (e0 : Env0 P w K mg base A outer s H) (hl : vs.length = ps.length) (r : Vals vs us)
    (x : InCallC s s.heap.objs.size (bindL (envOfC qual scope s.heap.objs.size f cd).kindOf (ps.zip us) fun _ => none) (cellsFrom (s.heap.objs.size + 1) scope.names []) (bindC (envOfC qual scope s.heap.objs.size f cd).kindOf (ps.zip us) fun _ => none) s1) :
    Inv (cxOf CX P w K mg base N qual scope f cd A outer s H E) [] (start N vs) H s1 := by
  have hpl : ps.length ≤ N.length := by have := congrArg List.length S.pre; rw [List.length_take] at this; omega
  obtain ⟨h1, tk, rfl, hk⟩ := x.done
  have noA : ∀ b : Addr, b ∉ (cxOf CX P w K mg base N qual scope f cd A outer s H E).ex := fun b z => absurd (show b ∈ ([] : List Addr) from z) (by simp)
  refine ⟨⟨e0.mod, S.kind, rfl, rfl, Nat.le_refl _, fun y z c h1 h2 => ?_, fun y hy => ?_, fun y c _ h => ?_, fun _ => hd, Around.frames_deeper e0.frames, .inr ⟨rfl, rfl⟩, fun b z => absurd z (noA b), e0.bs, e0.bsz, fun b _ _ => noA b, fun b z => absurd z (noA b), e0.funs, e0.frf⟩,
    rfl, e0.bare, Un.kept hk, ⟨_, x.toInCall.ns, fun i y v h1 h2 h3 => ?_⟩, fun y c h => ⟨_, x.cell y c h⟩, e0.hok.fresh (Nat.le_refl _), fun y c h => ?_, fun p hp => absurd (show p ∈ ([] : List (Addr × Obj)) from hp) (by simp), e0.hok.kept hk, ?_⟩
  · exact name_of_addr x.apart (PySem.mem_of_lookup h1) (PySem.mem_of_lookup h2)
  · have hy : scope.names.lookup y = some .cell ∨ scope.names.lookup y = some .free := hy
    rcases hy with hy | hy
    · exact cell_has hy
    · exact absurd rfl (S.nofree _ (PySem.mem_of_lookup hy))
  · exact Nat.le_of_lt (x.above y c (PySem.mem_of_lookup h))
  · have hi : i < vs.length := by
      unfold start at h2
      by_cases hi : i < vs.length
      · exact hi
      · rw [List.getElem?_append_right (by simpa using hi)] at h2
        rw [List.getElem?_replicate] at h2
        split at h2 <;> cases h2
    have ha : vs[i]? = some v := by
      unfold start at h2
      rw [List.getElem?_append_left (by simpa using hi), List.getElem?_map] at h2
      cases e : vs[i]? with
      | none => rw [e] at h2; cases h2
      | some a => rw [e] at h2; cases h2; rfl
    obtain ⟨u, hu, rv⟩ := r.get ha
    have hp : ps[i]? = some y := by
      rw [← S.pre, List.getElem?_take_of_lt (by omega)]; exact h1
    have ndP : ps.Nodup := by rw [← S.pre]; exact S.nd.sublist (List.take_sublist _ _)
    refine ⟨u, rv, ?_⟩
    rcases S.par y (List.mem_of_getElem? hp) with k | k
    · exact .inl ⟨k, bindL_get ndP hp hu k⟩
    · obtain ⟨c, e⟩ := cell_has (n := s.heap.objs.size + 1) k
      refine .inr ⟨.inl k, c, e, ?_⟩
      have q := x.cell y c e
      rw [bindC_get ndP hp hu (by show scope.names.lookup y ≠ _; rw [k]; decide)] at q
      exact q
  · exact e0.hok.fresh (Nat.le_of_lt (x.above y c (PySem.mem_of_lookup h)))
  · unfold start
    show _ = N.length
    rw [List.length_append, List.length_map, List.length_replicate]
    omega

theorem fn_of {CX : CXT} {P : Program} {w : World} {K : PySem.W.Frag} {mg : Str → Option Value} {base : Heap} {k : Nat} {f : Addr} {name qual : Str} {params : Arguments} {body : List Stmt} {scope : Scope} {dV kV doc pm cdv ct oc : Value} {an od : Option Addr}
    {osl : Array (Option Value)} {N ps : List Str} {sp : Sp} (lk : K.lookup f = some ⟨oc, od, .func (PySem.W.fnOf name qual params body scope dV kV doc pm an cdv ct), osl⟩) (hcd : PySem.W.codeIn K cdv qual = true) (S : FnScope N ps scope)
    (len : ∀ vs H Q E, sp vs H Q E → vs.length = ps.length)
    (hbody : ∀ (A : Around) (outer : List Env) (s : Shared) (H : Hp) (vs : List V) (Q : VK) (E : XK), Room k (A.deeper (envOfC qual scope s.heap.objs.size f cdv)) → sp vs H Q E →
      ∃ t, PSs (cxOf CX P w K mg base N qual scope f cdv A outer s H E) body t ∧ t { nx := fun _ H' => Q .non H', rt := Q } (start N vs) H) :
    FnOk P w K mg base CX (k + 1) f (PySem.W.fnOf name qual params body scope dV kV doc pm an cdv ct) ps sp := by
  refine ⟨len, fun A outer s H args us vs Q E hr e0 hb r hsp => ?_⟩
  have hl := len _ _ _ _ hsp
  have KX : K.In s.heap := e0.mod.kin.keeps fun b o e => (e0.bs b o e).1
  have lim : s.heap.NoLimit := e0.mod.nolimit.keeps fun b o e => (e0.bs b o e).1
  have hkind : ∀ y ∈ ps.zip us, scope.names.lookup y.1 = some .local ∨ (scope.names.lookup y.1 = some .cell ∧ ((cellsFrom (s.heap.objs.size + 1) scope.names []).lookup y.1).isSome = true) := fun ⟨n, v⟩ hy => by
    rcases S.par n (List.of_mem_zip hy).1 with q | q
    · exact .inl q
    · exact .inr ⟨q, PySem.W.cellsFrom_some _ _ _ (.inl q)⟩
  refine codeAny_call_function hr.depth (KX _ _ lk) rfl S.co S.gen rfl (PySem.W.codeRec_of KX hcd) (hb _ _ _ _ ?_)
  refine wpAny_newFunctionEnv_cells S.kind hkind fun env he s1 x => ?_
  subst he
  refine ⟨lim.keeps x.toInCall.keep, codeAny_func ?_⟩
  obtain ⟨t, ht, hq⟩ := hbody A outer s H vs Q E (hr.deeper _) hsp
  have I : Inv (cxOf CX P w K mg base N qual scope f cdv A outer s H E) [] (start N vs) H s1 := inv_start S hr.hd e0 hl r x
  refine wpAny_mono (ht [] s1 (start N vs) H _ I hq) (fun fl s' hs => ?_) fun e s' hs => hs
  have fin : ∀ {σ' : St} {H' : Hp} {v : V} {u : Value}, Inv (cxOf CX P w K mg base N qual scope f cdv A outer s H E) [] σ' H' s' → RelV v u → Q v H' → CE outer P w H s Q u s' :=
    fun {σ' H' v u} J rv q => ⟨v, H', J.os, J.bare, J.base, J.hok, rv, q⟩
  cases fl with
  | ret u =>
    obtain ⟨v, σ', H', J, rv, q⟩ := hs
    exact fin J rv q
  | next =>
    obtain ⟨σ', H', J, q⟩ := hs
    exact fin (v := V.non) (u := Value.none) J rfl q
  | brk =>
    obtain ⟨_, _, _, q⟩ := hs
    exact False.elim q
  | cont =>
    obtain ⟨_, _, _, q⟩ := hs
    exact False.elim q
end L2

namespace L2
open PySem PySem.Spec PyProof.Rows
section
variable {X : Cx} {x : Str} {p pos : Pos} {e : Expr} {es : List Expr} {t : TA} {id T : String} {r : List V → Hp → VK → Prop}

def tCB (r : List V → Hp → VK → Prop) (t : TA) : TE := fun σ H Q => t σ H fun vs H1 => r vs H1 Q
theorem pe_callB (hc : CallR X (.builtin id) r) (hg : Gl X x) (hm : X.mg x = none) (hv : bootBuiltins x = some (.builtin id)) (ha : PA X (e :: es) t) (hn : x ≠ "__name__" := by decide) (hdb : (x == ("__debug__" : Str)) = false := by decide)
    (he : starEach (e :: es) X.env = (false, eval e X.env) :: starEach es X.env := by rfl) (hpl : (backTo pos (starEach es X.env)).any (·.1) = false := by rfl) : PE X (.Call (.Name x p) (e :: es) [] pos) (tCB r t) := by
  intro pins s σ H Q I h
  refine wpAny_Call_Name_kw (ld_blt I hg hm hv ?_ hn hdb)
  exact PyProof.Rows.callWith_builtin1 (thn (ha pos pins s σ H _ I h) fun us s1 ⟨vs, H1, I1, r1, q1⟩ => hc pins s1 σ H1 vs us Q I1 r1 q1) he hpl
theorem pe_callTy (hc : CallR X (.type T) r) (hg : Gl X x) (hm : X.mg x = none) (hv : bootBuiltins x = some (.type T)) (ha : PA X (e :: es) t) (hn : x ≠ "__name__" := by decide) (hdb : (x == ("__debug__" : Str)) = false := by decide)
    (he : starEach (e :: es) X.env = (false, eval e X.env) :: starEach es X.env := by rfl) (hpl : (backTo pos (starEach es X.env)).any (·.1) = false := by rfl) : PE X (.Call (.Name x p) (e :: es) [] pos) (tCB r t) := by
  intro pins s σ H Q I h
  refine wpAny_Call_Name_kw (ld_blt I hg hm hv ?_ hn hdb)
  exact PyProof.Rows.callWith_type1 (thn (ha pos pins s σ H _ I h) fun us s1 ⟨vs, H1, I1, r1, q1⟩ => hc pins s1 σ H1 vs us Q I1 r1 q1) he hpl
end
end L2

namespace HT
open PySem PyProof.Rows

def lexLt : List Int → List Int → Bool
  | [], [] => false
  | [], _ :: _ => true
  | _ :: _, [] => false
  | x :: xs, y :: ys => if x = y then lexLt xs ys else decide (x < y)
theorem lexLt_cons (x y : Int) (xs ys : List Int) : lexLt (x :: xs) (y :: ys) = if x = y then lexLt xs ys else decide (x < y) := rfl
theorem lexLt_nil_nil : lexLt [] [] = false := rfl
theorem eqAt_int (A : Around) (s : Shared) (a : Int) (t : Tok) (c : Int) (u : Tok) : ∃ e, SeqAt.EqAt A s (.int a t) (.int c u) e ∧ (e = true ↔ a = c) :=
  ⟨(a == c), SeqAt.EqAt.int_int a t c u, by simp⟩
theorem rcLt_int (A : Around) (s : Shared) (a : Int) (t : Tok) (c : Int) (u : Tok) (prog : Program) (w : World) (E : Value → Shared → Prop) (Q : Value → Shared → Prop) (h : Q (.bool (decide (a < c))) s) :
    wpAny (model prog w) A (richCompare .Lt (.int a t) (.int c u)) Q E s :=
  (PyProof.Rows.lt_int h : wpAny (model prog w) A (compareOp .Lt (.int a t) (.int c u)) Q E s)

section
open PySem.SeqAt
open PySem.AutoSeq1 (wpAny_loadPart')
open PySem.MeetsSeq PySem.MeetsSeq2 PySem.MeetsSeq3

end

section
variable {prog : Program} {w : World} {A : Around} {E : Value → Shared → Prop} {s : Shared}

theorem cat_tup {t b : Addr} {vs ws : List Value} {Q : Value → Shared → Prop} (ht : IsTup s.heap t vs.toArray) (hb : IsTup s.heap b ws.toArray) (hv : vs ≠ [])
    (h1 : ws = [] → Q (.ref t) s) (h2 : ws ≠ [] → Q (.ref s.heap.objs.size) { s with heap := s.heap.push { cls := .type "tuple", data := .seq (vs ++ ws).toArray } })
    (hsz : vs.length + ws.length ≤ sizeLine) : wpAny (model prog w) A (binaryOp .Add (.ref t) (.ref b)) Q E s := by
  obtain ⟨⟨cls, dd, data, sl⟩, ho, hc, n, hd⟩ := id ht
  obtain ⟨⟨cls2, dd2, data2, sl2⟩, ho2, hc2, n2, hd2⟩ := id hb
  simp only at hc hd hc2 hd2
  subst hc hd hc2 hd2
  have e : vs.toArray ++ ws.toArray = (vs ++ ws).toArray := by simp
  by_cases hw : ws = []
  · exact concat_meets ⟨_, ho, rfl⟩ ⟨_, ho2, rfl⟩ noFill_tuple_add seq_tuple_add PySem.F.slot_tuple_add PySem.F.entry_tuple_add (PySem.F.args_tuple_add_2 _ _)
      (tuple_addW1 t b vs.toArray ws.toArray n n2 dd dd2 sl sl2 (by simpa using hv) (by simp [hw])) ⟨ho, ho2, h1 hw⟩
  · refine concat_meets ⟨_, ho, rfl⟩ ⟨_, ho2, rfl⟩ noFill_tuple_add seq_tuple_add PySem.F.slot_tuple_add PySem.F.entry_tuple_add (PySem.F.args_tuple_add_2 _ _)
      (tuple_addW2 t b vs.toArray ws.toArray n n2 dd dd2 sl sl2 (by simpa using hv) (by simpa using hw) (by rw [List.size_toArray, List.size_toArray]; exact hsz)) ⟨ho, ho2, ?_⟩
    rw [e]
    exact h2 hw

def sIx (n d : Nat) : Option Int → Nat
  | none => d
  | some v => if v < 0 then (v + (n : Int)).toNat else min v.toNat n
theorem sIx_none (n d : Nat) : sIx n d none = d := rfl
theorem sIx_nat (n d k : Nat) : sIx n d (some (k : Int)) = min k n := by
  show (if (k : Int) < 0 then ((k : Int) + (n : Int)).toNat else min (k : Int).toNat n) = min k n
  rw [if_neg (by omega), Int.toNat_natCast]
theorem sIx_le (n d : Nat) (hd : d ≤ n) (o : Option Int) : sIx n d o ≤ n := by
  cases o with
  | none => exact hd
  | some v =>
    show (if v < 0 then (v + (n : Int)).toNat else min v.toNat n) ≤ n
    by_cases hv : v < 0
    · rw [if_pos hv]; omega
    · rw [if_neg hv]; exact Nat.min_le_right _ _
theorem clip_eq (v : Int) (n d : Nat) : (if v < 0 then max (v + (n : Int)) 0 else min v (n : Int)) = ((sIx n d (some v) : Nat) : Int) := by
  show (if v < 0 then max (v + (n : Int)) 0 else min v (n : Int)) = (((if v < 0 then (v + (n : Int)).toNat else min v.toNat n) : Nat) : Int)
  by_cases hv : v < 0
  · simp only [if_pos hv]; omega
  · simp only [if_neg hv]; omega
theorem adjust_gen (lo hi : Option Int) (n : Nat) : Builtin.Slice.sliceAdjust lo hi 1 (n : Int) = (((sIx n 0 lo : Nat) : Int), ((sIx n n hi : Nat) : Int)) := by
  have h1 : ¬ ((1 : Int) < 0) := by omega
  unfold Builtin.Slice.sliceAdjust
  simp only [h1, if_false]
  refine Prod.ext ?_ ?_
  · cases lo with
    | none => rfl
    | some v => exact clip_eq v n 0
  · cases hi with
    | none => rfl
    | some v => exact clip_eq v n n
theorem places_gen (i j : Nat) : Builtin.Slice.slicePlaces (i : Int) (j : Int) 1 = j - i := by
  unfold Builtin.Slice.slicePlaces
  have h1 : (1 : Int) > 0 := by omega
  simp only [h1, if_true, Int.ediv_one]
  split <;> omega
theorem slicePart_ {v : Value} {o : Option Int} {Q : Option Int → Shared → Prop} (p : IsPart v o) (h : Q o s) : wpAny (model prog w) A (Builtin.Slice.slicePartIndex v) Q E s := by
  cases p with
  | none => exact slicePart_none h
  | int i t => exact slicePart_int h
theorem sliceApplied_gen {sl : Addr} {vl vu : Value} {lo hi : Option Int} {n : Nat} {Q : Int × Int × Nat → Shared → Prop} (hs : s.heap.IsSliceOf sl vl vu .none) (pl : IsPart vl lo) (pu : IsPart vu hi)
    (h : Q (((sIx n 0 lo : Nat) : Int), 1, sIx n n hi - sIx n 0 lo) s) : wpAny (model prog w) A (Builtin.Slice.sliceApplied (.ref sl) (pure (n : Int))) Q E s := by
  obtain ⟨os, hos, hcs, hds⟩ := id hs
  unfold Builtin.Slice.sliceApplied Builtin.Slice.sliceFields
  refine wpAny_bind (wpAny_bind (wpAny_field hos hds (x := vl) rfl (wpAny_bind (wpAny_field hos hds (x := vu) rfl (wpAny_bind (wpAny_field hos hds (x := .none) rfl (wpAny_pure ?_)))))))
  refine wpAny_bind (slicePart_none ?_)
  show wpAny _ _ (if ((1 : Int) == 0) = true then _ else _) _ _ s
  rw [if_neg (by decide)]
  refine wpAny_bind (slicePart_ pl (wpAny_bind (slicePart_ pu (wpAny_bind (wpAny_pure ?_)))))
  show wpAny _ _ (match Builtin.Slice.sliceAdjust lo hi 1 (n : Int) with | (lo, hi) => pure (lo, (1 : Int), Builtin.Slice.slicePlaces lo hi 1)) _ _ s
  rw [adjust_gen lo hi n]
  show wpAny _ _ (pure (((sIx n 0 lo : Nat) : Int), (1 : Int), Builtin.Slice.slicePlaces ((sIx n 0 lo : Nat) : Int) ((sIx n n hi : Nat) : Int) 1)) _ _ s
  rw [places_gen]
  exact wpAny_pure h
theorem pick_gen (xs : Array Value) (i k : Nat) : ((List.range k).filterMap fun (m : Nat) => xs[((i : Int) + (m : Int) * 1).toNat]?).toArray = ((xs.toList.drop i).take k).toArray := by
  have e : (fun (m : Nat) => xs[((i : Int) + (m : Int) * 1).toNat]?) = fun m => xs[i + m]? := by
    funext m
    have : ((i : Int) + (m : Int) * 1).toNat = i + m := by omega
    rw [this]
  rw [e]
  have := pick_run xs i k
  rw [List.filterMap_map] at this
  have e2 : ((fun x => xs[x]?) ∘ fun x => i + x) = fun m => xs[i + m]? := rfl
  rw [e2] at this
  rw [this]

theorem getItem_tuple_cut {t sl : Addr} {items : Array Value} {vl vu : Value} {lo hi : Option Int} {Q : Value → Shared → Prop} (ht : IsTup s.heap t items) (hs : s.heap.IsSliceOf sl vl vu .none) (pl : IsPart vl lo) (pu : IsPart vu hi)
    (hw : ¬ (sIx items.size 0 lo = 0 ∧ sIx items.size items.size hi = items.size))
    (h : Q (.ref s.heap.objs.size) { s with heap := s.heap.push { cls := .type "tuple", data := .seq ((items.toList.drop (sIx items.size 0 lo)).take (sIx items.size items.size hi - sIx items.size 0 lo)).toArray } })
    (hsz : items.size ≤ sizeLine) : wpAny (model prog w) A (getItem (.ref t) (.ref sl)) Q E s := by
  have htake : sizeOk (.seq ((items.toList.drop (sIx items.size 0 lo)).take (sIx items.size items.size hi - sIx items.size 0 lo)).toArray) := by
    show ((items.toList.drop (sIx items.size 0 lo)).take (sIx items.size items.size hi - sIx items.size 0 lo)).toArray.size ≤ sizeLine
    rw [List.size_toArray, List.length_take, List.length_drop, Array.length_toList]
    omega
  have hj : sIx items.size items.size hi ≤ items.size := sIx_le _ _ (Nat.le_refl _) hi
  obtain ⟨os, hos, hcs, hds⟩ := id hs
  have hTs : s.TypeIs (.ref sl) "slice" := ⟨os, hos, hcs⟩
  unfold getItem
  try with_reducible refine wpAny_holding ?_
  first | refine wpAny_bind (wpAny_pure ?_) | skip
  refine wpAny_bind (wpAny_sequenceKey ht.typeIs (by decide) ?_)
  refine wpAny_bind (wpAny_callSpecial?_slot (name := Str.ofString "__getitem__") ht.typeIs PyProof.Rows.slot_tuple_getitem
    (wpAny_call_entry PyProof.Rows.slot_tuple_getitem ht.typeIs entry_tuple_getitem ?_ (args_tuple_getitem _ _)))
  show wpAny _ _ (Builtin.Tuple.tupleItemsOf (.ref t) >>= _) _ _ s
  refine wpAny_bind (tupleItemsOf_ ht ?_)
  refine wpAny_bind (wpAny_typeOf hTs ?_)
  rw [if_pos (by decide)]
  refine wpAny_bind (sliceApplied_gen hs pl pu ?_)
  have hno : ¬ ((((sIx items.size 0 lo : Nat) : Int) == 0 && (1 : Int) == 1 && (sIx items.size items.size hi - sIx items.size 0 lo) == items.size) = true) := by
    intro q
    rw [Bool.and_eq_true, Bool.and_eq_true] at q
    have q1 : ((sIx items.size 0 lo : Nat) : Int) = 0 := eq_of_beq q.1.1
    have q2 : sIx items.size items.size hi - sIx items.size 0 lo = items.size := eq_of_beq q.2
    exact hw ⟨by omega, by omega⟩
  show wpAny _ _ (if (((sIx items.size 0 lo : Nat) : Int) == 0 && (1 : Int) == 1 && (sIx items.size items.size hi - sIx items.size 0 lo) == items.size) = true then _ else _) _ _ s
  rw [if_neg hno, pick_gen]
  first
    | exact wpAny_bind (m := Builtin.Tuple.tupleExact _) (wpAny_newObj_type (wpAny_pure ⟨_, rfl, wpAny_pure h⟩) htake)
    | exact wpAny_bind (m := Builtin.Tuple.tupleExact _) (wpAny_newObj_type (wpAny_bind (wpAny_pure (wpAny_pure ⟨_, rfl, wpAny_pure h⟩))) htake)
    | exact wpAny_bind (wpAny_bind (m := Builtin.Tuple.tupleExact _) (wpAny_newObj_type (wpAny_pure (wpAny_pure ⟨_, rfl, wpAny_pure h⟩)) htake))
    | exact wpAny_bind (wpAny_bind (m := Builtin.Tuple.tupleExact _) (wpAny_newObj_type (wpAny_pure ⟨_, rfl, wpAny_pure h⟩) htake))
end
end HT

namespace L2
open PySem PySem.Spec PyProof.Rows

abbrev TO := St → Hp → (Option Int → Hp → Prop) → Prop
def PO (X : Cx) (e : Option Expr) (t : TO) : Prop :=
  ∀ (pins : List (Addr × Obj)) (s : Shared) (σ : St) (H : Hp) (Q : Option Int → Hp → Prop), Inv X pins σ H s → t σ H Q →
    wpAny (model X.prog X.w) X.A (evalPart e X.env) (fun u s' => ∃ o H', Inv X pins σ H' s' ∧ IsPart u o ∧ Q o H') X.xe s
def tNoPart : TO := fun _ H Q => Q none H
def tPart (t : TE) : TO := fun σ H Q => t σ H fun x H1 => ∃ i, x = .int i ∧ Q (some i) H1

theorem intsAre_of {ns : List Int} : ∀ {us : List Value}, Vals (ns.map V.int) us → IntsAre us ns := by
  induction ns with
  | nil => intro us r; rw [List.map_nil] at r; cases r; exact .nil
  | cons n ns ih =>
    intro us r
    rw [List.map_cons] at r
    cases r with
    | cons r1 r2 =>
      obtain ⟨t, e⟩ := r1
      subst e
      exact .cons n t (ih r2)

section
variable {X : Cx} {e : Expr} {te : TE} {lo hi : Option Expr} {tl th : TO} {pos p2 : Pos}

theorem po_none : PO X none tNoPart := by
  intro pins s σ H Q I h
  rw [evalPart_none]
  exact wpAny_pure ⟨none, H, I, .none, h⟩
theorem po_some (h : PE X e te) : PO X (some e) (tPart te) := by
  intro pins s σ H Q I hw
  rw [evalPart_some]
  refine thn (h pins s σ H _ I hw) fun u s1 ⟨x, H1, I1, r1, q1⟩ => ?_
  obtain ⟨i, rfl, q⟩ := q1
  obtain ⟨t, rfl⟩ := r1
  exact ⟨some i, H1, I1, .int i t, q⟩

def SlR (X : Cx) (r : V → Option Int → Option Int → Hp → VK → Prop) : Prop :=
  ∀ (pins : List (Addr × Obj)) (s : Shared) (σ : St) (H : Hp) (x : V) (v vl vu : Value) (lo hi : Option Int) (sl : Addr) (Q : VK), Inv X pins σ H s → RelV x v → s.heap.IsSliceOf sl vl vu .none → IsPart vl lo → IsPart vu hi → r x lo hi H Q →
    ∃ T id, typeLookup (.type T) "__getitem__" = pure (some (.builtin id)) ∧ s.TypeIs v T ∧ wpAny (model X.prog X.w) X.A (getItem v (.ref sl)) (EP X pins σ Q) X.xe s
def tSl (r : V → Option Int → Option Int → Hp → VK → Prop) (te : TE) (tl th : TO) : TE := fun σ H Q => te σ H fun x H1 => tl σ H1 fun l H2 => th σ H2 fun u H3 => r x l u H3 Q
theorem pe_slice {r : V → Option Int → Option Int → Hp → VK → Prop} (hr : SlR X r) (he : PE X e te) (hl : PO X lo tl) (hu : PO X hi th) : PE X (.Subscript e (.Slice lo hi none p2) pos) (tSl r te tl th) := by
  intro pins s σ H Q I h
  refine Subscript_ (thn (he pins s σ H _ I h) fun v s1 ⟨x, H1, I1, r1, q1⟩ => ?_)
  refine wpAny_Slice (thn (hl pins s1 σ H1 _ I1 q1) fun vl s2 ⟨l, H2, I2, pl, q2⟩ => thn (hu pins s2 σ H2 _ I2 q2) fun vu s3 ⟨u, H3, I3, pu, q3⟩ => ?_)
  rw [evalPart_none]
  refine wpAny_pure ?_
  have I4 : Inv X pins σ H3 { s3 with heap := s3.heap.push { cls := .type "slice", data := .fields #[vl, vu, .none] } } := I3.kept (t' := s3.toks) fun b ob q => Heap.get?_push_of_some _ q
  obtain ⟨T, id, hT, ht, hg⟩ := hr pins { s3 with heap := s3.heap.push { cls := .type "slice", data := .fields #[vl, vu, .none] } } σ H3 x v vl vu l u s3.heap.objs.size Q I4 r1 (Heap.IsSliceOf.new ..) pl pu q3
  show wpAny (model X.prog X.w) X.A (subscriptTail e (.Slice lo hi none p2) v (.ref s3.heap.objs.size)) (EP X pins σ Q) X.xe { s3 with heap := s3.heap.push { cls := .type "slice", data := .fields #[vl, vu, .none] } }
  exact tail_any (ops := [.ref s3.heap.objs.size, v]) ht hT hg (by with_unfolding_all rfl)

def cutV (xs : List V) (lo hi : Option Int) : List V := (xs.drop (HT.sIx xs.length 0 lo)).take (HT.sIx xs.length xs.length hi - HT.sIx xs.length 0 lo)
theorem cutV_length (xs : List V) (lo hi : Option Int) : (cutV xs lo hi).length ≤ xs.length := by
  unfold cutV
  rw [List.length_take, List.length_drop]
  omega
def rSlT (K : PySem.W.Frag) : V → Option Int → Option Int → Hp → VK → Prop := fun x lo hi H Q => ∃ a xs, x = .ref a ∧ SqT K H a xs ∧
  ¬ (HT.sIx xs.length 0 lo = 0 ∧ HT.sIx xs.length xs.length hi = xs.length) ∧ ∀ p, H p = none → Q (.ref p) (upd H p (.tup (cutV xs lo hi)))
theorem sl_tup : SlR X (rSlT X.K) := by
  intro pins s σ H x v vl vu lo hi sl Q I rx hs pl pu h
  obtain ⟨a, xs, rfl, hx, hw, q⟩ := h
  cases rx
  obtain ⟨its, r, ht, hz⟩ := I.tuple hx
  have hlen : its.toArray.size = xs.length := by rw [List.size_toArray]; exact r.length.symm
  refine ⟨"tuple", _, PyProof.Rows.slot_tuple_getitem.lookup, ht.typeIs, ?_⟩
  refine HT.getItem_tuple_cut ht hs pl pu (by rw [hlen]; exact hw) ?_ (by rw [hlen]; exact hz)
  rw [hlen]
  refine ⟨.ref s.heap.objs.size, _, I.laid (t' := s.toks) (o := .tup (cutV xs lo hi)) (fun b ob q => Heap.get?_push_of_some _ q) (Nat.le_refl _) ?_, rfl, q _ (I.hok.fresh (Nat.le_refl _))⟩
  exact ⟨Nat.le_trans (cutV_length xs lo hi) hz, _, (r.drop (HT.sIx xs.length 0 lo)).take (HT.sIx xs.length xs.length hi - HT.sIx xs.length 0 lo), IsTup.new _ _⟩

def rLtT (K : PySem.W.Frag) : R2 := fun x y H Q => ∃ a b ns ms, x = .ref a ∧ y = .ref b ∧ SqT K H a (ns.map V.int) ∧ SqT K H b (ms.map V.int) ∧ Q (.bl (HT.lexLt ns ms)) H
def rCatT (K : PySem.W.Frag) : R2 := fun x y H Q => ∃ a b xs ys, x = .ref a ∧ y = .ref b ∧ SqT K H a xs ∧ SqT K H b ys ∧ xs ≠ [] ∧ xs.length + ys.length ≤ sizeLine ∧
  (ys = [] → Q (.ref a) H) ∧ (ys ≠ [] → ∀ p, H p = none → Q (.ref p) (upd H p (.tup (xs ++ ys))))
theorem Vals.nil_iff {xs : List V} {us : List Value} (r : Vals xs us) : us = [] ↔ xs = [] := by
  cases r with
  | nil => simp
  | cons _ _ => simp
theorem op_catT : OpR X (binaryOp .Add) (rCatT X.K) := by
  intro pins s σ H x y v u Q I rx ry h
  obtain ⟨a, b, xs, ys, rfl, rfl, ha, hb, hx, hz, q1, q2⟩ := h
  cases rx
  cases ry
  obtain ⟨its, r1, p1, _⟩ := I.tuple ha
  obtain ⟨its2, r2, p2, _⟩ := I.tuple hb
  refine HT.cat_tup p1 p2 (fun z => hx (r1.nil_iff.mp z)) (fun z => ⟨.ref a, H, I, rfl, q1 (r2.nil_iff.mp z)⟩) (fun z => ?_) (by rw [← r1.length, ← r2.length]; exact hz)
  refine ⟨.ref s.heap.objs.size, _, I.laid (t' := s.toks) (o := .tup (xs ++ ys)) (fun b ob q => Heap.get?_push_of_some _ q) (Nat.le_refl _) ?_, rfl, q2 (fun w => z (r2.nil_iff.mpr w)) _ (I.hok.fresh (Nat.le_refl _))⟩
  exact ⟨by rw [List.length_append]; exact hz, _, r1.append r2, IsTup.new _ _⟩
end
end L2

namespace L2
open PySem PySem.Spec PyProof.Rows

def ixN (n : Nat) (i : Int) : Option Nat := if 0 ≤ i then (if i < n then some i.toNat else none) else if -(n : Int) ≤ i then some (i + n).toNat else none
def atI {α : Type} (xs : List α) (i : Int) : Option α := (ixN xs.length i).bind fun j => xs[j]?
theorem ixN_seq {n : Nat} {i : Int} {j : Nat} (h : ixN n i = some j) : seqIndex? i n = some j ∧ j < n ∧ -(n : Int) ≤ i ∧ i < n := by
  unfold ixN at h
  by_cases h0 : 0 ≤ i
  · rw [if_pos h0] at h
    by_cases h1 : i < n
    · rw [if_pos h1] at h
      have e : i.toNat = j := Option.some.inj h
      exact ⟨by rw [seqIndex_of h0 h1, e], by omega, by omega, h1⟩
    · rw [if_neg h1] at h; cases h
  · rw [if_neg h0] at h
    by_cases h1 : -(n : Int) ≤ i
    · rw [if_pos h1] at h
      have e : (i + n).toNat = j := Option.some.inj h
      exact ⟨by rw [seqIndex_neg (by omega) h1, e], by omega, h1, by omega⟩
    · rw [if_neg h1] at h; cases h
theorem atI_get {α : Type} {xs : List α} {i : Int} {v : α} (h : atI xs i = some v) : ∃ j, seqIndex? i xs.length = some j ∧ xs[j]? = some v ∧ j < xs.length ∧ -(xs.length : Int) ≤ i ∧ i < xs.length := by
  unfold atI at h
  cases e : ixN xs.length i with
  | none => rw [e] at h; cases h
  | some j =>
    rw [e] at h
    obtain ⟨h1, h2, h3, h4⟩ := ixN_seq e
    exact ⟨j, h1, h, h2, h3, h4⟩
theorem atI_nat {α : Type} {xs : List α} {j : Nat} {v : α} (h : xs[j]? = some v) : atI xs (j : Int) = some v := by
  have hj : j < xs.length := (List.getElem?_eq_some_iff.mp h).1
  have e : ixN xs.length (j : Int) = some j := by
    unfold ixN
    rw [if_pos (by omega), if_pos (by omega)]; simp
  unfold atI; rw [e]; exact h
def PlainIx (b : Expr) : Prop := ∀ o i, subscripted b false o i = operate [o, i] (getItem o i)
def IxR (X : Cx) (r : R2) : Prop :=
  ∀ (value slice : Expr) (pins : List (Addr × Obj)) (s : Shared) (σ : St) (H : Hp) (x y : V) (v u : Value) (Q : VK), Inv X pins σ H s → RelV x v → RelV y u → r x y H Q →
    subscripted slice false v u = operate [v, u] (getItem v u) → wpAny (model X.prog X.w) X.A (subscriptTail value slice v u) (EP X pins σ Q) X.xe s
def MtR (X : Cx) (id : String) (r : V → List V → Hp → VK → Prop) : Prop :=
  ∀ (pins : List (Addr × Obj)) (s : Shared) (σ : St) (H : Hp) (x : V) (xs : List V) (v : Value) (us : List Value) (Q : VK), Inv X pins σ H s → RelV x v → Vals xs us → r x xs H Q →
    wpAny (model X.prog X.w) X.A (call (.builtin id) (v :: us)) (EP X pins σ Q) X.xe s
section
variable {X : Cx} {a b : Expr} {ta tb : TE} {pos : Pos}
theorem pe_ix {r : R2} (hr : IxR X r) (ha : PE X a ta) (hb : PE X b tb) (hs : PlainIx b) : PE X (.Subscript a b pos) (tOp r ta tb) := by
  intro pins s σ H Q I h
  exact Subscript_ (binT ha hb I h fun v u s2 x y H2 I2 rx ry q => hr a b pins s2 σ H2 x y v u Q I2 rx ry q (hs _ _))

def rIxL (K : PySem.W.Frag) : R2 := fun x y H Q => ∃ p xs i v, x = .ref p ∧ y = .int i ∧ SqL K H p xs ∧ atI xs i = some v ∧ Q v H
def rIxT (K : PySem.W.Frag) : R2 := fun x y H Q => ∃ p xs i v, x = .ref p ∧ y = .int i ∧ SqT K H p xs ∧ atI xs i = some v ∧ Q v H
def rIxS : R2 := fun x y H Q => ∃ z i c, x = .str z ∧ y = .int i ∧ z.length ≤ sizeLine ∧ atI z.cps.toList i = some c ∧ Q (.str ⟨#[c]⟩) H
theorem ix_list : IxR X (rIxL X.K) := by
  intro value slice pins s σ H x y v u Q I rx ry h hs
  obtain ⟨p, xs, i, z, rfl, rfl, hq, he, q⟩ := h
  cases rx
  obtain ⟨t, rfl⟩ := ry
  obtain ⟨its, r, pl, hz⟩ := I.list hq
  obtain ⟨j, h1, h2, h3, h4, h5⟩ := atI_get he
  obtain ⟨w, ew, rw'⟩ := r.get h2
  have hl := r.length
  have hn := line63
  have fin : EP X pins σ Q w s := ⟨z, H, I, rw', q⟩
  by_cases h0 : 0 ≤ i
  · have hj : i.toNat = j := by
      rw [seqIndex_of h0 h5] at h1
      exact Option.some.inj h1
    exact item_listR pl.isList h0 (by omega) (by rw [hj]; simpa using ew) fin hs
  · have hj : (i + (its.toArray.size : Int)).toNat = j := by
      rw [seqIndex_neg (by omega) h4] at h1
      rw [List.size_toArray, ← hl]
      exact Option.some.inj h1
    exact subscriptTail_builtinR (x := w) pl.isList.typeIs slot_list_getitem.lookup
      (wpAny_getItem_list_neg (Q := fun r s' => r = w ∧ EP X pins σ Q r s') pl.isList (by omega) (by rw [List.size_toArray] <;> omega) (by omega) (by rw [hj]; simpa using ew) ⟨rfl, fin⟩) hs
theorem ix_tup : IxR X (rIxT X.K) := by
  intro value slice pins s σ H x y v u Q I rx ry h hs
  obtain ⟨p, xs, i, z, rfl, rfl, hq, he, q⟩ := h
  cases rx
  obtain ⟨t, rfl⟩ := ry
  obtain ⟨its, r, pl, hz⟩ := I.tuple hq
  obtain ⟨j, h1, h2, h3, h4, h5⟩ := atI_get he
  obtain ⟨w, ew, rw'⟩ := r.get h2
  have hl := r.length
  have hn := line63
  have fin : EP X pins σ Q w s := ⟨z, H, I, rw', q⟩
  exact subscriptTail_builtinR (x := w) pl.typeIs slot_tuple_getitem.lookup
    (getItem_tuple (j := j) (Q := fun r s' => r = w ∧ EP X pins σ Q r s') pl (by omega) (by omega) (by rw [List.size_toArray, ← hl]; exact h1) (by simpa using ew) ⟨rfl, fin⟩) hs
def rIx (K : PySem.W.Frag) : R2 := fun x y H Q => rIxL K x y H Q ∨ rIxT K x y H Q ∨ rIxS x y H Q
theorem mapSeq_set (its : List Value) (n j : Nat) (u : Value) : Obj.mapSeq (·.setIfInBounds j u) { cls := .type "list", data := .seq its.toArray n } = { cls := .type "list", data := .seq (its.set j u).toArray n } := by
  simp [Obj.mapSeq]
theorem Inv.lst {pins : List (Addr × Obj)} {σ : St} {H : Hp} {s : Shared} {p : Addr} {xs : List V} (I : Inv X pins σ H s) (h : H p = some (.lst xs)) :
    ∃ (its : List Value) (n : Nat), Vals xs its ∧ s.heap.get? p = some { cls := .type "list", data := .seq its.toArray n } ∧ xs.length ≤ sizeLine := by
  obtain ⟨z, its, n, r, e⟩ := I.hok p _ h
  exact ⟨its, n, r, e, z⟩
theorem Inv.lstUpd {pins : List (Addr × Obj)} {σ : St} {H : Hp} {s : Shared} {p : Addr} {xs ys : List V} {its its' : List Value} {n n' : Nat} {f : Obj → Obj} (I : Inv X pins σ H s) (h : H p = some (.lst xs))
    (ho : s.heap.get? p = some { cls := .type "list", data := .seq its.toArray n }) (hf : f { cls := .type "list", data := .seq its.toArray n } = { cls := .type "list", data := .seq its'.toArray n' }) (r : Vals ys its') (hz : ys.length ≤ sizeLine) (t : Nat) :
    Inv X pins σ (upd H p (.lst ys)) { s with heap := s.heap.update p f, toks := t } := by
  have e : (s.heap.update p f).get? p = some { cls := .type "list", data := .seq its'.toArray n' } := by
    rw [Heap.get?_update_self f ho (by rw [hf] <;> rfl), hf]
  refine I.write (x := p) (e := p) (by rw [h]; trivial) (.inl rfl) (fun b u hb q => (Heap.get?_update_other _ _ (Ne.symm hb)).trans q) ⟨_, e⟩ ?_
  exact ⟨hz, its', n', r, e⟩
def rSetL : V → V → V → Hp → (Hp → Prop) → Prop := fun o i v H Q => ∃ p xs k j, o = .ref p ∧ i = .int k ∧ H p = some (.lst xs) ∧ ixN xs.length k = some j ∧ Q (upd H p (.lst (xs.set j v)))
theorem set_list : PSet X rSetL := by
  intro pins s σ H o i v ov iv u Q I ro ri rv h
  obtain ⟨p, xs, k, j, rfl, rfl, hp, hj, q⟩ := h
  cases ro
  obtain ⟨t, rfl⟩ := ri
  obtain ⟨its, n, r, ho, hz⟩ := I.lst hp
  obtain ⟨h1, h2, h3, h4⟩ := ixN_seq hj
  have hl := r.length
  have hn := line63
  have I' : Inv X pins σ (upd H p (.lst (xs.set j v))) { s with heap := s.heap.update p (Obj.mapSeq (·.setIfInBounds j u)) } :=
    I.lstUpd hp ho (mapSeq_set its n j u) (r.set rv j) (by rw [List.length_set]; exact hz) s.toks
  by_cases h0 : 0 ≤ k
  · have hk : k.toNat = j := by
      rw [seqIndex_of h0 h4] at h1
      exact Option.some.inj h1
    exact PySem.W.ki_setAt ho h0 (by omega) (by rw [List.size_toArray, ← hl]; exact h4) (by rw [hk]; exact ⟨_, I', q⟩)
  · have hk : (k + (its.toArray.size : Int)).toNat = j := by
      rw [seqIndex_neg (by omega) h3] at h1
      rw [List.size_toArray, ← hl]
      exact Option.some.inj h1
    exact PySem.W.ki_setBack ho (by omega) (by rw [List.size_toArray, ← hl]; exact h3) (by omega) (by rw [hk]; exact ⟨_, I', q⟩)

theorem slice_bounds (lo hi : Option Int) (n : Nat) : (sliceBounds lo hi none n).1 = ((HT.sIx n 0 lo : Nat) : Int) ∧ (sliceBounds lo hi none n).2.1 = ((HT.sIx n n hi : Nat) : Int) ∧ (sliceBounds lo hi none n).2.2 = 1 := by
  refine ⟨?_, ?_, rfl⟩
  · cases lo with
    | none => simp [sliceBounds, HT.sIx]
    | some i =>
      simp only [sliceBounds, HT.sIx, Option.getD_none, show (1 : Int) > 0 by decide, if_true]
      by_cases h : i < 0
      · simp only [h, if_true] <;> omega
      · simp only [h, if_false] <;> omega
  · cases hi with
    | none => simp [sliceBounds, HT.sIx]
    | some i =>
      simp only [sliceBounds, HT.sIx, Option.getD_none, show (1 : Int) > 0 by decide, if_true]
      by_cases h : i < 0
      · simp only [h, if_true] <;> omega
      · simp only [h, if_false] <;> omega
theorem slicePick_cut (its : List Value) (lo hi : Option Int) : slicePick its.toArray lo hi none = ((its.drop (HT.sIx its.length 0 lo)).take (HT.sIx its.length its.length hi - HT.sIx its.length 0 lo)).toArray := by
  obtain ⟨h1, h2, h3⟩ := slice_bounds lo hi its.toArray.size
  unfold slicePick
  rw [h1, h2, h3]
  simp only [sliceRange_one, pick_run, List.size_toArray] <;> rfl
def rSlL (K : PySem.W.Frag) : V → Option Int → Option Int → Hp → VK → Prop := fun x lo hi H Q => ∃ a xs, x = .ref a ∧ SqL K H a xs ∧ ∀ p, H p = none → Q (.ref p) (upd H p (.lst (cutV xs lo hi)))
theorem sl_list : SlR X (rSlL X.K) := by
  intro pins s σ H x v vl vu lo hi sl Q I rx hs pl pu h
  obtain ⟨a, xs, rfl, hx, q⟩ := h
  cases rx
  obtain ⟨its, r, ht, hz⟩ := I.list hx
  have hlen := r.length
  refine ⟨"list", _, slot_list_getitem.lookup, ht.isList.typeIs, ?_⟩
  refine wpAny_getItem_list_slice ht.isList hs pl pu .none (by simp) ?_ (by rw [List.size_toArray] <;> omega)
  rw [slicePick_cut, ← hlen]
  refine ⟨.ref s.heap.objs.size, _, I.laid (t' := s.toks) (o := .lst (cutV xs lo hi)) (fun b ob q => Heap.get?_push_of_some _ q) (Nat.le_refl _) ?_, rfl, q _ (I.hok.fresh (Nat.le_refl _))⟩
  exact ⟨Nat.le_trans (cutV_length xs lo hi) hz, _, 0, (r.drop (HT.sIx xs.length 0 lo)).take (HT.sIx xs.length xs.length hi - HT.sIx xs.length 0 lo), Heap.get?_push_size _ rfl⟩

def flatV : V → Bool
  | .non => true
  | .bl _ => true
  | .int _ => true
  | .str _ => true
  | _ => false
def eqV : V → V → Bool
  | .non, .non => true
  | .bl a, .bl b => a == b
  | .bl a, .int b => (if a then 1 else 0) == b
  | .int a, .bl b => a == (if b then 1 else 0)
  | .int a, .int b => a == b
  | .str a, .str b => a == b
  | _, _ => false
theorem eqAt_V {A : Around} {s : Shared} {y x : V} {u v : Value} (ry : RelV y u) (rx : RelV x v) (fy : flatV y = true) (fx : flatV x = true) : SeqAt.EqAt A s u v (eqV y x) := by
  cases y with
  | non =>
    cases ry
    cases x with
    | non => cases rx; exact SeqAt.EqAt.same _
    | bl b => cases rx; exact SeqAt.EqAt.none_bool b
    | int b => obtain ⟨t, rfl⟩ := rx; exact SeqAt.EqAt.none_int b t
    | str b => obtain ⟨t, rfl⟩ := rx; exact SeqAt.EqAt.none_str b t
    | _ => exact absurd (show false = true from fx) Bool.false_ne_true
  | bl a =>
    cases ry
    cases x with
    | non => cases rx; exact SeqAt.EqAt.bool_none a
    | bl b => cases rx; exact SeqAt.EqAt.bool_bool a b
    | int b => obtain ⟨t, rfl⟩ := rx; exact SeqAt.EqAt.bool_int a b t
    | str b => obtain ⟨t, rfl⟩ := rx; exact SeqAt.EqAt.bool_str a b t
    | _ => exact absurd (show false = true from fx) Bool.false_ne_true
  | int a =>
    obtain ⟨t', rfl⟩ := ry
    cases x with
    | non => cases rx; exact SeqAt.EqAt.int_none a t'
    | bl b => cases rx; exact SeqAt.EqAt.int_bool a t' b
    | int b => obtain ⟨t, rfl⟩ := rx; exact SeqAt.EqAt.int_int a t' b t
    | str b => obtain ⟨t, rfl⟩ := rx; exact SeqAt.EqAt.int_str a t' b t
    | _ => exact absurd (show false = true from fx) Bool.false_ne_true
  | str a =>
    obtain ⟨t', rfl⟩ := ry
    cases x with
    | non => cases rx; exact SeqAt.EqAt.str_none a t'
    | bl b => cases rx; exact SeqAt.EqAt.str_bool a t' b
    | int b => obtain ⟨t, rfl⟩ := rx; exact SeqAt.EqAt.str_int a t' b t
    | str b => obtain ⟨t, rfl⟩ := rx; exact SeqAt.EqAt.str_str a t' b t
    | _ => exact absurd (show false = true from fx) Bool.false_ne_true
  | _ => exact absurd (show false = true from fy) Bool.false_ne_true
def eqU (x : V) (u : Value) : Bool := match u with
  | .none => eqV .non x
  | .bool b => eqV (.bl b) x
  | .int i _ => eqV (.int i) x
  | .str z _ => eqV (.str z) x
  | _ => false
theorem eqU_of {x y : V} {u : Value} (r : RelV y u) (f : flatV y = true) : eqU x u = eqV y x := by
  cases y with
  | non => cases r; rfl
  | bl b => cases r; rfl
  | int i => obtain ⟨t, rfl⟩ := r; rfl
  | str z => obtain ⟨t, rfl⟩ := r; rfl
  | _ => exact absurd (show false = true from f) Bool.false_ne_true
theorem any_eqU {x : V} : ∀ {xs : List V} {us : List Value}, Vals xs us → xs.all flatV = true → us.any (eqU x) = xs.any fun y => eqV y x
  | _, _, .nil, _ => rfl
  | y :: xs, u :: us, .cons r t, f => by
    rw [List.all_cons, Bool.and_eq_true] at f
    rw [List.any_cons, List.any_cons, eqU_of r f.1, any_eqU t f.2]
theorem mem_eqAt {A : Around} {s : Shared} {x : V} {v : Value} (rx : RelV x v) (fx : flatV x = true) : ∀ {xs : List V} {us : List Value}, Vals xs us → xs.all flatV = true → ∀ u ∈ us, SeqAt.EqAt A s u v (eqU x u)
  | _, _, .nil, _ => fun u hu => by cases hu
  | y :: xs, u :: us, .cons r t, f => fun u' hu => by
    rw [List.all_cons, Bool.and_eq_true] at f
    rcases List.mem_cons.mp hu with rfl | hu
    · rw [eqU_of r f.1]; exact eqAt_V r rx f.1 fx
    · exact mem_eqAt rx fx t f.2 u' hu
def inV (x : V) (xs : List V) : Bool := xs.any fun y => eqV y x
def rIn (K : PySem.W.Frag) (neg : Bool) : R2 := fun x y H Q => ∃ p xs, y = .ref p ∧ (SqL K H p xs ∨ SqT K H p xs) ∧ flatV x = true ∧ xs.all flatV = true ∧ Q (.bl (if neg then !inV x xs else inV x xs)) H
theorem op_in_seq : OpR X (compareOp .In) (rIn X.K false) := by
  intro pins s σ H x y v u Q I rx ry h
  obtain ⟨p, xs, rfl, hq, fx, fs, q⟩ := h
  cases ry
  rcases hq with hq | hq
  · obtain ⟨its, r, pl, hz⟩ := I.list hq
    refine SeqAt.in_listAt (eqU x) pl.isList (fun w hw => mem_eqAt rx fx r fs w (by simpa using hw)) ⟨.bl _, H, I, rfl, ?_⟩
    rw [show its.toArray.any (eqU x) = its.any (eqU x) by simp, any_eqU r fs]
    exact q
  · obtain ⟨its, r, pl, hz⟩ := I.tuple hq
    refine SeqAt.in_tupleAt (eqU x) pl (fun w hw => mem_eqAt rx fx r fs w (by simpa using hw)) ⟨.bl _, H, I, rfl, ?_⟩
    rw [show its.toArray.any (eqU x) = its.any (eqU x) by simp, any_eqU r fs]
    exact q
theorem op_notIn_seq : OpR X (compareOp .NotIn) (rIn X.K true) := by
  intro pins s σ H x y v u Q I rx ry h
  obtain ⟨p, xs, rfl, hq, fx, fs, q⟩ := h
  cases ry
  rcases hq with hq | hq
  · obtain ⟨its, r, pl, hz⟩ := I.list hq
    refine SeqAt.notIn_listAt (eqU x) pl.isList (fun w hw => mem_eqAt rx fx r fs w (by simpa using hw)) ⟨.bl _, H, I, rfl, ?_⟩
    rw [show its.toArray.any (eqU x) = its.any (eqU x) by simp, any_eqU r fs]
    exact q
  · obtain ⟨its, r, pl, hz⟩ := I.tuple hq
    refine SeqAt.notIn_tupleAt (eqU x) pl (fun w hw => mem_eqAt rx fx r fs w (by simpa using hw)) ⟨.bl _, H, I, rfl, ?_⟩
    rw [show its.toArray.any (eqU x) = its.any (eqU x) by simp, any_eqU r fs]
    exact q
theorem call_len_seq : CallR X (.builtin "len") (fun xs H Q => ∃ p ys, xs = [.ref p] ∧ (SqL X.K H p ys ∨ SqT X.K H p ys) ∧ Q (.int ys.length) H) := by
  intro pins s σ H xs us Q I r h
  obtain ⟨p, ys, rfl, hq, q⟩ := h
  obtain ⟨u, rfl, rx⟩ := vals1 r
  cases rx
  have hn := line63
  rcases hq with hq | hq
  · obtain ⟨its, r', pl, hz⟩ := I.list hq
    have hlen := r'.length
    exact Calls.call_len_list pl.isList (by simp only [List.size_toArray] <;> omega) ⟨.int ys.length, H, I.tok _, ⟨s.toks + 1, by rw [List.size_toArray, hlen]⟩, q⟩
  · obtain ⟨its, r', pl, hz⟩ := I.tuple hq
    have hlen := r'.length
    exact len_tuple pl (by simp only [List.size_toArray] <;> omega) ⟨.int ys.length, H, I.tok _, ⟨s.toks + 1, by rw [List.size_toArray, hlen]⟩, q⟩
theorem call_list_of : CallR X (.type "list") (fun xs H Q => ∃ p ys, xs = [.ref p] ∧ (SqL X.K H p ys ∨ SqT X.K H p ys) ∧ ∀ l, H l = none → Q (.ref l) (upd H l (.lst ys))) := by
  intro pins s σ H xs us Q I r h
  obtain ⟨p, ys, rfl, hq, q⟩ := h
  obtain ⟨u, rfl, rx⟩ := vals1 r
  cases rx
  have fin : ∀ (its : List Value), Vals ys its → ys.length ≤ sizeLine → ∀ (h' : Heap) (c' : Nat), (∀ b o', s.heap.get? b = some o' → h'.get? b = some o') →
      h'.get? s.heap.objs.size = some { cls := .type "list", dict := none, data := .seq its.toArray c', slots := #[] } → EP X pins σ Q (.ref s.heap.objs.size) { s with heap := h' } := fun its r' hz h' c' kp e =>
    ⟨.ref s.heap.objs.size, _, I.laid (t' := s.toks) kp (Nat.le_refl _) (show ObjOk X.prog X.w _ h' _ (.lst ys) from ⟨hz, its, c', r', e⟩), rfl, q _ (I.hok.fresh (Nat.le_refl _))⟩
  rcases hq with hq | hq
  · obtain ⟨its, r', pl, hz⟩ := I.list hq
    have hlen := r'.length
    obtain ⟨o, ho, hc, n, hd⟩ := pl.isList
    exact call_list_seq p (.inl rfl) ho hc hd (fun h' c' kp e => fin its r' hz h' c' kp e) (by simp only [List.size_toArray] <;> omega)
  · obtain ⟨its, r', pl, hz⟩ := I.tuple hq
    have hlen := r'.length
    obtain ⟨o, ho, hc, n, hd⟩ := pl
    exact call_list_seq p (.inr rfl) ho hc hd (fun h' c' kp e => fin its r' hz h' c' kp e) (by simp only [List.size_toArray] <;> omega)
theorem call_tuple_of : CallR X (.type "tuple") (fun xs H Q => ∃ p ys, xs = [.ref p] ∧ ((SqL X.K H p ys ∧ ∀ l, H l = none → Q (.ref l) (upd H l (.tup ys))) ∨ (SqT X.K H p ys ∧ Q (.ref p) H))) := by
  intro pins s σ H xs us Q I r h
  obtain ⟨p, ys, rfl, h⟩ := h
  obtain ⟨u, rfl, rx⟩ := vals1 r
  cases rx
  rcases h with ⟨hq, q⟩ | ⟨hq, q⟩
  · obtain ⟨its, r', pl, hz⟩ := I.list hq
    have hlen := r'.length
    refine call_tuple_list pl.isList (fun h' kp => ?_) (by simp only [List.size_toArray] <;> omega)
    have I1 : Inv X pins σ H { s with heap := h' } := I.kept (t' := s.toks) kp
    have I2 : Inv X pins σ (upd H h'.objs.size (.tup ys)) { s with heap := h'.push { cls := .type "tuple", data := .seq its.toArray } } :=
      I1.laid (t' := s.toks) (fun b o e => Heap.get?_push_of_some _ e) (Nat.le_refl _) (show ObjOk X.prog X.w _ _ _ (.tup ys) from ⟨hz, its, r', IsTup.new _ _⟩)
    exact ⟨.ref h'.objs.size, _, I2, rfl, q _ (I1.hok.fresh (Nat.le_refl _))⟩
  · obtain ⟨its, r', pl, hz⟩ := I.tuple hq
    exact call_tuple_same pl ⟨.ref p, H, I, rfl, q⟩

def tyV (K : PySem.W.Frag) (T : String) (x : V) (H : Hp) : Prop := match x with
  | .str _ => T = "str"
  | .int _ => T = "int"
  | .ref p => (T = "list" ∧ ∃ xs, SqL K H p xs) ∨ (T = "tuple" ∧ ∃ o, K.lookup p = some o ∧ o.cls = .type "tuple" ∧ o.dict = none) ∨
      (T = "dict" ∧ ((∃ kvs, H p = some (.dK kvs)) ∨ ∃ kvs, H p = some (.dT kvs))) ∨ (T = "set" ∧ ∃ S n, H p = some (.set S n))
  | _ => False
theorem tyV_is {pins : List (Addr × Obj)} {σ : St} {H : Hp} {s : Shared} {T : String} {x : V} {v : Value} (I : Inv X pins σ H s) (r : RelV x v) (ty : tyV X.K T x H) :
    s.TypeIs v T ∧ ∀ a, v = .ref a → ∃ ob, s.heap.get? a = some ob ∧ ob.dict = none := by
  cases x with
  | str z =>
    obtain ⟨t, rfl⟩ := r
    cases (show T = "str" from ty)
    exact ⟨typeIs_str s z t, fun _ e => nomatch e⟩
  | int i =>
    obtain ⟨t, rfl⟩ := r
    cases (show T = "int" from ty)
    exact ⟨typeIs_int s i t, fun _ e => nomatch e⟩
  | ref p =>
    cases r
    rcases ty with ⟨rfl, xs, hq⟩ | ⟨rfl, o, hk, hc, hd⟩ | ⟨rfl, hk⟩ | ⟨rfl, S, n, hk⟩
    · obtain ⟨its, _, pl, _⟩ := I.list hq
      refine ⟨pl.isList.typeIs, fun a e => ?_⟩
      cases e
      obtain ⟨o, n, e, c, hd, _⟩ := pl
      exact ⟨o, e, hd⟩
    · refine ⟨⟨o, I.kIn p o hk, hc⟩, fun a e => ?_⟩
      cases e
      exact ⟨o, I.kIn _ o hk, hd⟩
    · have z : ∃ o, s.heap.get? p = some o ∧ o.ExactDict := by
        rcases hk with ⟨kvs, hk⟩ | ⟨kvs, hk⟩
        · obtain ⟨_, _, _, _, o, _, _, e, ex, _⟩ := I.hok p _ hk
          exact ⟨o, e, ex⟩
        · obtain ⟨_, _, _, _, o, _, _, e, ex, _⟩ := I.hok p _ hk
          exact ⟨o, e, ex⟩
      obtain ⟨o, e, ex⟩ := z
      refine ⟨⟨o, e, ex.1⟩, fun a e2 => ?_⟩
      cases e2
      exact ⟨o, e, ex.2.1⟩
    · obtain ⟨o, _, _, _, e, ex, _⟩ := I.hok p _ hk
      refine ⟨⟨o, e, ex.1⟩, fun a e2 => ?_⟩
      cases e2
      exact ⟨o, e, ex.2.1⟩
  | _ => exact False.elim ty
def tBM0 (K : PySem.W.Frag) (T : String) (r : V → List V → Hp → VK → Prop) (to : TE) : TE := fun σ H Q => to σ H fun x H1 => tyV K T x H1 ∧ r x [] H1 Q
def tBM (K : PySem.W.Frag) (T : String) (r : V → List V → Hp → VK → Prop) (to : TE) (t : TA) : TE := fun σ H Q => to σ H fun x H1 => tyV K T x H1 ∧ t σ H1 fun xs H2 => r x xs H2 Q
variable {o e : Expr} {es : List Expr} {to : TE} {t : TA} {name : Str} {apos cpos : Pos} {T id : String} {r : V → List V → Hp → VK → Prop}
theorem pe_bm0 (pa : PlainAttrs T) (slot : Slot T name id) (hty : typeOf (.builtin id) = pure (.type "method_descriptor")) (hm : MtR X id r) (ho : PE X o to)
    (hbase : attributeBase o name X.env (eval o X.env) = eval o X.env := by rfl) (hline : (apos.endLine == cpos.line) = true := by rfl) : PE X (.Call (.Attribute o name apos) [] [] cpos) (tBM0 X.K T r to) := by
  intro pins s σ H Q I h
  refine wpAny_Call_method0_late hbase hline (thn (ho pins s σ H _ I h) fun v s1 ⟨x, H1, I1, r1, ty, q1⟩ => ?_)
  obtain ⟨h1, h2⟩ := tyV_is I1 r1 ty
  exact ⟨T, id, pa, slot, hty, h1, h2, Calls.callWith_builtin rfl (PySem.evalArgs_none (hm pins s1 σ H1 x [] v [] Q I1 r1 .nil q1))⟩
theorem pe_bm (pa : PlainAttrs T) (slot : Slot T name id) (hty : typeOf (.builtin id) = pure (.type "method_descriptor")) (hm : MtR X id r) (ho : PE X o to) (ha : PA X (e :: es) t)
    (hbase : attributeBase o name X.env (eval o X.env) = eval o X.env := by rfl)
    (hfew : ((backTo cpos (starEach (e :: es) X.env)).all (fun x => !x.1) && (backToKw cpos (keywordEach [] X.env)).all (fun x => x.1.isSome)
      && decide ((e :: es).length + ([] : List Keyword).length + (if ([] : List Keyword).isEmpty then 0 else 1) < 30)) = true := by rfl)
    (hline : (apos.endLine == cpos.line) = true := by rfl) (hs : starEach (e :: es) X.env = (false, eval e X.env) :: starEach es X.env := by rfl) (hplain : (backTo cpos (starEach es X.env)).any (·.1) = false := by rfl) :
    PE X (.Call (.Attribute o name apos) (e :: es) [] cpos) (tBM X.K T r to t) := by
  intro pins s σ H Q I h
  refine wpAny_Call_method_late hbase hfew hline rfl (thn (ho pins s σ H _ I h) fun v s1 ⟨x, H1, I1, r1, ty, q1⟩ => ?_)
  obtain ⟨h1, h2⟩ := tyV_is I1 r1 ty
  refine ⟨T, id, pa, slot, hty, h1, h2, ?_⟩
  have hA := ha cpos pins s1 σ H1 _ I1 q1
  rw [hs] at hA ⊢
  refine Calls.callWith_builtin (by show (false || (backTo cpos (starEach es X.env)).any (·.1)) = false; rw [hplain] <;> rfl) (Calls.evalArgs_plain ?_)
  exact thn hA fun us s2 ⟨vs, H2, I2, r2, q2⟩ => hm pins s2 σ H2 x vs v us Q I2 r1 r2 q2
end
end L2

namespace L2
open PySem PySem.Spec PyProof.Rows

def MtM (X : Cx) (id : String) (r : V → List V → Hp → VK → Prop) : Prop :=
  ∀ (pins : List (Addr × Obj)) (s : Shared) (σ : St) (H : Hp) (x : V) (xs : List V) (v : Value) (us : List Value) (Q : VK), Inv X pins σ H s → RelV x v → Vals xs us → r x xs H Q →
    wpAny (model X.prog X.w) X.A (call (.builtin id) (v :: us)) (EP X pins σ Q) X.xe s

theorem Vals.one : ∀ {x : V} {us : List Value}, Vals [x] us → ∃ u, us = [u] ∧ RelV x u
  | _, _, .cons r .nil => ⟨_, rfl, r⟩
theorem Vals.zero : ∀ {us : List Value}, Vals [] us → us = []
  | _, .nil => rfl
theorem Vals.dropLast {xs : List V} {us : List Value} (h : Vals xs us) : Vals xs.dropLast us.dropLast := by
  induction h with
  | nil => exact .nil
  | cons r t ih =>
    cases t with
    | nil => exact .nil
    | cons q t' => exact .cons r ih
theorem Vals.eraseIdx : ∀ {xs : List V} {us : List Value} (i : Nat), Vals xs us → Vals (xs.eraseIdx i) (us.eraseIdx i)
  | _, _, _, .nil => .nil
  | _, _, 0, .cons _ t => t
  | _, _, i + 1, .cons r t => .cons r (Vals.eraseIdx i t)
theorem Vals.rep {xs : List V} {us : List Value} (h : Vals xs us) : ∀ k : Nat, Vals (List.replicate k xs).flatten (List.replicate k us).flatten
  | 0 => .nil
  | k + 1 => by
    rw [List.replicate_succ, List.replicate_succ, List.flatten_cons, List.flatten_cons]
    exact Vals.append h (Vals.rep h k)
theorem erase_last {α : Type} (l : List α) : l.eraseIdx (l.length - 1) = l.dropLast := by
  induction l with
  | nil => rfl
  | cons a r ih =>
    cases r with
    | nil => rfl
    | cons b r =>
      have e : (a :: b :: r).length - 1 = ((b :: r).length - 1) + 1 := by
        have h1 : (a :: b :: r).length = r.length + 2 := rfl
        have h2 : (b :: r).length = r.length + 1 := rfl
        omega
      rw [e, List.eraseIdx_cons_succ, ih]
      all_goals rfl
theorem len_erase {α : Type} : ∀ (l : List α) (i : Nat), (l.eraseIdx i).length ≤ l.length
  | [], _ => Nat.le_refl _
  | _ :: _, 0 => Nat.le_succ _
  | _ :: r, i + 1 => Nat.succ_le_succ (len_erase r i)
theorem foldl_rep (its : List Value) : ∀ (k : Nat) (acc : List Value),
    List.foldl (fun x1 x2 => x1 ++ x2) acc.toArray (List.replicate k its.toArray) = (acc ++ (List.replicate k its).flatten).toArray
  | 0, acc => by simp
  | k + 1, acc => by
    have e : acc.toArray ++ its.toArray = (acc ++ its).toArray := by simp
    have e2 : (acc ++ its) ++ (List.replicate k its).flatten = acc ++ (List.replicate (k + 1) its).flatten := by
      rw [List.replicate_succ, List.flatten_cons, List.append_assoc]
    rw [← e2, ← foldl_rep its k (acc ++ its), ← e, List.replicate_succ, List.foldl_cons]

section
variable {X : Cx} {pins : List (Addr × Obj)} {σ : St} {H : Hp} {s : Shared} {l b : Addr} {xs ys zs : List V}

theorem Inv.lset {its its' : List Value} {n : Nat} {f : Array Value → Array Value} {t' : Nat} (I : Inv X pins σ H s) (hH : H l = some (.lst xs))
    (e : s.heap.get? l = some { cls := .type "list", data := .seq its.toArray n }) (hf : f its.toArray = its'.toArray) (hv : Vals ys its') (hz : ys.length ≤ sizeLine) :
    Inv X pins σ (upd H l (.lst ys)) { s with heap := s.heap.update l (Obj.mapSeq f), toks := t' } := by
  have q := PySem.IsL.update e f
  rw [hf] at q
  refine I.write (x := l) (e := l) (by rw [hH]; exact trivial) (.inl rfl) (fun b' u hb hu => (Heap.get?_update_other s.heap (Obj.mapSeq f) (Ne.symm hb)).trans hu) ⟨_, q⟩ ?_
  exact ⟨hz, its', _, hv, q⟩
theorem Inv.lnew {its : List Value} {t' : Nat} (I : Inv X pins σ H s) (hv : Vals ys its) (hz : ys.length ≤ sizeLine) :
    Inv X pins σ (upd H s.heap.objs.size (.lst ys)) { s with heap := s.heap.push { cls := .type "list", data := .seq its.toArray }, toks := t' } :=
  I.laid (fun _ _ q => Heap.get?_push_of_some _ q) (Nat.le_refl _) ⟨hz, its, 0, hv, Heap.get?_push_size _ rfl⟩
theorem Inv.fresh (I : Inv X pins σ H s) : H s.heap.objs.size = none := I.hok.fresh (Nat.le_refl _)
theorem Inv.lstM (I : Inv X pins σ H s) (hH : H l = some (.lst xs)) : xs.length ≤ sizeLine ∧ ∃ (its : List Value) (n : Nat), Vals xs its ∧ xs.length = its.length ∧ s.heap.get? l = some { cls := .type "list", data := .seq its.toArray n } := by
  obtain ⟨z, its, n, r, e⟩ := I.hok l _ hH
  exact ⟨z, its, n, r, r.length, e⟩

theorem notLongL {n : Nat} (h : n ≤ sizeLine) : Builtin.List.listTooLong n = false := by
  unfold Builtin.List.listTooLong
  exact decide_eq_false (by omega)
end

section
variable {X : Cx}

def rAppend : V → List V → Hp → VK → Prop := fun x vs H Q => ∃ l xs y, x = .ref l ∧ vs = [y] ∧ H l = some (.lst xs) ∧ xs.length < sizeLine ∧ Q .non (upd H l (.lst (xs ++ [y])))
theorem mt_append : MtM X "list.append" rAppend := by
  intro pins s σ H x vs v us Q I rx rv h
  obtain ⟨l, xs, y, rfl, rfl, hH, hz, q⟩ := h
  cases rx
  obtain ⟨u, rfl, ru⟩ := rv.one
  obtain ⟨z, its, n, r, hl, e⟩ := I.lstM hH
  refine call_meets F.slot_list_append ⟨_, e, rfl⟩ F.entry_list_append (F.args_list_append_2 _ _) (PySem.list_append l its.toArray n u (by rw [List.size_toArray]; omega)) ⟨e, ?_⟩
  refine ⟨.non, _, I.lset (its' := its ++ [u]) hH e (by simp) (r.append (.cons ru .nil)) ?_, rfl, q⟩
  rw [List.length_append, List.length_singleton]
  omega

def rExtend : V → List V → Hp → VK → Prop := fun x vs H Q => ∃ l b xs zs, x = .ref l ∧ vs = [.ref b] ∧ H l = some (.lst xs) ∧ H b = some (.lst zs) ∧ xs.length + zs.length ≤ sizeLine ∧ Q .non (upd H l (.lst (xs ++ zs)))
theorem mt_extend : MtM X "list.extend" rExtend := by
  intro pins s σ H x vs v us Q I rx rv h
  obtain ⟨l, b, xs, zs, rfl, rfl, hH, hB, hz, q⟩ := h
  cases rx
  obtain ⟨u, rfl, ru⟩ := rv.one
  cases ru
  obtain ⟨z, its, n, r, hl, e⟩ := I.lstM hH
  obtain ⟨z2, its2, n2, r2, hl2, e2⟩ := I.lstM hB
  have hsz : its.toArray.size + its2.toArray.size ≤ sizeLine := by rw [List.size_toArray, List.size_toArray]; omega
  have hlong : ¬ (!its.toArray.isEmpty && Builtin.List.listTooLong (its.toArray.size + its2.toArray.size)) = true := by
    rw [notLongL hsz, Bool.and_false]
    exact Bool.false_ne_true
  refine call_meets F.slot_list_extend ⟨_, e, rfl⟩ F.entry_list_extend (F.args_list_extend_2 _ _)
    (AutoSeq1.list_extend_list_list_0 l its.toArray n b its2.toArray n2 hlong (by rw [List.size_toArray]; omega) (by omega)) ⟨e, e2, ?_⟩
  refine ⟨.non, _, I.lset (its' := its ++ its2) hH e (by simp) (r.append r2) ?_, rfl, q⟩
  rw [List.length_append]
  omega

def rPop : V → List V → Hp → VK → Prop := fun x vs H Q => ∃ l xs y, x = .ref l ∧ vs = [] ∧ H l = some (.lst xs) ∧ xs[xs.length - 1]? = some y ∧ Q y (upd H l (.lst xs.dropLast))
theorem mt_pop : MtM X "list.pop" rPop := by
  intro pins s σ H x vs v us Q I rx rv h
  obtain ⟨l, xs, y, rfl, rfl, hH, hy, q⟩ := h
  cases rx
  have hus := rv.zero
  subst hus
  obtain ⟨z, its, n, r, hl, e⟩ := I.lstM hH
  obtain ⟨u, hu, ru⟩ := r.get hy
  have hy' : its.toArray[its.toArray.size - 1]? = some u := by
    show its.toArray[its.length - 1]? = some u
    rw [← Array.getElem?_toList, ← hl]
    exact hu
  refine call_meets F.slot_list_pop ⟨_, e, rfl⟩ F.entry_list_pop (F.args_list_pop_1 _) (MeetsSeq.list_pop_last l its.toArray n u hy' (by rw [List.size_toArray]; omega)) ⟨e, ?_⟩
  refine ⟨y, _, I.lset (its' := its.dropLast) hH e ?_ r.dropLast ?_, ru, q⟩
  · show its.toArray.eraseIdxIfInBounds (its.toArray.size - 1) = its.dropLast.toArray
    rw [List.size_toArray, List.eraseIdxIfInBounds_toArray, erase_last]
  · rw [List.length_dropLast]
    omega

def rPopAt : V → List V → Hp → VK → Prop := fun x vs H Q => ∃ l xs i k y, x = .ref l ∧ vs = [.int i] ∧ H l = some (.lst xs) ∧ -(2 ^ 63) ≤ i ∧ i < 2 ^ 63 ∧ seqIndex? i xs.length = some k ∧ xs[k]? = some y ∧ Q y (upd H l (.lst (xs.eraseIdx k)))
def rReverse : V → List V → Hp → VK → Prop := fun x vs H Q => ∃ l xs, x = .ref l ∧ vs = [] ∧ H l = some (.lst xs) ∧ Q .non (upd H l (.lst xs.reverse))
def rClear : V → List V → Hp → VK → Prop := fun x vs H Q => ∃ l xs, x = .ref l ∧ vs = [] ∧ H l = some (.lst xs) ∧ Q .non (upd H l (.lst []))
def rCat : R2 := fun x y H Q => ∃ l b xs zs, x = .ref l ∧ y = .ref b ∧ H l = some (.lst xs) ∧ H b = some (.lst zs) ∧ xs.length + zs.length ≤ sizeLine ∧ ∀ p, H p = none → Q (.ref p) (upd H p (.lst (xs ++ zs)))
theorem op_cat : OpR X (binaryOp .Add) rCat := by
  intro pins s σ H x y v u Q I rx ry h
  obtain ⟨l, b, xs, zs, rfl, rfl, hH, hB, hz, q⟩ := h
  cases rx
  cases ry
  obtain ⟨z, its, n, r, hl, e⟩ := I.lstM hH
  obtain ⟨z2, its2, n2, r2, hl2, e2⟩ := I.lstM hB
  refine PySem.P.add_list e e2 ?_ (by rw [List.size_toArray, List.size_toArray]; omega)
  have ea : its.toArray ++ its2.toArray = (its ++ its2).toArray := by simp
  rw [ea]
  exact ⟨.ref _, _, I.lnew (t' := s.toks) (r.append r2) (by rw [List.length_append]; omega), rfl, q _ I.fresh⟩
def rRep : R2 := fun x y H Q => ∃ l k xs, x = .ref l ∧ y = .int k ∧ H l = some (.lst xs) ∧ -(2 ^ 63) ≤ k ∧ k < 2 ^ 63 ∧ xs.length * k.toNat ≤ sizeLine ∧
  ∀ p, H p = none → Q (.ref p) (upd H p (.lst (List.replicate k.toNat xs).flatten))
theorem len_rep {α : Type} (xs : List α) (k : Nat) : (List.replicate k xs).flatten.length = k * xs.length := by
  induction k with
  | zero => simp
  | succ k ih => rw [List.replicate_succ, List.flatten_cons, List.length_append, ih, Nat.succ_mul, Nat.add_comm]
theorem op_rep : OpR X (binaryOp .Mult) rRep := by
  intro pins s σ H x y v u Q I rx ry h
  obtain ⟨l, k, xs, rfl, rfl, hH, h1, h2, hz, q⟩ := h
  cases rx
  obtain ⟨t, rfl⟩ := ry
  obtain ⟨z, its, n, r, hl, e⟩ := I.lstM hH
  have hlen : its.toArray.size * k.toNat ≤ sizeLine := by rw [List.size_toArray, ← hl]; exact hz
  have hcap : ¬ its.toArray.size * k.toNat > (2 ^ 63 - 1) / 8 := by
    have : (sizeLine : Nat) ≤ (2 ^ 63 - 1) / 8 := by decide
    omega
  have hfit : ¬ (!Builtin.List.listFitsIndex k) = true := by
    rw [fitsIndex_both h1 h2]
    exact Bool.false_ne_true
  have hlong : ¬ Builtin.List.listTooLong (its.toArray.size * k.toNat) = true := by
    rw [notLongL hlen]
    exact Bool.false_ne_true
  have hnew : List.foldl (fun x1 x2 => x1 ++ x2) #[] (List.replicate (if its.toArray.isEmpty = true then 0 else k.toNat) its.toArray) = (List.replicate k.toNat its).flatten.toArray := by
    have f0 : ∀ m : Nat, List.foldl (fun x1 x2 => x1 ++ x2) #[] (List.replicate m its.toArray) = (List.replicate m its).flatten.toArray := fun m => by
      have := foldl_rep its m []
      rw [List.nil_append] at this
      exact this
    rw [f0]
    cases its with
    | nil => simp
    | cons a r' => rw [if_neg (by simp)]
  refine wpAny_binaryOp_repeat_ref (T := "list") (U := "int") (by decide) ⟨_, e, rfl⟩ (fun s' => typeIs_int s' k t) noFill_list_mul F.fills_int_mul F.slot_int_rmul repeat_list F.slot_int_index.lookup
    (call_meets F.slot_int_rmul (typeIs_int s k t) F.entry_int_rmul (F.args_int_rmul_2 _ _) (int___rmul___int_list k t l its.toArray n)
      ⟨e, rfl, ⟨_, e, rfl⟩, call_meets F.slot_list_mul ⟨_, e, rfl⟩ F.entry_list_mul (F.args_list_mul_2 _ _) (AutoListH.list___mul___list_int_3 l its.toArray n k t hfit hcap hlong) ⟨e, ?_⟩⟩)
  rw [hnew]
  exact ⟨.ref _, _, I.lnew (t' := s.toks) (r.rep k.toNat) (by rw [len_rep, Nat.mul_comm]; exact hz), rfl, q _ I.fresh⟩

end

section
variable {prog : Program} {w : World} {A : Around} {E : Value → Shared → Prop} {s : Shared}
set_option maxRecDepth 100000 in
end

section
variable {X : Cx}
end
end L2

namespace Att
open PySem PySem.W PySem.Calls PyProof.Rows

theorem ints_of_wellAll {P : Params} {h : Heap} : ∀ (ns : List Int) (vs : List Value), WellAll P h vs (ns.map WData.int) → IntsAre vs ns := by
  intro ns
  induction ns with
  | nil =>
    intro vs w
    rw [List.map_nil] at w
    cases w
    exact .nil
  | cons n ns ih =>
    intro vs w
    rw [List.map_cons] at w
    cases w with
    | cons a b =>
      cases a
      exact .cons _ _ (ih _ b)

theorem script_of {l : OpenLaw} {n : Nat} (hn : l.most = some n) {P : Params} {h : Heap} {args : List WData} {vals : List Value}
    (hpre : l.row.toRowW.claim.pre args = true) (hwl : WellAll P h vals args) :
    ∃ a vs ns, vals = [Value.ref a] ∧ args = [WData.list (ns.map WData.int)] ∧ h.get? a = some { cls := .type "list", data := .seq vs.toArray } ∧ IntsAre vs ns ∧ ns.length ≤ n := by
  have hsh : WShape.hasAll [] args [.list .int] = true := (pre_splitW hpre).1
  have hc : l.pre.holds [] { args := args } = true := (pre_splitW hpre).2
  obtain ⟨d, r, rfl, h1, h2⟩ := hasAllW_cons hsh
  obtain rfl := hasAllW_nil h2
  obtain ⟨xs, rfl, h3⟩ := hasW_list h1
  obtain ⟨ns, rfl⟩ := items_int h3
  have hlen : ns.length ≤ n := by
    unfold OpenLaw.pre at hc
    have h4 : (WTm.not (.lt (.lit (.int (n : Int))) (.len (.arg 0)))).holds [] { args := [.list (ns.map .int)] } = true := by
      have h4 := (holds_andW hc).1
      rw [hn] at h4
      exact h4
    have h5 := condW_of h4 (w_not (w_lt w_lit (w_len_list (w_arg rfl))))
    rw [List.length_map] at h5
    refine Nat.le_of_not_lt fun q => ?_
    have q' : (n : Int) < ((ns.length : Nat) : Int) := by omega
    first
      | (rw [decide_eq_true q'] at h5; exact absurd h5 (by decide))
      | (simp at h5; omega)
  cases hwl with
  | cons w1 w2 =>
    cases w2
    cases w1 with
    | list ho hall => exact ⟨_, _, ns, rfl, rfl, ho, ints_of_wellAll ns _ hall, hlen⟩

theorem post_true (l : OpenLaw) (args : List WData) : l.row.toRowW.claim.post args (.bool true) args = true :=
  postW_of (r := l.row.toRowW) (X := (true == true))
    (show WShape.has [] (.bool true) .bool = true by first | rfl | decide | simp [WShape.has, WShape.arms, WShape.armsAll])
    (show (WTm.eq .res (.lit (.bool true))).value [] { args := args, res := some (.bool true), after := args } = some (.bool (true == true)) from w_eq_bool (w_res rfl) w_lit) rfl

theorem attach_call {l : OpenLaw} {n : Nat} {q : Program} {loose : List Str} {XP : (Str → Option Value) → Heap → Prop} {YP : World → Heap → Prop} {d : DefRec}
    (hn : l.most = some n) (hdf : d.params.defaults = [])
    (call : ∀ (w : World) (s₀ s₁ : Shared) (mg mb : Str → Option Value) (fa : Addr) (o : Obj) (pm cd doc : Value) (a : Addr) (vs : List Value) (ns : List Int),
      Ground q loose [] XP w s₀ mg mb s₁.heap → YP w s₁.heap →
      s₁.heap.get? fa = some o → o.data = .func (docDef d.name d.params d.body d.scope pm cd doc) → s₁.heap.CodeRec cd d.name → mg d.name = some (.ref fa) →
      s₁.heap.get? a = some { cls := .type "list", data := .seq vs.toArray } → IntsAre vs ns → ns.length ≤ n → s₁.gens = #[] →
      codeAny (model l.prog w) callerA (.call (.ref fa) ⟨[.ref a], []⟩) (fun r s' => r = .ok (.ret (.bool true)) ∧ OldK s₁.heap s'.heap ∧ s'.os = s₁.os ∧ AllBare s'.gens) s₁) :
    WalkO q loose XP YP l.row.toRowW d [] (fun f vs => PySem.call f vs) := by
  intro w s₀ s₁ mg mb G Y fa o pm cd doc dV kV ho hd hcd hD hmg hg args vals as hpre hlay hrd hwl hlo
  obtain rfl : dV = .none := Dflts.none hD hdf
  obtain rfl : kV = .none := Dflts.noKw hD
  obtain ⟨a, vs, ns, rfl, rfl, hobj, hints, hlen⟩ := script_of hn hpre hwl
  refine enter_call (codeAny_mono (call w s₀ s₁ mg mb fa o pm cd doc a vs ns G Y ho (fd_plain hd) hcd hmg hobj hints hlen hg) fun r s' hq => ?_)
  obtain ⟨rfl, h2, h3, h4⟩ := hq
  exact ⟨.inl ⟨.bool true, .bool true, [], rfl, fun _ => rfl, .bool true, post_true l _, fun _ => ⟨List.Pairwise.nil, fun _ hm => (nomatch hm)⟩⟩, h2, h3, h4⟩

section
variable {prog : Program} {w : World} {A : Around} {E : Value → Shared → Prop} {s : Shared} {K : Frag}

def noObjs (h : Heap) : Heap := { h with objs := #[] }
def ledger (h : Heap) (L d : Addr) : List (Addr × Obj) := (List.range h.objs.size).filterMap fun a => if a = L ∨ a = d then none else (h.get? a).map fun o => (a, o)
end
end Att

namespace L2
open PySem PySem.Spec PyProof.Rows

theorem vals_ints : ∀ {vs : List Value} {ns : List Int}, IntsAre vs ns → Vals (ns.map V.int) vs
  | _, _, .nil => .nil
  | _, _, .cons n t h => .cons ⟨t, rfl⟩ (vals_ints h)

def Only (H : Hp) : Prop := ∀ b, H b = none ∨ ∃ o xs, H b = some (.frz o (.lst xs))

end L2

namespace L2
open PySem PySem.Spec PyProof.Rows

abbrev KOf {K : PySem.W.Frag} {h : Heap} (_ : K.In h) : PySem.W.Frag := K

end L2


namespace L2
open PySem PySem.Spec PyProof.Rows

def inClass (s : Stmt) (j : Nat) : Stmt := match s with
  | .ClassDef _ _ _ body _ _ _ _ _ _ _ => body.getD j (.Pass ⟨0, 0, 0, 0⟩)
  | _ => .Pass ⟨0, 0, 0, 0⟩
def defArgs (s : Stmt) : Arguments := match s with
  | .FunctionDef _ a _ _ _ _ _ _ _ _ => a
  | _ => { posonlyargs := [], args := [], vararg := none, kwonlyargs := [], kw_defaults := [], kwarg := none, defaults := [] }
def defBody (s : Stmt) : List Stmt := match s with
  | .FunctionDef _ _ b _ _ _ _ _ _ _ => b
  | _ => []
def defScope (s : Stmt) : Scope := match s with
  | .FunctionDef _ _ _ _ _ _ sc _ _ _ => sc
  | _ => { kind := .function, names := [], isGenerator := false, isCoroutine := false }

abbrev CX0 : CXT := fun _ _ _ _ _ _ => False
abbrev E0 : XK := fun _ _ _ => False
structure Fun (K : PySem.W.Frag) (x qual : Str) (st : Stmt) (f : Addr) (fd : FuncData) : Prop where
  ex : ∃ (oc : Value) (od : Option Addr) (kV doc pm : Value) (an : Option Addr) (cdv ct : Value) (osl : Array (Option Value)),
    fd = PySem.W.fnOf x qual (defArgs st) (defBody st) (defScope st) .none kV doc pm an cdv ct ∧ K.lookup f = some ⟨oc, od, .func fd, osl⟩ ∧ PySem.W.codeIn K cdv qual = true
  kp : PySem.W.keepIn K (.ref f) = true
section
variable {P : Program} {w : World} {K : PySem.W.Frag} {mg : Str → Option Value} {base : Heap}
theorem Fun.ok {x qual : Str} {st : Stmt} {f : Addr} {fd : FuncData} {N ps : List Str} {k : Nat} {sp : Sp} (F : Fun K x qual st f fd) (S : FnScope N ps (defScope st)) (len : ∀ vs H Q E, sp vs H Q E → vs.length = ps.length)
    (hbody : ∀ (cdv : Value) (A : Around) (outer : List Env) (s : Shared) (H : Hp) (vs : List V) (Q : VK) (E : XK), Room k (A.deeper (envOfC qual (defScope st) s.heap.objs.size f cdv)) → sp vs H Q E →
      ∃ t, PSs (cxOf CX0 P w K mg base N qual (defScope st) f cdv A outer s H E).nox (defBody st) t ∧ t { nx := fun _ H' => Q .non H', rt := Q } (start N vs) H) : FnOk P w K mg base CX0 (k + 1) f fd ps sp := by
  obtain ⟨oc, od, kV, doc, pm, an, cdv, ct, osl, rfl, lk, hcd⟩ := F.ex
  refine fn_of lk hcd S len fun A outer s H vs Q E hr hsp => ?_
  obtain ⟨t, h, q⟩ := hbody cdv A outer s H vs Q E hr hsp
  exact ⟨t, h.nox, q⟩
theorem Fun.binds {x qual : Str} {st : Stmt} {f : Addr} {fd : FuncData} {ps : List Str} (F : Fun K x qual st f fd)
    (h : ∀ (kV doc pm : Value) (an : Option Addr) (cdv ct : Value) (us : List Value), us.length = ps.length → bindArgs (PySem.W.fnOf x qual (defArgs st) (defBody st) (defScope st) .none kV doc pm an cdv ct) ⟨us, []⟩ = pure (ps.zip us)) : Binds K fd ps [] := by
  obtain ⟨oc, od, kV, doc, pm, an, cdv, ct, osl, rfl, lk, hcd⟩ := F.ex
  exact .all (h kV doc pm an cdv ct)
theorem fun_mk {x qual : Str} {st : Stmt} {f : Addr} {oc : Value} {od an : Option Addr} {osl : Array (Option Value)} {kV doc pm cdv ct : Value} (l : K.lookup f = some ⟨oc, od, .func (PySem.W.fnOf x qual (defArgs st) (defBody st) (defScope st) .none kV doc pm an cdv ct), osl⟩)
    (c : PySem.W.codeIn K cdv qual = true) (k : PySem.W.keepIn K (.ref f) = true) : Fun K x qual st f (PySem.W.fnOf x qual (defArgs st) (defBody st) (defScope st) .none kV doc pm an cdv ct) := ⟨⟨oc, od, kV, doc, pm, an, cdv, ct, osl, rfl, l, c⟩, k⟩
end
theorem hu_of {A : Around} {k : Nat} (hr : Room k A) : A.units + 1 < cLine := Nat.lt_of_le_of_lt (Nat.add_le_add_left (by decide : 1 ≤ 64) _) hr.units
theorem small1000 {n : Nat} (h : n ≤ 1000) : n < sizeLine := Nat.lt_of_le_of_lt h (by decide)

section
variable {X : Cx}
theorem pv (i : Nat) {x : Str} {pos : Pos} (hN : X.N[i]? = some x := by rfl) (hv : Vis X.env.scope x := by first | exact Or.inl rfl | exact Or.inr (Or.inl rfl) | exact Or.inr (Or.inr rfl)) (hd : (x == ("__debug__" : Str)) = false := by decide)
    (hcd : (x == ("__classdict__" : Str)) = false := by decide) : PE X (.Name x pos) (tVar i) := pe_var hN hv hd hcd
end

theorem iteF {A B : Prop} (h : B) : if false = true then A else B := by
  rw [if_neg Bool.false_ne_true]
  exact h
theorem iteT {A B : Prop} (h : A) : if true = true then A else B := by
  rw [if_pos rfl]
  exact h
def Same (H H' : Hp) : Prop := ∀ b o, H b = some o → H' b = some o
theorem Same.refl (H : Hp) : Same H H := fun _ _ h => h
theorem Same.trans {H H1 H2 : Hp} (a : Same H H1) (b : Same H1 H2) : Same H H2 := fun c o h => b c o (a c o h)
theorem Same.seq {K : PySem.W.Frag} {H H' : Hp} {a : Addr} {xs : List V} (e : Same H H') (h : SqL K H a xs) : SqL K H' a xs := by
  rcases h with (h | ⟨o, h⟩) | h
  · exact .inl (.inl (e _ _ h))
  · exact .inl (.inr ⟨o, e _ _ h⟩)
  · exact .inr h

end L2

namespace L2
open PySem PySem.Spec PyProof.Rows

section
variable {κ : Type} [DecidableEq κ]
def valV (kvs : List (κ × V)) (k : κ) : Option V := (kvs.find? fun kv => decide (kv.1 = k)).map (·.2)
def putK (kvs : List (κ × V)) (k : κ) (v : V) : List (κ × V) :=
  if (kvs.any fun kv => decide (kv.1 = k)) = true then kvs.map (fun kv => if kv.1 = k then (kv.1, v) else kv) else kvs ++ [(k, v)]
def dropK (kvs : List (κ × V)) (k : κ) : List (κ × V) := kvs.filter fun kv => decide (kv.1 ≠ k)

theorem valV_nil {k : κ} : valV ([] : List (κ × V)) k = none := rfl
theorem valV_pos {p : κ × V} {r : List (κ × V)} {k : κ} (e : p.1 = k) : valV (p :: r) k = some p.2 := by simp [valV, List.find?_cons, e]
theorem valV_neg {p : κ × V} {r : List (κ × V)} {k : κ} (e : ¬ p.1 = k) : valV (p :: r) k = valV r k := by simp [valV, List.find?_cons, e]
theorem RelO.isSome_eq {o : Option V} {u : Option Value} (r : RelO o u) : o.isSome = u.isSome := by
  cases o with
  | none => cases u with
    | none => rfl
    | some _ => exact (show False from r).elim
  | some _ => cases u with
    | none => exact (show False from r).elim
    | some _ => rfl
theorem KV.val {kvs : List (κ × V)} {vs : List (κ × Value)} (r : KV kvs vs) (k : κ) : RelO (valV kvs k) (valueAt vs k) := by
  unfold KV at r
  induction r with
  | nil => exact True.intro
  | @cons p q ps qs h t ih =>
    obtain ⟨h1, h2⟩ := h
    by_cases e : p.1 = k
    · have e' : q.1 = k := h1.symm.trans e
      have b : valueAt (q :: qs) k = some q.2 := by simp [valueAt, List.find?_cons, e']
      rw [valV_pos e, b]; exact h2
    · have e' : ¬ q.1 = k := fun z => e (h1.trans z)
      have b : valueAt (q :: qs) k = valueAt qs k := by simp [valueAt, List.find?_cons, e']
      rw [valV_neg e, b]; exact ih
end


theorem kV_is {P : Program} {w : World} {k : Key} {u : Value} (r : RelV (kV k) u) : (mixKind P w).is k u = true := by
  cases k with
  | inl i => obtain ⟨t, e⟩ := (show ∃ t, u = Value.int i t from r); subst e; exact mixKind_int P w i t
  | inr x => obtain ⟨t, e⟩ := (show ∃ t, u = Value.str x t from r); subst e; exact mixKind_str P w x t
theorem items_are {P : Program} {w : World} : ∀ {ks : List Key} {us : List Value}, Vals (ks.map kV) us → ItemsAre (mixKind P w) ks us
  | [], _, r => by rw [List.map_nil] at r; cases r; exact .nil
  | k :: ks, _, r => by
    rw [List.map_cons] at r
    cases r with
    | cons h t => exact .cons (kV_is h) (items_are t)

abbrev KT (H : Hp) : List (List Key × V) → List (List Key × Addr × Value) → Prop := Paired fun p q => p.1 = q.1 ∧ H q.2.1 = some (.tup (p.1.map kV)) ∧ RelV p.2 q.2.2
section
variable {P : Program} {w : World} {H : Hp} {h : Heap} {a : Addr}
theorem key_of {ks : List Key} (ok : HOk P w H h) (e : H a = some (.tup (ks.map kV))) : (tupleKind (mixKind P w)).is h ks a := by
  obtain ⟨_, its, r, o, h1, h2, n, h3⟩ := (show ObjOk P w H h a (.tup (ks.map kV)) from ok a _ e)
  exact ⟨o, its.toArray, n, h1, h2, h3, by simpa using items_are r⟩
end

def DGet (H : Hp) (a : Addr) (y : V) (r : Option V) : Prop :=
  (∃ kvs k, Rd H a (.dK kvs) ∧ y = kV k ∧ r = valV kvs k) ∨ ∃ kvs k b, Rd H a (.dT kvs) ∧ y = .ref b ∧ H b = some (.tup (k.map kV)) ∧ r = valV kvs k
def DPut (H : Hp) (a : Addr) (y v : V) (H' : Hp) : Prop :=
  (∃ kvs k, H a = some (.dK kvs) ∧ y = kV k ∧ kvs.length < sizeLine ∧ H' = upd H a (.dK (putK kvs k v))) ∨
  ∃ kvs k b, H a = some (.dT kvs) ∧ y = .ref b ∧ H b = some (.tup (k.map kV)) ∧ kvs.length < sizeLine ∧ H' = upd H a (.dT (putK kvs k v))
section
variable {X : Cx} {pins : List (Addr × Obj)} {σ : St} {H : Hp} {s : Shared} {a : Addr} {y v : V} {u r : Value} {o : Option V} {A : Around} {E : Value → Shared → Prop}

theorem Inv.big (I : Inv X pins σ H s) : sysModules < s.heap.objs.size := by
  have h : mainGlobals < s.heap.objs.size := (I.mod.glob.keeps I.bk).lt
  exact Nat.lt_trans (by decide) h

end

section
variable {X : Cx} {pins : List (Addr × Obj)} {σ : St} {H : Hp} {s : Shared} {a : Addr} {kvs : List (Key × V)} {k : Key} {u : Value} {A : Around} {E : Value → Shared → Prop}
end


def NoSl (i : Expr) : Prop := ∀ ov iv, subscripted i false ov iv = operate [ov, iv] (getItem ov iv)
theorem subD_of {prog : Program} {w : World} {A : Around} {E : Value → Shared → Prop} {s : Shared} {env : Env} {value slice : Expr} {pos : Pos} {T id : String} {Q : Value → Shared → Prop}
    (hl : typeLookup (.type T) "__getitem__" = pure (some (.builtin id))) (hs : NoSl slice)
    (h : wpAny (model prog w) A (eval value env) (fun o s₁ => wpAny (model prog w) A (eval slice env) (fun i s₂ => s₂.TypeIs o T ∧ wpAny (model prog w) A (getItem o i) Q E s₂) E s₁) E s) :
    wpAny (model prog w) A (eval (.Subscript value slice pos) env) Q E s := by
  refine Subscript_ (wpAny_mono h (fun o s₁ h₁ => wpAny_mono h₁ (fun i s₂ h₂ => ?_) fun _ _ x => x) fun _ _ x => x)
  obtain ⟨hT, h₂⟩ := h₂
  unfold subscriptTail
  refine wpAny_bind ?_
  rw [getitemInPython_of_ne hT.not_modules]
  refine wpAny_bind (wpAny_specialOf hT hl ?_)
  have fin : wpAny (model prog w) A (subscripted slice false o i) (fun r s₃ => wpAny (model prog w) A (letTemporaryGo value o r >>= fun _ => pure r) Q E s₃) E s₂ := by
    rw [hs o i]
    exact wpAny_operating (wpAny_mono h₂ (fun r s₃ h₃ => wpAny_bind (wpAny_letTemporaryGo (wpAny_pure h₃))) fun _ _ x => x)
  first
    | exact wpAny_pure (wpAny_bind fin)
    | exact wpAny_bind (wpAny_pure (wpAny_bind fin))
    | exact wpAny_bind fin

def tDGet (td ty : TE) : TE := fun σ H Q => td σ H fun x H1 => ty σ H1 fun y H2 => ∃ a v, x = .ref a ∧ DGet H2 a y (some v) ∧ Q v H2
def tDIn (ty td : TE) : TE := fun σ H Q => ty σ H fun y H1 => td σ H1 fun x H2 => ∃ a o, x = .ref a ∧ DGet H2 a y o ∧ Q (.bl o.isSome) H2
def tDNotIn (ty td : TE) : TE := fun σ H Q => ty σ H fun y H1 => td σ H1 fun x H2 => ∃ a o, x = .ref a ∧ DGet H2 a y o ∧ Q (.bl (!o.isSome)) H2
def sDPut (td ty tv : TE) : TS := fun D σ H => tv σ H fun v H1 => td σ H1 fun x H2 => ty σ H2 fun y H3 => ∃ a H4, x = .ref a ∧ DPut H3 a y v H4 ∧ D.nx σ H4
def sDAug (td ty tv : TE) (rd : V → V → Hp → VK → Prop) : TS := fun D σ H => td σ H fun x H1 => ty σ H1 fun y H2 => ∃ a v, x = .ref a ∧ DGet H2 a y (some v) ∧
  tv σ H2 fun y2 H3 => rd v y2 H3 fun z H4 => ∃ H5, DPut H4 a y z H5 ∧ D.nx σ H5
def sDDel (td ty : TE) : TS := fun D σ H => td σ H fun x H1 => ty σ H1 fun y H2 => ∃ a kvs k, x = .ref a ∧ H2 a = some (.dK kvs) ∧ y = kV k ∧ (valV kvs k).isSome = true ∧ D.nx σ (upd H2 a (.dK (dropK kvs k)))

section
variable {X : Cx} {o i e value : Expr} {pos pos' tpos : Pos} {td ty tv : TE}
end


def tDNewK : TE := fun _ H Q => ∀ p, H p = none → Q (.ref p) (upd H p (.dK []))
def tDNewT : TE := fun _ H Q => ∀ p, H p = none → Q (.ref p) (upd H p (.dT []))
section
variable {X : Cx} {pos : Pos}
end

def tPairs : List (TE × TE) → St → Hp → (List (V × V) → Hp → Prop) → Prop
  | [], _, H, Q => Q [] H
  | (tk, tv) :: r, σ, H, Q => tk σ H fun x H1 => tv σ H1 fun y H2 => tPairs r σ H2 fun ps H3 => Q ((x, y) :: ps) H3
abbrev VV : List (V × V) → List (Value × Value) → Prop := Paired fun p q => RelV p.1 q.1 ∧ RelV p.2 q.2
def PPs (X : Cx) (pos : Pos) (keys : List (Option Expr)) (values : List Expr) (trs : List (TE × TE)) : Prop :=
  ∀ (pins : List (Addr × Obj)) (s : Shared) (σ : St) (H : Hp) (Q : List (V × V) → Hp → Prop), Inv X pins σ H s → tPairs trs σ H Q →
    wpAny (model X.prog X.w) X.A (evalPairs (pairTrees keys values X.env pos)) (fun vs s' => ∃ ps H', Inv X pins σ H' s' ∧ VV ps vs ∧ Q ps H') X.xe s
def mergeK (kvs more : List (Key × V)) : List (Key × V) := more.foldl (fun acc kv => putK acc kv.1 kv.2) kvs
def tDisp (trs : List (TE × TE)) : TE := fun σ H Q => ∀ p, H p = none → tPairs trs σ (upd H p (.dK [])) fun ps H2 => H2 p = some (.dK []) ∧ ∃ kvs : List (Key × V), ps = kvs.map (fun kv => (kV kv.1, kv.2)) ∧ kvs.length ≤ 15 ∧ Q (.ref p) (upd H2 p (.dK (mergeK [] kvs)))
structure M1 (X : Cx) (o : Expr) (m : Str) (apos : Pos) (e : Expr) (cpos : Pos) : Prop where
  base : attributeBase o m X.env (eval o X.env) = eval o X.env
  few : ((backTo cpos (starEach [e] X.env)).all (fun x => !x.1) && (backToKw cpos (keywordEach [] X.env)).all (fun x => x.1.isSome)
    && decide (([e] : List Expr).length + ([] : List Keyword).length + (if ([] : List Keyword).isEmpty then 0 else 1) < 30)) = true
  line : (apos.endLine == cpos.line) = true
  trees : backTo cpos (starEach [e] X.env) = [(false, eval e X.env)]
structure M2 (X : Cx) (o : Expr) (m : Str) (apos : Pos) (e f : Expr) (cpos : Pos) : Prop where
  base : attributeBase o m X.env (eval o X.env) = eval o X.env
  few : ((backTo cpos (starEach [e, f] X.env)).all (fun x => !x.1) && (backToKw cpos (keywordEach [] X.env)).all (fun x => x.1.isSome)
    && decide (([e, f] : List Expr).length + ([] : List Keyword).length + (if ([] : List Keyword).isEmpty then 0 else 1) < 30)) = true
  line : (apos.endLine == cpos.line) = true
  trees : backTo cpos (starEach [e, f] X.env) = [(false, eval e X.env), (false, eval f X.env)]

def IsD (H : Hp) (a : Addr) : Prop := (∃ kvs, Rd H a (.dK kvs)) ∨ ∃ kvs, Rd H a (.dT kvs)
section
variable {X : Cx} {pins : List (Addr × Obj)} {σ : St} {H : Hp} {s : Shared} {a : Addr} {y d : V} {u r : Value} {o : Option V} {A : Around} {E : Value → Shared → Prop}
end

def tDGet1 (td ty : TE) : TE := fun σ H Q => td σ H fun x H1 => ∃ a, x = .ref a ∧ IsD H1 a ∧ ty σ H1 fun y H2 => ∃ o, DGet H2 a y o ∧ Q (o.getD .non) H2
def tDGet2 (td ty tx : TE) : TE := fun σ H Q => td σ H fun x H1 => ∃ a, x = .ref a ∧ IsD H1 a ∧ ty σ H1 fun y H2 => tx σ H2 fun z H3 => ∃ o, DGet H3 a y o ∧ Q (o.getD z) H3
def tDPop1 (td ty : TE) : TE := fun σ H Q => td σ H fun x H1 => ∃ a, x = .ref a ∧ IsD H1 a ∧ ty σ H1 fun y H2 => ∃ kvs k v, H2 a = some (.dK kvs) ∧ y = kV k ∧ valV kvs k = some v ∧ Q v (upd H2 a (.dK (dropK kvs k)))
def tDPop2 (td ty tx : TE) : TE := fun σ H Q => td σ H fun x H1 => ∃ a, x = .ref a ∧ IsD H1 a ∧ ty σ H1 fun y H2 => tx σ H2 fun z H3 => ∃ kvs k, H3 a = some (.dK kvs) ∧ y = kV k ∧
  (∀ v, valV kvs k = some v → Q v (upd H3 a (.dK (dropK kvs k)))) ∧ (valV kvs k = none → Q z H3)
section
variable {X : Cx} {o e f : Expr} {apos cpos : Pos} {td ty tx : TE}
end

section
variable {X : Cx} {pins : List (Addr × Obj)} {σ : St} {H : Hp} {s : Shared} {a : Addr} {kvs : List (Key × V)} {A : Around} {E : Value → Shared → Prop}
end


section
variable {X : Cx} {pins : List (Addr × Obj)} {σ : St} {H : Hp} {s : Shared} {a : Addr} {y : V} {u : Value} {A : Around} {E : Value → Shared → Prop}
end
end L2

namespace L2
open PySem PySem.Spec PyProof.Rows
section
variable {X : Cx}
end
section
variable {κ : Type} [DecidableEq κ]
end
end L2

set_option Elab.async false
set_option linter.all false
set_option maxRecDepth 100000
namespace L2
open PySem PySem.Spec PyProof.Rows

def clOf (cells : List (Str × Addr)) : List (Str × NameKind) → List (Str × Addr) → List (Str × Addr)
  | [], acc => acc
  | (n, k) :: r, acc => if (k == NameKind.free) = true then (match cells.lookup n with | some c => clOf cells r ((n, c) :: acc) | none => clOf cells r acc) else clOf cells r acc
theorem closureFor_eq {scope : Scope} {env : Env} (h : ∀ y ∈ scope.names, y.2 = .free → ∃ c, env.cells.lookup y.1 = some c) : closureFor scope env = pure (clOf env.cells scope.names []) := by
  have all : ∀ (l : List (Str × NameKind)) (acc : List (Str × Addr)), (∀ y ∈ l, y.2 = .free → ∃ c, env.cells.lookup y.1 = some c) →
      (forIn l acc fun (x : Str × NameKind) (r : List (Str × Addr)) => if (x.2 == NameKind.free) = true then do
        let a ← cellOf env x.1
        pure (ForInStep.yield ((x.1, a) :: r)) else pure (ForInStep.yield r) : Sem (List (Str × Addr))) = pure (clOf env.cells l acc) := by
    intro l
    induction l with
    | nil => intro acc _; rfl
    | cons x r ih =>
      intro acc hl
      obtain ⟨n, k⟩ := x
      have ih' := fun acc => ih acc fun y hy => hl y (List.mem_cons_of_mem _ hy)
      rw [List.forIn_cons]
      by_cases hk : (k == NameKind.free) = true
      · have hk' : k = NameKind.free := by simpa using hk
        obtain ⟨c, hc⟩ := hl (n, k) List.mem_cons_self hk'
        have hc' : env.cells.lookup n = some c := hc
        simp only [hk, if_true]
        have e1 : cellOf env n = pure c := by unfold cellOf; rw [hc']
        rw [e1]
        simp only [pure_bind]
        rw [ih']
        simp only [clOf, hk, if_true, hc']
      · simp only [hk, if_false, pure_bind, Bool.false_eq_true]
        rw [ih']
        simp only [clOf, hk, if_false, Bool.false_eq_true]
  have := all scope.names [] h
  simp only [closureFor]
  first
    | exact this
    | (simp only [bind_pure]; exact this)
    | simpa using this
theorem clOf_sub {cells : List (Str × Addr)} : ∀ {names : List (Str × NameKind)} {acc : List (Str × Addr)}, (∀ y c, acc.lookup y = some c → cells.lookup y = some c) → ∀ y c, (clOf cells names acc).lookup y = some c → cells.lookup y = some c
  | [], _, h, y, c, e => h y c e
  | (n, k) :: r, acc, h, y, c, e => by
    unfold clOf at e
    split at e
    · cases hn : cells.lookup n with
      | none => rw [hn] at e; exact clOf_sub h y c e
      | some c' =>
        rw [hn] at e
        refine clOf_sub (fun y c q => ?_) y c e
        rw [List.lookup_cons] at q
        cases hy : y == n with
        | true =>
          rw [hy] at q
          have q' : c' = c := Option.some.inj q
          have hyn : y = n := by simpa using hy
          rw [hyn, hn, q']
        | false => rw [hy] at q; exact h y c q
    · exact clOf_sub h y c e
theorem clOf_has {cells : List (Str × Addr)} : ∀ {names : List (Str × NameKind)} {acc : List (Str × Addr)} {y : Str} {c : Addr}, cells.lookup y = some c → ((acc.lookup y).isSome = true ∨ names.lookup y = some .free) → ((clOf cells names acc).lookup y).isSome = true
  | [], acc, y, c, _, h => by
    rcases h with h | h
    · exact h
    · simp at h
  | (n, k) :: r, acc, y, c, hc, h => by
    unfold clOf
    have hyn : ∀ q : (y == n) = true, y = n := fun q => by simpa using q
    split
    · rename_i hk
      cases hn : cells.lookup n with
      | none =>
        refine clOf_has (c := c) hc ?_
        rcases h with h | h
        · exact .inl h
        · rw [List.lookup_cons] at h
          cases hy : y == n with
          | true =>
            rw [hyn hy, hn] at hc; cases hc
          | false => rw [hy] at h; exact .inr h
      | some c' =>
        refine clOf_has (c := c) hc ?_
        rw [List.lookup_cons]
        cases hy : y == n with
        | true => exact .inl rfl
        | false =>
          rcases h with h | h
          · exact .inl h
          · rw [List.lookup_cons, hy] at h; exact .inr h
    · rename_i hk
      refine clOf_has (c := c) hc ?_
      rcases h with h | h
      · exact .inl h
      · rw [List.lookup_cons] at h
        cases hy : y == n with
        | true =>
          rw [hy] at h
          have : k = NameKind.free := Option.some.inj h
          exact absurd (by simpa using this) hk
        | false => rw [hy] at h; exact .inr h
theorem clOf_get {cells : List (Str × Addr)} {names : List (Str × NameKind)} {y : Str} {c : Addr} (hc : cells.lookup y = some c) (h : names.lookup y = some .free) : (clOf cells names []).lookup y = some c := by
  obtain ⟨c', e⟩ := Option.isSome_iff_exists.mp (clOf_has (acc := []) hc (.inr h))
  have := clOf_sub (acc := []) (fun _ _ q => by simp at q) y c' e
  rw [hc] at this
  rw [e, this]

theorem relab_free {env : Env} : ∀ {names : List (Str × NameKind)} {x : Str}, names.lookup x = some .free →
    ((names.map fun (n, k) => if (k == NameKind.free && env.scope.kind == .function && env.kindOf n == some .cell) then (n, NameKind.cell) else (n, k)).lookup x = some .cell ∨
     (names.map fun (n, k) => if (k == NameKind.free && env.scope.kind == .function && env.kindOf n == some .cell) then (n, NameKind.cell) else (n, k)).lookup x = some .free)
  | [], _, h => by simp at h
  | (n, k) :: r, x, h => by
    have ih := @relab_free env r x
    show List.lookup x ((if (k == NameKind.free && env.scope.kind == .function && env.kindOf n == some .cell) = true then (n, NameKind.cell) else (n, k)) :: _) = _ ∨ List.lookup x ((if (k == NameKind.free && env.scope.kind == .function && env.kindOf n == some .cell) = true then (n, NameKind.cell) else (n, k)) :: _) = _
    cases hx : x == n with
    | true =>
      simp only [List.lookup_cons, hx] at h
      cases h
      by_cases hc : (NameKind.free == NameKind.free && env.scope.kind == .function && env.kindOf n == some .cell) = true
      · rw [if_pos hc]; simp only [List.lookup_cons, hx]; exact .inl trivial
      · rw [if_neg hc]; simp only [List.lookup_cons, hx]; exact .inr trivial
    | false =>
      simp only [List.lookup_cons, hx] at h
      by_cases hc : (k == NameKind.free && env.scope.kind == .function && env.kindOf n == some .cell) = true
      · rw [if_pos hc]; simp only [List.lookup_cons, hx]; exact ih h
      · rw [if_neg hc]; simp only [List.lookup_cons, hx]; exact ih h
theorem relab_back {env : Env} : ∀ {names : List (Str × NameKind)} {x : Str}, (∀ y ∈ names, y.2 ≠ .cell) →
    ((names.map fun (n, k) => if (k == NameKind.free && env.scope.kind == .function && env.kindOf n == some .cell) then (n, NameKind.cell) else (n, k)).lookup x = some .cell ∨
     (names.map fun (n, k) => if (k == NameKind.free && env.scope.kind == .function && env.kindOf n == some .cell) then (n, NameKind.cell) else (n, k)).lookup x = some .free) → names.lookup x = some .free
  | [], _, _, h => by simp at h
  | (n, k) :: r, x, hn, h => by
    have ih := @relab_back env r x (fun y hy => hn y (List.mem_cons_of_mem _ hy))
    have h' : List.lookup x ((if (k == NameKind.free && env.scope.kind == .function && env.kindOf n == some .cell) = true then (n, NameKind.cell) else (n, k)) :: (r.map fun (n, k) => if (k == NameKind.free && env.scope.kind == .function && env.kindOf n == some .cell) then (n, NameKind.cell) else (n, k))) = some .cell ∨ List.lookup x ((if (k == NameKind.free && env.scope.kind == .function && env.kindOf n == some .cell) = true then (n, NameKind.cell) else (n, k)) :: (r.map fun (n, k) => if (k == NameKind.free && env.scope.kind == .function && env.kindOf n == some .cell) then (n, NameKind.cell) else (n, k))) = some .free := h
    cases hx : x == n with
    | true =>
      by_cases hc : (k == NameKind.free && env.scope.kind == .function && env.kindOf n == some .cell) = true
      · have hk : k = NameKind.free := by
          rw [Bool.and_eq_true, Bool.and_eq_true] at hc
          simpa using hc.1.1
        rw [List.lookup_cons, hx, hk]
      · rw [if_neg hc] at h'
        simp only [List.lookup_cons, hx] at h' ⊢
        rcases h' with z | z
        · exact absurd (Option.some.inj z) (hn (n, k) List.mem_cons_self)
        · exact z
    | false =>
      by_cases hc : (k == NameKind.free && env.scope.kind == .function && env.kindOf n == some .cell) = true
      · rw [if_pos hc] at h'
        simp only [List.lookup_cons, hx] at h' ⊢
        exact ih h'
      · rw [if_neg hc] at h'
        simp only [List.lookup_cons, hx] at h' ⊢
        exact ih h'

def cxComp (X : Cx) (scope : Scope) (C : Addr) (N : List Str) (s₀ : Shared) (H₀ : Hp) (fp : List Addr) : Cx :=
  { X with N := N, s₀ := s₀, H₀ := H₀, env := compEnvC scope (clOf X.env.cells scope.names []) C X.env, outer := X.stack, stack := X.stack, ex := fp, fn := fun _ => false, pn := [], xe := fun _ _ => False }
def cap (σ : St) (idx : List Nat) : St := idx.map fun j => σ.getD j none

structure CompNames (sc : Scope) (N0 : List Str) (scope : Scope) (x : Str) (ns : List Str) (idx : List Nat) : Prop where
  kind : scope.kind = .function
  cell : ∀ y ∈ scope.names, y.2 ≠ .cell
  loc : ∀ y ∈ scope.names, y.2 = .local → scope.names.lookup y.1 = some .local
  tgt : scope.names.lookup x = some .local
  nd : (x :: ns).Nodup
  from_ : ∀ y ∈ scope.names, y.2 = .free → (sc.names.lookup y.1 = some .cell ∨ sc.names.lookup y.1 = some .free)
  free : ∀ y ∈ ns, scope.names.lookup y = some .free
  ix : idx.map (fun j => N0[j]?) = ns.map some
def cnB (sc : Scope) (N0 : List Str) (scope : Scope) (x : Str) (ns : List Str) (idx : List Nat) : Bool :=
  decide (scope.kind = .function) && scope.names.all (fun y => decide (y.2 ≠ .cell)) && scope.names.all (fun y => decide (y.2 = .local → scope.names.lookup y.1 = some .local)) && decide (scope.names.lookup x = some .local) &&
  decide ((x :: ns).Nodup) && scope.names.all (fun y => decide (y.2 = .free → (sc.names.lookup y.1 = some .cell ∨ sc.names.lookup y.1 = some .free))) && ns.all (fun y => decide (scope.names.lookup y = some .free)) &&
  decide (idx.map (fun j => N0[j]?) = ns.map some)
theorem cn_of {sc : Scope} {N0 : List Str} {scope : Scope} {x : Str} {ns : List Str} {idx : List Nat} (h : cnB sc N0 scope x ns idx = true) : CompNames sc N0 scope x ns idx := by
  unfold cnB at h
  simp only [Bool.and_eq_true, List.all_eq_true, decide_eq_true_eq] at h
  obtain ⟨⟨⟨⟨⟨⟨⟨h1, h2⟩, h3⟩, h4⟩, h5⟩, h6⟩, h7⟩, h8⟩ := h
  exact ⟨h1, h2, h3, h4, h5, h6, h7, h8⟩

theorem mem_of_lookup' {names : List (Str × NameKind)} {y : Str} {k : NameKind} (h : names.lookup y = some k) : (y, k) ∈ names := PySem.mem_of_lookup h

section
variable {X : Cx} {pins : List (Addr × Obj)} {σ : St} {H : Hp} {s : Shared} {scope : Scope} {x : Str} {ns : List Str} {idx : List Nat} {fp : List Addr}
theorem CompNames.clos (N : CompNames X.env.scope X.N scope x ns idx) (ok : X.Ok) : closureFor scope X.env = pure (clOf X.env.cells scope.names []) :=
  closureFor_eq fun y hy hk => ok.has y.1 (N.from_ y hy hk)
theorem Inv.comp {h1 : Heap} {t' : Nat} {C D : Addr} (N : CompNames X.env.scope X.N scope x ns idx) (I : Inv X pins σ H s) (f2 : ∀ b ∈ fp, FpOk X pins H b) (fo : ∀ b ∈ fp, ∃ o, s.heap.get? b = some o)
    (hD : s.heap.objs.size ≤ D) (hC : s.heap.objs.size ≤ C) (hDC : D ≠ C) (old : ∀ b o, s.heap.get? b = some o → h1.get? b = some o) (hacc : h1.get? D = some { cls := .type "list", data := .seq #[] 0 })
    (hns : h1.Ns C fun _ => none) :
    Inv (cxComp X scope C (x :: ns) s H fp) [] (none :: cap σ idx) (upd H D (.lst [])) { s with heap := h1, toks := t' } := by
  have hDn : H D = none := I.hok.fresh hD
  have hCn : H C = none := I.hok.fresh hC
  have cne : ∀ y c, (clOf X.env.cells scope.names []).lookup y = some c → X.env.cells.lookup y = some c := clOf_sub (acc := []) (fun _ _ q => by simp at q)
  have clt : ∀ y c, X.env.cells.lookup y = some c → c < s.heap.objs.size := fun y c e => by
    obtain ⟨v, o, ho, _⟩ := I.cell y c e
    exact Heap.lt_size ho
  refine ⟨⟨I.ok.mod, N.kind, I.ok.glob, I.ok.blt, hC, fun y z c e1 e2 => ?_, fun y hy => ?_, fun y c hf _ => ?_, I.ok.hd, I.ok.frames, .inl rfl, fun b hb => ⟨?_, fun y c e => ?_⟩, I.bs, Nat.le_trans I.ok.bsz I.sz, fun b o e hb => ?_, fun b hb hz => ?_, I.stack, I.stkFree⟩,
    rfl, I.bare, ?_, ⟨_, hns, fun i y v e1 e2 e3 => ?_⟩, fun y c e => ?_, ?_, fun y c e => ?_, fun p hp => absurd (show p ∈ ([] : List (Addr × Obj)) from hp) (by simp), ?_, ?_⟩
  · exact I.ok.inj y z c (cne y c e1) (cne z c e2)
  · have hy' := relab_back (env := X.env) N.cell hy
    obtain ⟨c, e⟩ := I.ok.has y (N.from_ (y, .free) (mem_of_lookup' hy') rfl)
    exact ⟨c, clOf_get e hy'⟩
  · exact absurd hf (by show ¬ (false = true); decide)
  · obtain ⟨o, e⟩ := fo b hb
    exact Nat.ne_of_lt (Nat.lt_of_lt_of_le (Heap.lt_size e) hC)
  · exact (f2 b hb).2.2.2.2.1 y c (cne y c e)
  · rcases (f2 b hb).2.2.2.1 with z | z
    · exact I.ok.noex b o e z
    · exact absurd (Nat.lt_of_lt_of_le (Heap.lt_size (I.ok.bs b o e).1) z) (Nat.lt_irrefl _)
  · rcases List.mem_cons.mp (I.stkSub b hz) with z | z
    · exact (f2 b hb).2.1 z
    · exact (f2 b hb).2.2.1 z
  · exact Un.laid old hD hDn
  · cases i with
    | zero =>
      have e2' : (none : Option V) = some v := Option.some.inj e2
      cases e2'
    | succ i =>
      have e1' : ns[i]? = some y := e1
      have e2' : (cap σ idx)[i]? = some (some v) := e2
      have hi : (idx.map (fun j => X.N[j]?))[i]? = some (some y) := by rw [N.ix, List.getElem?_map, e1']; rfl
      rw [List.getElem?_map] at hi
      unfold cap at e2'
      rw [List.getElem?_map] at e2'
      cases ej : idx[i]? with
      | none => rw [ej] at hi; cases hi
      | some j =>
        rw [ej] at hi e2'
        have hj : X.N[j]? = some y := Option.some.inj hi
        have hv : σ.getD j none = some v := Option.some.inj e2'
        have hv' : σ[j]? = some (some v) := by
          rw [List.getD_eq_getElem?_getD] at hv
          cases q : σ[j]? with
          | none => rw [q] at hv; cases hv
          | some w' => rw [q] at hv; exact congrArg some hv
        have hfr := N.free y (List.mem_of_getElem? e1')
        have hk := N.from_ (y, .free) (mem_of_lookup' hfr) rfl
        obtain ⟨m, hn, hl⟩ := I.loc
        have hvis : Vis X.env.scope y := by
          rcases hk with k | k
          · exact .inr (.inl k)
          · exact .inr (.inr k)
        obtain ⟨u, r, l⟩ := hl j y v hj hv' hvis
        refine ⟨u, r, .inr ⟨?_, ?_⟩⟩
        · exact relab_free (env := X.env) hfr
        · rcases l with ⟨k, _⟩ | ⟨_, c, ec, o, ho, hd⟩
          · have k' : X.env.kindOf y = some .local := k
            rcases hk with q | q
            · have q' : X.env.kindOf y = some .cell := q
              rw [k'] at q'; cases q'
            · have q' : X.env.kindOf y = some .free := q
              rw [k'] at q'; cases q'
          · exact ⟨c, clOf_get ec hfr, o, old c o ho, hd⟩
  · obtain ⟨v, o, ho, hd⟩ := I.cell y c (cne y c e)
    exact ⟨v, o, old c o ho, hd⟩
  · show upd H D (.lst []) C = none
    rw [upd_ne (Ne.symm hDC)]; exact hCn
  · show upd H D (.lst []) c = none
    rw [upd_ne (Nat.ne_of_lt (Nat.lt_of_lt_of_le (clt y c (cne y c e)) hD))]
    exact I.freeC y c (cne y c e)
  · exact I.hok.laid old hD ⟨Nat.zero_le _, [], 0, .nil, hacc⟩
  · show (none :: cap σ idx).length = (x :: ns).length
    have := congrArg List.length N.ix
    rw [List.length_map, List.length_map] at this
    unfold cap
    rw [List.length_cons, List.length_cons, List.length_map, this]
theorem Inv.uncomp {σ' : St} {H' : Hp} {s' : Shared} {C : Addr} {N' : List Str} (I : Inv X pins σ H s) (f2 : ∀ b ∈ fp, FpOk X pins H b) (J : Inv (cxComp X scope C N' s H fp) [] σ' H' s') : Inv X pins σ H' s' :=
  I.call' (ch := fp) J.os J.base J.hok J.bare fun b hb => ⟨(f2 b hb).2.2.2.1, (f2 b hb).2.1, (f2 b hb).2.2.2.2.1, (f2 b hb).2.2.2.2.2⟩
end

section
variable {prog : Program} {w : World} {A : Around} {R : Result → Shared → Prop} {s : Shared}
theorem compLoop_any {elt target iter : Expr} {ifs : List Expr} {scope : Scope} {pos : Pos} {it acc : Value} {env : Env} (I : Nat → Shared → Prop)
    (turn : ∀ n s, I n s → wpAny (model prog w) A (pyNext it) (fun r s₁ => match r with
      | none => R (.ok .next) s₁
      | some v => wpAny (model prog w) A (letOwnedTupleGo target it v) (fun _ s₁' => wpAny (model prog w) A (assign target env v) (fun _ s₂ =>
          wpAny (model prog w) A (forIn ifs true fun c r => if r = true then do let ok ← isTrue c env (eval c env); pure (ForInStep.yield ok) else pure (ForInStep.yield r)) (fun ok s₃ =>
            if ok = true then wpAny (model prog w) A (eval elt env) (fun x s₄ =>
              wpAny (model prog w) A (call (.builtin "list.append") [acc, x]) (fun _ s₅ => ∃ m, m < n ∧ I m s₅) (fun _ _ => False) s₄) (fun _ _ => False) s₃
            else ∃ m, m < n ∧ I m s₃) (fun _ _ => False) s₂) (fun _ _ => False) s₁') (fun _ _ => False) s₁) (fun _ _ => False) s)
    (n : Nat) (h : I n s) :
    codeAny (model prog w) A (.compLoop (.ListComp elt [⟨target, iter, ifs, 0⟩] scope pos) 0 it acc env) R s := by
  refine codeAny_loop rfl I (fun n s hI => ?_) n h
  show wpAny _ A ((compTurn (.ListComp elt [⟨target, iter, ifs, 0⟩] scope pos) 0 it acc env).onRaise (fun x => do noteFrame x env; theTreesLotGoes x)) _ _ s
  refine wpAny_noted ?_
  rw [compTurn_list]
  refine wpAny_bind (wpAny_standAt (wpAny_bind (wpAny_mono (turn n s hI) (fun r s₁ h₁ => ?_) fun _ _ h' => h'.elim)))
  cases r with
  | none => exact wpAny_pure h₁
  | some v =>
    refine wpAny_bind (wpAny_mono h₁ (fun _ s₁' h₁' => ?_) fun _ _ h' => h'.elim)
    refine wpAny_bind (wpAny_mono h₁' (fun _ s₂ h₂ => wpAny_bind (wpAny_mono h₂ (fun ok s₃ h₃ => ?_) fun _ _ h' => h'.elim)) fun _ _ h' => h'.elim)
    cases ok with
    | false => exact wpAny_pure ⟨rfl, h₃⟩
    | true =>
      exact wpAny_bind (wpAny_bind (wpAny_mono h₃ (fun x s₄ h₄ => wpAny_bind (wpAny_mono h₄ (fun _ s₅ h₅ => wpAny_pure (wpAny_pure ⟨rfl, h₅⟩)) fun _ _ h' => h'.elim)) fun _ _ h' => h'.elim))
end

def PIfs (X : Cx) (ifs : List Expr) (t : TT) : Prop :=
  ∀ (pins : List (Addr × Obj)) (s : Shared) (σ : St) (H : Hp) (Q : Bool → Hp → Prop), Inv X pins σ H s → t σ H Q →
    wpAny (model X.prog X.w) X.A (forIn ifs true fun c r => if r = true then do let ok ← isTrue c X.env (eval c X.env); pure (ForInStep.yield ok) else pure (ForInStep.yield r)) (TP X pins σ Q) X.xe s
def tNoIf : TT := fun _ H Q => Q true H
theorem pif_nil {X : Cx} : PIfs X [] tNoIf := fun pins s σ H Q I h => wpAny_tests_nil ⟨H, I, h⟩
theorem pif_one {X : Cx} {c : Expr} {tc : TT} (hc : PT X c tc) : PIfs X [c] tc := fun pins s σ H Q I h => wpAny_tests_one (hc pins s σ H Q I h)

def LCW (idx : List Nat) (J : It) (g : TG) (tt : TT) (te : TE) (Q : VK) (σ : St) (H1 : Hp) : Prop := ∀ D, H1 D = none →
  ∃ W : Nat → Nat → List V → St → Hp → Prop, (∃ m, W 0 m [] (none :: cap σ idx) (upd H1 D (.lst []))) ∧ ∀ i m ys ρ H, W i m ys ρ H → H D = some (.lst ys) ∧
    ((J.stop i H ∧ Q (.ref D) H) ∨
     (J.go i H ∧ ys.length < sizeLine ∧ ∀ x H', J.yld i H x H' → g x ρ H' fun ρ2 H2 => tt ρ2 H2 fun b H3 =>
        if b = true then te ρ2 H3 fun v H4 => H4 D = some (.lst ys) ∧ ∃ m', m' < m ∧ W (i + 1) m' (ys ++ [v]) ρ2 (upd H4 D (.lst (ys ++ [v])))
        else ∃ m', m' < m ∧ W (i + 1) m' ys ρ2 H3))
def tLC (wi : TI) (idx : List Nat) (g : TG) (tt : TT) (te : TE) : TE := fun σ H Q => wi σ H fun J H1 => LCW idx J g tt te Q σ H1

section
variable {X : Cx} {elt iter : Expr} {x : Str} {px : Pos} {ifs : List Expr} {scope : Scope} {pos : Pos} {ns : List Str} {idx : List Nat} {wi : TI} {g : TG} {tt : TT} {te : TE}
theorem comp_core {pins : List (Addr × Obj)} {s : Shared} {σ : St} {H : Hp} {Q : VK} {RR : Value → Addr → Result → Shared → Prop} {it : Addr} {fp : List Addr} {tn : Nat → Heap → Prop} {J : It} {tg : Expr} (N : CompNames X.env.scope X.N scope x ns idx) (hcalm : X.calm = true)
    (hg : ∀ C s₀ H₀ fp, PG (cxComp X scope C (x :: ns) s₀ H₀ fp) tg g)
    (hi : ∀ C s₀ H₀ fp, PIfs (cxComp X scope C (x :: ns) s₀ H₀ fp) ifs tt) (he : ∀ C s₀ H₀ fp, PE (cxComp X scope C (x :: ns) s₀ H₀ fp) elt te)
    (I : Inv X pins σ H s) (T : Turn X.prog X.w X.K tg J fp it tn) (st : tn 0 s.heap) (f2 : ∀ b ∈ fp, FpOk X pins H b)
    (h : LCW idx J g tt te Q σ H)
    (hR : ∀ D C s' H', Inv X pins σ H' s' → FpOk X pins H' C → (∃ m, s'.heap.Ns C m) → Q (.ref D) H' → RR (.ref D) C (.ok .next) s') :
    wpAny (model X.prog X.w) X.A (newList []) (fun acc s₃ => wpAny (model X.prog X.w) X.A (newFunctionEnv scope X.env.globals (clOf X.env.cells scope.names []) [] X.env.qual none .none (some X.env)) (fun cenv s₄ =>
      codeAny (model X.prog X.w) X.A (.compStart (.ListComp elt [⟨tg, iter, ifs, 0⟩] scope pos) 0 (.ref it) acc { cenv with scope := relabel scope X.env }) (RR acc cenv.locals) s₄) X.xe s₃) X.xe s := by
  refine wpAny_newObj_type (wpAny_newFunctionEnv N.cell (by intro y hy; simp at hy) (fun h₁ hns₁ hsb₁ => ?_) N.kind)
  dsimp only at hns₁ hsb₁ ⊢
  generalize hH2 : s.heap.push { cls := .type "list", dict := none, data := .seq ([] : List Value).toArray } = H2 at hns₁ hsb₁ ⊢
  have hC : H2.objs.size = s.heap.objs.size + 1 := by rw [← hH2, Heap.size_push]
  have hDC : s.heap.objs.size ≠ H2.objs.size := by rw [hC]; exact Nat.ne_of_lt (Nat.lt_succ_self _)
  have hCle : s.heap.objs.size ≤ H2.objs.size := by rw [hC]; exact Nat.le_succ _
  have below : ∀ b, b < s.heap.objs.size → b ≠ H2.objs.size := fun b hb => by rw [hC]; exact Nat.ne_of_lt (Nat.lt_succ_of_lt hb)
  have old : ∀ b o, s.heap.get? b = some o → h₁.get? b = some o := fun b o e => hsb₁.extBut b o (below b (Heap.lt_size e)) (Heap.get?_push_of_some _ (hH2 ▸ Heap.get?_push_of_some _ e))
  have hacc : h₁.get? s.heap.objs.size = some { cls := .type "list", data := .seq #[] 0 } := hsb₁.extBut _ _ hDC (Heap.get?_push_of_some _ (hH2 ▸ Heap.get?_push_size _ rfl))
  have hns : h₁.Ns H2.objs.size fun _ => none := by simpa using hns₁
  have J0 := Inv.comp (t' := s.toks + ([] : List (Str × Value)).length) N I f2 (fun b hb => let ⟨o, e, _⟩ := T.obj 0 s.heap st b hb; ⟨o, e⟩) (Nat.le_refl _) hCle hDC old hacc hns
  obtain ⟨W, ⟨m0, w0⟩, turn⟩ := h s.heap.objs.size (I.hok.fresh (Nat.le_refl _))
  have stat : ∀ {H' : Hp}, (∀ b ∈ fp, H' b = none) → ∀ b ∈ fp, FpOk (cxComp X scope H2.objs.size (x :: ns) s H fp) [] H' b := fun hn b hb => by
    obtain ⟨_, f1, f3, f4, f5, f6⟩ := f2 b hb
    obtain ⟨o, e, _⟩ := T.obj 0 s.heap st b hb
    refine ⟨hn b hb, below b (Heap.lt_size e), fun z => ?_, .inl hb, fun y c q => f5 y c (clOf_sub (acc := []) (fun _ _ q => by simp at q) y c q), fun p hp => absurd (show p ∈ ([] : List (Addr × Obj)) from hp) (by simp)⟩
    rcases List.mem_cons.mp (I.stkSub b z) with q | q
    · exact f1 q
    · exact f3 q
  have fr0 : ∀ b ∈ fp, upd H s.heap.objs.size (.lst []) b = none := fun b hb => by
    obtain ⟨o, e, _⟩ := T.obj 0 s.heap st b hb
    rw [upd_ne (Nat.ne_of_lt (Heap.lt_size e))]
    exact (f2 b hb).1
  have st1 : tn 0 h₁ := T.keep 0 _ _ st fun b _ o e => old b o e
  have loop : ∀ s₃ : Shared, s₃ = { s with heap := h₁, toks := s.toks + ([] : List (Str × Value)).length } →
      codeAny (model X.prog X.w) X.A (.compLoop (.ListComp elt [⟨tg, iter, ifs, 0⟩] scope pos) 0 (.ref it) (.ref s.heap.objs.size) (compEnvC scope (clOf X.env.cells scope.names []) H2.objs.size X.env))
        (RR (.ref s.heap.objs.size) H2.objs.size) s₃ := by
    rintro s₃ rfl
    refine compLoop_any (fun n s' => ∃ i ρ H' ys, Inv (cxComp X scope H2.objs.size (x :: ns) s H fp) [] ρ H' s' ∧ tn i s'.heap ∧ (∀ b ∈ fp, H' b = none) ∧ W i n ys ρ H') ?_ m0 ⟨0, _, _, [], J0, st1, fr0, w0⟩
    rintro n s3 ⟨i, ρ, H3, ys, I3, st3, fr3, w3⟩
    obtain ⟨hD3, hw⟩ := turn i n ys ρ H3 w3
    rcases hw with ⟨stop, q⟩ | ⟨go, hlen, step⟩
    · refine thn (T.done (cxComp X scope H2.objs.size (x :: ns) s H fp) rfl rfl rfl hcalm i [] s3 ρ H3 (fun _ _ => False) I3 (stat fr3) st3 stop) fun r s4 ⟨hr, I4⟩ => ?_
      subst hr
      have I5 := I.uncomp f2 I4
      refine hR _ _ s4 H3 I5 (I.fpOk hCle I3.free) ?_ q
      obtain ⟨m, hn, _⟩ := I4.loc
      exact ⟨m, hn⟩
    · refine thn (T.item (cxComp X scope H2.objs.size (x :: ns) s H fp) rfl rfl rfl hcalm i [] s3 ρ H3 (fun _ _ => False) I3 (stat fr3) st3 go) fun r s4 ⟨u, hr, h4⟩ => ?_
      subst hr
      refine thn h4 fun _ s5 ⟨y, H5, I5, r5, y5, st5, fr5⟩ => ?_
      have I5' := I5.pinned (stat fr5) (T.obj _ _ st5)
      refine thn (hg H2.objs.size s H fp _ s5 ρ H5 y u _ I5' r5 (step y H5 y5)) fun _ s6 ⟨σ6, H6, I6, q6⟩ => ?_
      refine thn (hi H2.objs.size s H fp _ s6 σ6 H6 _ I6 q6) fun ok s7 ⟨H7, I7, q7⟩ => ?_
      have again : ∀ {s8 : Shared} {H8 : Hp} {zs : List V}, Inv (cxComp X scope H2.objs.size (x :: ns) s H fp) ([] ++ pinsAt fp s5.heap) σ6 H8 s8 → (∃ m', m' < n ∧ W (i + 1) m' zs σ6 H8) →
          ∃ m, m < n ∧ ∃ i ρ H' ys, Inv (cxComp X scope H2.objs.size (x :: ns) s H fp) [] ρ H' s8 ∧ tn i s8.heap ∧ (∀ b ∈ fp, H' b = none) ∧ W i m ys ρ H' := fun {s8 H8 zs} I8 ⟨m', hm, w8⟩ => by
        refine ⟨m', hm, i + 1, σ6, H8, zs, I8.unpinned, T.keep _ _ _ st5 fun b hb o e => (I8.pin (b, o) (List.mem_append_right _ (List.mem_append_right _ (mem_pinsAt hb e)))).1, fun b hb => ?_, w8⟩
        obtain ⟨o, e, d⟩ := T.obj _ _ st5 b hb
        exact (I8.pin (b, o) (List.mem_append_right _ (List.mem_append_right _ (mem_pinsAt hb e)))).2.1
      cases ok with
      | false =>
        rw [if_neg Bool.false_ne_true] at q7 ⊢
        exact again I7 q7
      | true =>
        rw [if_pos rfl] at q7 ⊢
        refine thn (he H2.objs.size s H fp _ s7 σ6 H7 _ I7 q7) fun v s8 ⟨y8, H8, I8, r8, hD8, q8⟩ => ?_
        obtain ⟨z8, its, n8, rv, e8⟩ := I8.hok _ _ hD8
        have hl := rv.length
        refine wpAny_list_append_plain (hsz := by rw [List.size_toArray]; omega) ⟨n8, e8⟩ fun h9 hp9 sb9 => ?_
        obtain ⟨n9, e9⟩ := hp9
        refine again (zs := ys ++ [y8]) (I8.write (x := s.heap.objs.size) (e := s.heap.objs.size) (o := .lst (ys ++ [y8])) (t' := s8.toks) (by rw [hD8]; trivial) (.inl rfl) (fun b o hb e => (sb9.2 b hb).trans e) ⟨_, e9⟩ ⟨by rw [List.length_append]; show ys.length + 1 ≤ sizeLine; omega, its ++ [v], n9, rv.append (.cons r8 .nil), ?_⟩) q8
        rw [e9]
        simp
  exact codeAny_compStart_list (loop _ rfl) (T.self _ 0 _ _ _ st1 (loop _ rfl))
theorem comp_tgt (N : CompNames X.env.scope X.N scope x ns idx) : ∀ C s₀ H₀ fp, PG (cxComp X scope C (x :: ns) s₀ H₀ fp) (.Name x px) (gName 0) := fun C s₀ H₀ fp =>
  pg_name (X := cxComp X scope C (x :: ns) s₀ H₀ fp) (i := 0) N.nd rfl (Or.inl (lookup_relabel_local N.tgt)) (.inr (lookup_relabel_local N.tgt))
theorem pe_lc (N : CompNames X.env.scope X.N scope x ns idx) (hcalm : X.calm = true) (hw : PI X (.Name x px) iter wi)
    (hi : ∀ C s₀ H₀ fp, PIfs (cxComp X scope C (x :: ns) s₀ H₀ fp) ifs tt) (he : ∀ C s₀ H₀ fp, PE (cxComp X scope C (x :: ns) s₀ H₀ fp) elt te)
    (hs : ∀ x, foldedSetIterable iter X.env x = pure x := by intro _; rfl) : PE X (.ListComp elt [⟨.Name x px, iter, ifs, 0⟩] scope pos) (tLC wi idx (gName 0) tt te) := by
  intro pins s σ H Q I h
  rw [eval_ListComp]
  refine wpAny_comprehension_free (use := none) rfl hs (N.clos I.ok) N.kind N.loc (thn (hw pins s σ H _ I h) fun v s1 h1 => thn h1 fun itv s2 h2 => ?_)
  obtain ⟨it, fp, tn, J, H2, e, I2, T, st2, f2, q⟩ := h2
  subst e
  refine comp_core (RR := fun acc C => compPost (model X.prog X.w) X.A X.xe none (EP X pins σ Q) acc C) N hcalm (comp_tgt N) hi he I2 T st2 f2 q fun D C s' H' I' F' hm q' => ?_
  obtain ⟨m, hn⟩ := hm
  refine ⟨m, hn, fun h' hs' => ?_⟩
  obtain ⟨f0, f1, f3, f4, f5, f6⟩ := F'
  exact ⟨.ref D, H', I'.turned (t' := s'.toks) (fun b o hb e => (hs'.2 b hb).trans e) f0 f1 f4 f5 f6, rfl, q'⟩
theorem ps_setLC {i : Nat} {y : Str} {py spos : Pos} (N : CompNames X.env.scope X.N scope x ns idx) (hcalm : X.calm = true) (hN : X.N.Nodup) (hiy : X.N[i]? = some y) (hly : Loc X.env.scope y) (hw : PI X (.Name x px) iter wi)
    (hi : ∀ C s₀ H₀ fp, PIfs (cxComp X scope C (x :: ns) s₀ H₀ fp) ifs tt) (he : ∀ C s₀ H₀ fp, PE (cxComp X scope C (x :: ns) s₀ H₀ fp) elt te)
    (hsw : swapsWith (.ListComp elt [⟨.Name x px, iter, ifs, 0⟩] scope pos) (some (.Name y py)) spos.line X.env = pure true) (hf : X.fn y = true ∨ X.env.scope.names.lookup y = some .local := by first | exact .inl rfl | exact .inr rfl | assumption)
    (hs : ∀ x, foldedSetIterable iter X.env x = pure x := by intro _; rfl) : PS X (.Assign [.Name y py] (.ListComp elt [⟨.Name x px, iter, ifs, 0⟩] scope pos) spos) (tAsg (tLC wi idx (gName 0) tt te) (gName i)) := by
  intro pins s σ H D I h
  rw [exec_Assign_Name_used _ _ _ _ hsw]
  refine wpAny_bind (wpAny_standAt (wpAny_bind ?_))
  show wpAny _ X.A (do let _ ← comprehension (.ListComp elt [⟨.Name x px, iter, ifs, 0⟩] scope pos) scope X.env _ (newList []) false (eval iter X.env) (some (assign (.Name y py) X.env))) _ _ s
  refine wpAny_bind (wpAny_mono (wpAny_comprehension_free (use := some (assign (.Name y py) X.env)) (Q := fun _ s' => SP X pins D .next s') rfl hs (N.clos I.ok) N.kind N.loc
    (thn (hw pins s σ H _ I h) fun v s1 h1 => thn h1 fun itv s2 h2 => ?_)) (fun _ s' hq => wpAny_pure (wpAny_pure hq)) fun _ _ e => e)
  obtain ⟨it, fp, tn, J, H2, e, I2, T, st2, f2, q⟩ := h2
  subst e
  refine comp_core (Q := fun x H1 => gName i x σ H1 D.nx) (RR := fun acc C => compPost (model X.prog X.w) X.A X.xe (some (assign (.Name y py) X.env)) (fun _ s' => SP X pins D .next s') acc C) N hcalm (comp_tgt N) hi he I2 T st2 f2 q fun E C s' H' I' F' hm q' => ?_
  obtain ⟨m, hn⟩ := hm
  obtain ⟨f0, f1, f3, f4, f5, f6⟩ := F'
  show wpAny _ X.A (assign (.Name y py) X.env (.ref E)) _ _ s'
  refine wpAny_assign_Name (store_ok2 I' hN hiy hly (show RelV (.ref E) (.ref E) from rfl) (fun s'' I'' hsb => ?_) hf)
  obtain ⟨a, sb, ha⟩ := hsb
  have hCa : C ≠ a := by
    rcases ha with z | z
    · rw [z]; exact f1
    · exact fun e => f5 y a z e.symm
  refine ⟨m, hn.sameBut sb hCa, fun h' hs' => ?_⟩
  exact ⟨_, H', I''.turned (t' := s''.toks) (fun b o hb e => (hs'.2 b hb).trans e) f0 f1 f4 f5 f6, q'⟩
end

theorem lc_list {K : PySem.W.Frag} {a : Addr} {xs : List V} {idx : List Nat} {tt : TT} {te : TE} {σ : St} {H : Hp} {Q : VK} (p : V → Bool) (f : V → V) (hq : SqL K H a xs) (hl : xs.length ≤ sizeLine)
    (ht : ∀ x ∈ xs, ∀ D ys (R : Bool → Hp → Prop), H D = none → R (p x) (upd H D (.lst ys)) → tt (some x :: cap σ idx) (upd H D (.lst ys)) R)
    (he : ∀ x ∈ xs, p x = true → ∀ D ys (R : VK), H D = none → R (f x) (upd H D (.lst ys)) → te (some x :: cap σ idx) (upd H D (.lst ys)) R)
    (hQ : ∀ D, H D = none → Q (.ref D) (upd H D (.lst ((xs.filter p).map f)))) :
    LCW idx (Itl K a) (gName 0) tt te Q σ H := by
  intro D hD
  refine ⟨fun i m ys ρ H' => m = xs.length - i ∧ i ≤ xs.length ∧ ys = ((xs.take i).filter p).map f ∧ (∃ y0, ρ = y0 :: cap σ idx) ∧ H' = upd H D (.lst ys), ⟨xs.length, by simp, Nat.zero_le _, by simp, ⟨none, rfl⟩, rfl⟩, ?_⟩
  rintro i m ys ρ H' ⟨rfl, hi, hys, ⟨y0, rfl⟩, rfl⟩
  refine ⟨upd_same, ?_⟩
  have hqD : ∀ zs, SqL K (upd H D (.lst zs)) a xs := fun zs => by
    rcases hq with (h | ⟨o, h⟩) | h
    · exact .inl (.inl (by rw [upd_ne (ne_of_none h hD)]; exact h))
    · exact .inl (.inr ⟨o, by rw [upd_ne (ne_of_none h hD)]; exact h⟩)
    · exact .inr h
  by_cases hlt : i < xs.length
  · refine .inr ⟨⟨xs, xs[i], hqD ys, by simp [hlt]⟩, ?_, fun x H' y => ?_⟩
    · rw [hys, List.length_map]
      have h1 := List.length_filter_le p (xs.take i)
      have h2 : (xs.take i).length = i := by rw [List.length_take]; omega
      omega
    · obtain ⟨e, y⟩ := y
      subst e
      have hx : xs[i]? = some x := y xs (hqD ys)
      have hmem : x ∈ xs := List.mem_of_getElem? hx
      have htk : xs.take (i + 1) = xs.take i ++ [x] := by rw [List.take_add_one, hx]; rfl
      show tt (some x :: cap σ idx) (upd H D (.lst ys)) _
      refine ht x hmem D ys _ hD ?_
      cases hp : p x with
      | true =>
        rw [if_pos rfl]
        refine he x hmem hp D ys _ hD ⟨upd_same, xs.length - (i + 1), by omega, rfl, hlt, ?_, ⟨some x, rfl⟩, upd_upd⟩
        rw [htk, List.filter_append, List.map_append, hys]
        simp [hp]
      | false =>
        rw [if_neg Bool.false_ne_true]
        refine ⟨xs.length - (i + 1), by omega, rfl, hlt, ?_, ⟨some x, rfl⟩, rfl⟩
        rw [htk, List.filter_append, List.map_append, hys]
        simp [hp]
  · have e : i = xs.length := by omega
    subst e
    refine .inl ⟨⟨xs, hqD ys, Nat.le_refl _⟩, ?_⟩
    rw [hys, List.take_length]
    exact hQ D hD
def iotaZ (lo : Int) (n : Nat) : List Int := (List.range n).map fun (i : Nat) => lo + (i : Int)
theorem lc_range {lo : Int} {n : Nat} {idx : List Nat} {tt : TT} {te : TE} {σ : St} {H : Hp} {Q : VK} (p : Int → Bool) (f : Int → V) (hl : n ≤ sizeLine)
    (ht : ∀ x, lo ≤ x → x < lo + n → ∀ D ys (R : Bool → Hp → Prop), H D = none → R (p x) (upd H D (.lst ys)) → tt (some (.int x) :: cap σ idx) (upd H D (.lst ys)) R)
    (he : ∀ x, lo ≤ x → x < lo + n → p x = true → ∀ D ys (R : VK), H D = none → R (f x) (upd H D (.lst ys)) → te (some (.int x) :: cap σ idx) (upd H D (.lst ys)) R)
    (hQ : ∀ D, H D = none → Q (.ref D) (upd H D (.lst (((iotaZ lo n).filter p).map f)))) :
    LCW idx (Itr lo n) (gName 0) tt te Q σ H := by
  intro D hD
  refine ⟨fun i m ys ρ H' => m = n - i ∧ i ≤ n ∧ ys = ((iotaZ lo i).filter p).map f ∧ (∃ y0, ρ = y0 :: cap σ idx) ∧ H' = upd H D (.lst ys), ⟨n, by simp, Nat.zero_le _, by simp [iotaZ], ⟨none, rfl⟩, rfl⟩, ?_⟩
  rintro i m ys ρ H' ⟨rfl, hi, hys, ⟨y0, rfl⟩, rfl⟩
  refine ⟨upd_same, ?_⟩
  by_cases hlt : i < n
  · refine .inr ⟨hlt, ?_, fun x H' y => ?_⟩
    · rw [hys, List.length_map]
      have h1 := List.length_filter_le p (iotaZ lo i)
      have h2 : (iotaZ lo i).length = i := by simp [iotaZ]
      omega
    · obtain ⟨e, y⟩ := y
      subst e y
      have htk : iotaZ lo (i + 1) = iotaZ lo i ++ [lo + (i : Int)] := by simp [iotaZ, List.range_succ]
      show tt (some (.int (lo + i)) :: cap σ idx) (upd H D (.lst ys)) _
      refine ht (lo + i) (by omega) (by omega) D ys _ hD ?_
      cases hp : p (lo + i) with
      | true =>
        rw [if_pos rfl]
        refine he (lo + i) (by omega) (by omega) hp D ys _ hD ⟨upd_same, n - (i + 1), by omega, rfl, hlt, ?_, ⟨_, rfl⟩, upd_upd⟩
        rw [htk, List.filter_append, List.map_append, hys]
        simp [hp]
      | false =>
        rw [if_neg Bool.false_ne_true]
        refine ⟨n - (i + 1), by omega, rfl, hlt, ?_, ⟨_, rfl⟩, rfl⟩
        rw [htk, List.filter_append, List.map_append, hys]
        simp [hp]
  · have e : i = n := by omega
    subst e
    refine .inl ⟨Nat.le_refl _, ?_⟩
    rw [hys]
    exact hQ D hD
end L2

set_option Elab.async false
set_option linter.all false
set_option maxRecDepth 100000
namespace L2
open PySem PySem.Spec PyProof.Rows
open PySem.SeqAt (noMix noMixAll)

mutual
/-- the value is that datum -/
def Is (K : PySem.W.Frag) (H : Hp) : PyData → V → Prop
  | .none, v => v = .non
  | .bool b, v => v = .bl b
  | .int i, v => v = .int i
  | .str x, v => v = .str x
  | .list ds, v => ∃ a xs, v = .ref a ∧ SqL K H a xs ∧ IsAll K H ds xs
  | .tuple ds, v => ∃ a xs, v = .ref a ∧ SqT K H a xs ∧ IsAll K H ds xs
  | .dict _, _ => False
def IsAll (K : PySem.W.Frag) (H : Hp) : List PyData → List V → Prop
  | [], xs => xs = []
  | d :: ds, xs => ∃ y ys, xs = y :: ys ∧ Is K H d y ∧ IsAll K H ds ys
end
section
variable {X : Cx} {pins : List (Addr × Obj)} {σ : St} {H : Hp} {s : Shared}
mutual
theorem Is.reads (I : Inv X pins σ H s) : ∀ (d : PyData) (v : V) (u : Value), Is X.K H d v → RelV v u → ∃ as, Reads s.heap u d as
  | .none, v, u, h, r => by
    have h' : v = .non := by simpa only [Is] using h
    subst h'; cases (show u = Value.none from r); exact ⟨_, .none⟩
  | .bool b, v, u, h, r => by
    have h' : v = .bl b := by simpa only [Is] using h
    subst h'; cases (show u = Value.bool b from r); exact ⟨_, .bool b⟩
  | .int i, v, u, h, r => by
    have h' : v = .int i := by simpa only [Is] using h
    subst h'; obtain ⟨t, rfl⟩ := (show ∃ t, u = Value.int i t from r); exact ⟨_, .int i t⟩
  | .str x, v, u, h, r => by
    have h' : v = .str x := by simpa only [Is] using h
    subst h'; obtain ⟨t, rfl⟩ := (show ∃ t, u = Value.str x t from r); exact ⟨_, .str x t⟩
  | .list ds, v, u, h, r => by
    have h' : ∃ a xs, v = .ref a ∧ SqL X.K H a xs ∧ IsAll X.K H ds xs := by simpa only [Is] using h
    obtain ⟨a, xs, rfl, hq, ha⟩ := h'
    cases (show u = Value.ref a from r)
    obtain ⟨its, rv, ⟨o, n, e, hc, _, hd⟩, _⟩ := I.list hq
    obtain ⟨as, ra⟩ := IsAll.reads I ds xs its ha rv
    exact ⟨_, .list e hc hd (by simpa using ra)⟩
  | .tuple ds, v, u, h, r => by
    have h' : ∃ a xs, v = .ref a ∧ SqT X.K H a xs ∧ IsAll X.K H ds xs := by simpa only [Is] using h
    obtain ⟨a, xs, rfl, hq, ha⟩ := h'
    cases (show u = Value.ref a from r)
    obtain ⟨its, rv, ⟨o, e, hc, n, hd⟩, _⟩ := I.tuple hq
    obtain ⟨as, ra⟩ := IsAll.reads I ds xs its ha rv
    exact ⟨_, .tuple e hc hd (by simpa using ra)⟩
  | .dict _, v, u, h, r => by
    have h' : False := by simpa only [Is] using h
    exact h'.elim
theorem IsAll.reads (I : Inv X pins σ H s) : ∀ (ds : List PyData) (xs : List V) (us : List Value), IsAll X.K H ds xs → Vals xs us → ∃ as, ReadsAll s.heap us ds as
  | [], xs, us, h, r => by
    have h' : xs = [] := by simpa only [IsAll] using h
    subst h'; cases r; exact ⟨_, .nil⟩
  | d :: ds, xs, us, h, r => by
    have h' : ∃ y ys, xs = y :: ys ∧ Is X.K H d y ∧ IsAll X.K H ds ys := by simpa only [IsAll] using h
    obtain ⟨y, ys, rfl, h1, h2⟩ := h'
    cases r with
    | cons r1 r2 =>
      obtain ⟨as, q1⟩ := Is.reads I d y _ h1 r1
      obtain ⟨bs, q2⟩ := IsAll.reads I ds ys _ h2 r2
      exact ⟨_, .cons q1 q2⟩
end
end
mutual
/-- neither bools nor dicts -/
def noBl : PyData → Bool
  | .bool _ => false
  | .dict _ => false
  | .list ds => noBls ds
  | .tuple ds => noBls ds
  | .none => true
  | .int _ => true
  | .str _ => true
def noBls : List PyData → Bool
  | [] => true
  | d :: ds => noBl d && noBls ds
end
mutual
theorem noMix_of : ∀ d e : PyData, noBl d = true → noBl e = true → noMix d e = true
  | .bool _, _, h, _ => by simp [noBl] at h
  | .dict _, _, h, _ => by simp [noBl] at h
  | .none, e, _, h => by cases e <;> simp_all [noMix, noBl]
  | .int _, e, _, h => by cases e <;> simp_all [noMix, noBl]
  | .str _, e, _, h => by cases e <;> simp_all [noMix, noBl]
  | .list ds, e, h, h' => by
    cases e with
    | list es => simp only [noMix]; simp only [noBl] at h h'; exact noMixAll_of ds es h h'
    | bool _ => simp [noBl] at h'
    | dict _ => simp [noBl] at h'
    | _ => simp [noMix]
  | .tuple ds, e, h, h' => by
    cases e with
    | tuple es => simp only [noMix]; simp only [noBl] at h h'; exact noMixAll_of ds es h h'
    | bool _ => simp [noBl] at h'
    | dict _ => simp [noBl] at h'
    | _ => simp [noMix]
theorem noMixAll_of : ∀ ds es : List PyData, noBls ds = true → noBls es = true → noMixAll ds es = true
  | [], es, _, _ => by cases es <;> simp [noMixAll]
  | d :: ds, [], _, _ => by simp [noMixAll]
  | d :: ds, e :: es, h, h' => by
    simp only [noBls, Bool.and_eq_true] at h h'
    simp only [noMixAll, Bool.and_eq_true]
    exact ⟨noMix_of d e h.1 h'.1, noMixAll_of ds es h.2 h'.2⟩
end
def Cmp (d : PyData) : Prop := SeqAt.shaped d = true ∧ noBl d = true
section
variable {X : Cx}
def rEqD (K : PySem.W.Frag) : R2 := fun x y H Q => ∃ d e, Is K H d x ∧ Is K H e y ∧ Cmp d ∧ Cmp e ∧ Q (.bl (same d e)) H
def rNeD (K : PySem.W.Frag) : R2 := fun x y H Q => ∃ d e, Is K H d x ∧ Is K H e y ∧ Cmp d ∧ Cmp e ∧ Q (.bl (!same d e)) H
theorem op_eqD (hu : X.A.units + 64 < cLine) : OpR X (compareOp .Eq) (rEqD X.K) := by
  intro pins s σ H x y v u Q I rx ry h
  obtain ⟨d, e, h1, h2, c1, c2, q⟩ := h
  obtain ⟨as, ra⟩ := Is.reads I d x v h1 rx
  obtain ⟨bs, rb⟩ := Is.reads I e y u h2 ry
  exact eq_dataH_same ra rb c1.1 c2.1 hu (noMix_of d e c1.2 c2.2) ⟨.bl _, H, I, rfl, q⟩
theorem op_neD (hu : X.A.units + 64 < cLine) : OpR X (compareOp .NotEq) (rNeD X.K) := by
  intro pins s σ H x y v u Q I rx ry h
  obtain ⟨d, e, h1, h2, c1, c2, q⟩ := h
  obtain ⟨as, ra⟩ := Is.reads I d x v h1 rx
  obtain ⟨bs, rb⟩ := Is.reads I e y u h2 ry
  exact ne_dataH_same ra rb c1.1 c2.1 hu (noMix_of d e c1.2 c2.2) ⟨.bl _, H, I, rfl, q⟩

def isT (t c : String) : Bool := t == c || (t == "bool" && c == "int")
def rIsi (K : PySem.W.Frag) : List V → Hp → VK → Prop := fun xs H Q => ∃ x T t b, xs = [x, .ty T] ∧ TyOf K H x t ∧ PySem.W.kitOne K t (.type T) = some b ∧ Q (.bl b) H
theorem call_isi : CallR X (.builtin "isinstance") (rIsi X.K) := by
  intro pins s σ H xs us Q I r h
  obtain ⟨x, T, t, b, rfl, ty, e, q⟩ := h
  obtain ⟨u, w', rfl, rx, rt⟩ := vals2 r
  cases (show w' = Value.type T from rt)
  exact isinst_ok I rx ty e fun tk => ⟨.bl b, H, I.tok tk, rfl, q⟩

theorem call_minL (hc : X.calm = true) : CallR X (.builtin "min") (fun xs H Q => ∃ p ns, xs = [.ref p] ∧ SqL X.K H p (ns.map V.int) ∧ ns ≠ [] ∧ ∀ M, M ∈ ns → (∀ a ∈ ns, M ≤ a) → Q (.int M) H) := by
  intro pins s σ H xs us Q I r h
  obtain ⟨p, ns, rfl, hq, hne, q⟩ := h
  obtain ⟨u, rfl, ru⟩ := vals1 r
  cases (show u = Value.ref p from ru)
  obtain ⟨its, rv, pl, hz⟩ := I.list hq
  have hi : IntsAre its ns := intsAre_of rv
  obtain ⟨zs, hzs⟩ := hi.allInts.items
  have hpl := pl.isList
  rw [hzs] at hpl
  have hsz : 0 < zs.size := by
    have e1 : its.length = ns.length := by have := rv.length; rw [List.length_map] at this; omega
    have e2 : 0 < ns.length := by cases ns with | nil => exact absurd rfl hne | cons _ _ => simp
    have e3 : its.toArray.size = zs.size := by rw [hzs]; simp [intItems]
    rw [List.size_toArray] at e3; omega
  have hnum : ns = numsOf its := hi.numsOf.symm
  have hnum2 : numsOf its = zs.toList.map (·.1) := by
    have := nums_intItems zs
    rw [← hzs] at this
    simpa using this
  refine min_intList (I.ok.hd hc) hpl hsz fun v h' tk hv hk => ?_
  obtain ⟨t, rfl⟩ := intItems_at hv
  obtain ⟨h1, h2⟩ := argBest_lt (numAt zs) (zs.size - 1)
  refine ⟨.int _, H, I.kept hk, ⟨t, rfl⟩, q _ ?_ fun a ha => ?_⟩
  · rw [hnum, hnum2, numAt_eq]; exact getD_mem (by rw [List.length_map, Array.length_toList]; omega)
  · rw [hnum, hnum2] at ha
    obtain ⟨j, hj, rfl⟩ := mem_getD ha
    rw [List.length_map, Array.length_toList] at hj
    rw [← numAt_eq]; exact h2 j (by omega)

theorem call_intS : CallR X (.type "int") (fun xs H Q => ∃ x n, xs = [.str x] ∧ PySem.intText? x = some n ∧ x.length ≤ 640 ∧ Q (.int n) H) := by
  intro pins s σ H xs us Q I r h
  obtain ⟨x, n, rfl, e, hl, q⟩ := h
  obtain ⟨u, rfl, t, rfl⟩ := vals1 r
  exact PySem.W.KIN.call_text e hl ⟨.int n, H, I.tok _, ⟨_, rfl⟩, q⟩
def repS (x : Str) (n : Nat) : Str := ⟨(List.replicate n x.cps).foldl (· ++ ·) #[]⟩
theorem op_mulS : OpR X (binaryOp .Mult) (fun x y H Q => ∃ z n, x = .str z ∧ y = .int n ∧ 2 ≤ n ∧ n ≤ 10000 ∧ z.length = 1 ∧ (repS z n.toNat).length ≤ sizeLine ∧ Q (.str (repS z n.toNat)) H) := by
  intro pins s σ H x y v u Q I rx ry h
  obtain ⟨z, n, rfl, rfl, h2, hn, hz, hl, q⟩ := h
  obtain ⟨t, rfl⟩ := rx
  obtain ⟨t', rfl⟩ := ry
  have c1 : ¬ n < 1 := by omega
  have c2 : (n == 1 || z.length == 0) = false := by
    rw [hz]
    have : (n == 1) = false := by simpa using (show n ≠ 1 by omega)
    rw [this]; rfl
  have hs : sizeLine = 16777216 := sizeLine_eq
  refine PySem.P.mul_str ?_ (fun _ _ => ?_) (fun _ _ => ?_) ?_
  · rw [decide_eq_false (show ¬ n < -(2 ^ 63 : Int) by omega), decide_eq_false (show ¬ n ≥ 2 ^ 63 by omega)]; rfl
  · rw [hz]
    intro hgt
    have h3 : ((2 ^ 63 - 1 : Int) / n) ≥ 1 := by
      have : (n : Int) * 1 ≤ 2 ^ 63 - 1 := by omega
      exact Int.le_ediv_of_mul_le (by omega) (by omega)
    have h4 : ((1 : Nat) : Int) > (2 ^ 63 - 1) / n := hgt
    omega
  · rw [hz, Nat.one_mul]
    unfold Builtin.Str.tooLong
    exact decide_eq_false (by omega)
  · rw [if_neg c1, if_neg (by rw [c2]; decide)]
    exact ⟨hl, ⟨.str _, H, I.tok _, ⟨_, rfl⟩, q⟩⟩
end

structure Fn (P : Program) (w : World) (K : PySem.W.Frag) (mg : Str → Option Value) (base : Heap) (x : Str) (k : Nat) (sp : Sp) : Prop where
  ex : ∃ (f : Addr) (fd : FuncData) (ps : List Str), FnOk P w K mg base CX0 k f fd ps sp ∧ mg x = some (.ref f) ∧ PySem.W.keepIn K (.ref f) = true ∧ Binds K fd ps []
theorem Fn.mk' {P : Program} {w : World} {K : PySem.W.Frag} {mg : Str → Option Value} {base : Heap} {x : Str} {k : Nat} {sp : Sp} {f : Addr} {fd : FuncData} {ps : List Str} (ok : FnOk P w K mg base CX0 k f fd ps sp) (m : mg x = some (.ref f))
    (kp : PySem.W.keepIn K (.ref f) = true) (b : Binds K fd ps []) : Fn P w K mg base x k sp := ⟨f, fd, ps, ok, m, kp, b⟩
section
variable {X : Cx} {x : Str} {p pos : Pos} {e : Expr} {es : List Expr} {t : TA} {k j : Nat} {sp : Sp}
end

theorem kit_ii {K : PySem.W.Frag} : PySem.W.kitOne K (.type "int") (.type "int") = some true := by rfl
theorem kit_ib {K : PySem.W.Frag} : PySem.W.kitOne K (.type "int") (.type "bool") = some false := by rfl
section
variable {X : Cx}
theorem ix_listK (K : PySem.W.Frag) (h : X.K = K := by rfl) : IxR X (rIxL K) := h ▸ ix_list
theorem ix_tupK (K : PySem.W.Frag) (h : X.K = K := by rfl) : IxR X (rIxT K) := h ▸ ix_tup
theorem op_notIn_seqK (K : PySem.W.Frag) (h : X.K = K := by rfl) : OpR X (compareOp .NotIn) (rIn K true) := h ▸ op_notIn_seq
end
theorem iteN {c A B : Prop} [Decidable c] (h : ¬ c) (b : B) : if c then A else B := by rw [if_neg h]; exact b
theorem iteP {c A B : Prop} [Decidable c] (h : c) (a : A) : if c then A else B := by rw [if_pos h]; exact a
theorem iteDN {c A B : Prop} [Decidable c] (h : ¬ c) (b : B) : if decide c = true then A else B := iteN (by rw [decide_eq_true_eq]; exact h) b
theorem iteDP {c A B : Prop} [Decidable c] (h : c) (a : A) : if decide c = true then A else B := iteP (decide_eq_true h) a
theorem iteD {c A B : Prop} [Decidable c] (h1 : c → A) (h2 : ¬ c → B) : if decide c = true then A else B := by
  by_cases h : c
  · exact iteDP h (h1 h)
  · exact iteDN h (h2 h)

theorem at0 {α : Type} {x : α} {r : List α} : atI (x :: r) 0 = some x := atI_nat (j := 0) rfl
theorem at1 {α : Type} {x y : α} {r : List α} : atI (x :: y :: r) 1 = some y := atI_nat (j := 1) rfl
theorem at2 {α : Type} {x y z : α} {r : List α} : atI (x :: y :: z :: r) 2 = some z := atI_nat (j := 2) rfl
theorem at3 {α : Type} {x y z w : α} {r : List α} : atI (x :: y :: z :: w :: r) 3 = some w := atI_nat (j := 3) rfl
theorem atI_in {α : Type} {xs : List α} {i : Int} (h0 : 0 ≤ i) (h1 : i < xs.length) : ∃ v, atI xs i = some v ∧ xs[i.toNat]? = some v := by
  have hl : i.toNat < xs.length := by omega
  refine ⟨xs[i.toNat], ?_, by simp [hl]⟩
  have e : ((i.toNat : Nat) : Int) = i := by omega
  have := atI_nat (j := i.toNat) (v := xs[i.toNat]) (xs := xs) (by simp [hl])
  rw [e] at this
  exact this

theorem Same.upd {H : Hp} {a : Addr} {o : HO} (h : H a = none) : Same H (L2.upd H a o) := fun b u e => by rw [upd_ne (ne_of_none e h)]; exact e
theorem Same.tup {K : PySem.W.Frag} {H H' : Hp} {a : Addr} {xs : List V} (e : Same H H') (h : SqT K H a xs) : SqT K H' a xs := by
  rcases h with (h | ⟨o, h⟩) | h
  · exact .inl (.inl (e _ _ h))
  · exact .inl (.inr ⟨o, e _ _ h⟩)
  · exact .inr h
theorem inV_ints (i : Int) : ∀ gs : List Int, inV (.int i) (gs.map V.int) = gs.any fun g => g == i
  | [] => rfl
  | g :: r => by
    have := inV_ints i r
    unfold inV at this ⊢
    rw [List.map_cons, List.any_cons, List.any_cons, this]
    rfl
theorem flat_ints : ∀ gs : List Int, (gs.map V.int).all flatV = true
  | [] => rfl
  | g :: r => by
    rw [List.map_cons, List.all_cons, flat_ints r]
    rfl
theorem isAll_ints {K : PySem.W.Frag} {H : Hp} : ∀ ns : List Int, IsAll K H (ns.map PyData.int) (ns.map V.int)
  | [] => by simp [IsAll]
  | n :: r => by
    rw [List.map_cons, List.map_cons]
    simp only [IsAll]
    exact ⟨_, _, rfl, by simp [Is], isAll_ints r⟩
theorem is_ints {K : PySem.W.Frag} {H : Hp} {a : Addr} {ns : List Int} (h : SqL K H a (ns.map V.int)) : Is K H (.list (ns.map PyData.int)) (.ref a) := by
  simp only [Is]
  exact ⟨a, _, rfl, h, isAll_ints ns⟩
theorem noBls_ints : ∀ ns : List Int, noBls (ns.map PyData.int) = true
  | [] => by simp [noBls]
  | n :: r => by simp [noBls, noBl, noBls_ints r]
theorem cmp_ints (ns : List Int) : Cmp (.list (ns.map PyData.int)) := ⟨PySem.W.ke_shaped_ints ns, by simp only [noBl]; exact noBls_ints ns⟩
theorem same_ints' (ns ms : List Int) : same (.list (ns.map PyData.int)) (.list (ms.map PyData.int)) = decide (ns = ms) := PySem.W.ke_same ns ms
end L2

set_option Elab.async false
set_option linter.all false
set_option maxRecDepth 100000
namespace L2
open PySem PySem.Spec PyProof.Rows

def Flies (h : Heap) (e T : Addr) (C fl : Value) : Prop :=
  ∃ oe vs oT ts a0, h.get? e = some oe ∧ (oe.cls = C ∧ vs[0]? = some a0) ∧ oe.data = .fields vs ∧ vs[1]? = some (.ref T) ∧ T ≠ e ∧ h.get? T = some oT ∧ oT.data = .fields ts ∧ ts[3]? = some fl
def Made (h : Heap) (e : Addr) (C : Value) : Prop := ∃ oe vs a0, h.get? e = some oe ∧ (oe.cls = C ∧ vs[0]? = some a0) ∧ oe.data = .fields vs ∧ vs[1]? = some .none
structure Fl (fr Z : List Addr) (h h' : Heap) : Prop where
  keep : ∀ b o, b ∉ Z → b ∉ fr → h.get? b = some o → h'.get? b = some o
  slot : ∀ b o, b ∈ fr → h.get? b = some o → ∃ sl, h'.get? b = some { o with slots := sl }
structure Ls (X : Cx) (pins : List (Addr × Obj)) (H : Hp) (z : Addr) : Prop where
  un : H z = none
  new : X.s₀.heap.get? z = none
  loc : z ≠ X.env.locals
  cell : ∀ x c, X.env.cells.lookup x = some c → c ≠ z
  pin : ∀ p ∈ X.pn ++ pins, p.1 ≠ z
theorem ObjOk.here {P : Program} {w : World} {H : Hp} {h : Heap} {a : Addr} {o : HO} (x : ObjOk P w H h a o) : ∃ ob, h.get? a = some ob := by
  cases o with
  | lst xs => obtain ⟨_, _, _, _, e⟩ := x; exact ⟨_, e⟩
  | tup xs => obtain ⟨_, _, _, _, e, _⟩ := x; exact ⟨_, e⟩
  | dK kvs => obtain ⟨_, _, _, _, o, _, _, e, _⟩ := x; exact ⟨_, e⟩
  | dT kvs => obtain ⟨_, _, _, _, o, _, _, e, _⟩ := x; exact ⟨_, e⟩
  | set S n => obtain ⟨o, _, _, _, e, _⟩ := x; exact ⟨_, e⟩
  | ins C dx fs => obtain ⟨_, _, _, e, _⟩ := x; exact ⟨_, e⟩
  | own y => obtain ⟨_, e⟩ := x; exact ⟨_, e⟩
  | xd fs => obtain ⟨_, ⟨_, _, _, e, _⟩, _⟩ := x; exact ⟨_, e⟩
  | rng lo hi => obtain ⟨_, _, _, e⟩ := x; exact ⟨_, e⟩
  | frz ob u => obtain ⟨e, _⟩ := x; exact ⟨_, e⟩
  | tbl ps => exact ⟨_, (show h.get? a = some _ from x)⟩
  | met f y => exact ⟨_, (show h.get? a = some _ from x)⟩
  | ext φ => obtain ⟨_, ⟨_, e⟩, _⟩ := x; exact ⟨_, e⟩
section
variable {X : Cx} {pins : List (Addr × Obj)} {σ : St} {H : Hp} {s : Shared} {h' : Heap}
theorem Inv.old {z : Addr} (I : Inv X pins σ H s) (hz : s.heap.get? z = none) (hx : z ∉ X.ex) : X.s₀.heap.get? z = none := by
  cases e : X.s₀.heap.get? z with
  | none => rfl
  | some o => obtain ⟨o', q⟩ := I.base.there z o e hx; rw [hz] at q; cases q
theorem Inv.un' {z : Addr} (I : Inv X pins σ H s) (hz : s.heap.get? z = none) : H z = none := by
  cases e : H z with
  | none => rfl
  | some o => obtain ⟨ob, q⟩ := (I.hok z o e).here; rw [hz] at q; cases q
theorem Inv.ls {z : Addr} (I : Inv X pins σ H s) (hz : s.heap.get? z = none) (hx : z ∉ X.ex) : Ls X pins H z := by
  refine ⟨I.un' hz, I.old hz hx, fun q => ?_, fun x c e q => ?_, fun p hp q => ?_⟩
  · obtain ⟨m, ⟨o, _, _, ho, _⟩, _⟩ := I.loc
    rw [← q, hz] at ho; cases ho
  · obtain ⟨v, o, ho, _⟩ := I.cell x c e
    rw [q, hz] at ho; cases ho
  · have := (I.pin p hp).1
    rw [q, hz] at this; cases this
theorem Inv.fly {Z : List Addr} (I : Inv X pins σ H s) (hz : ∀ z ∈ Z, Ls X pins H z) (f : Fl (frs X.stack) Z s.heap h') : Inv X pins σ H { s with heap := h' } := by
  have tr : ∀ b o, H b = some o → b ∉ Z ∧ b ∉ frs X.stack := fun b o e => by
    refine ⟨fun q => ?_, fun q => ?_⟩
    · have := (hz b q).un; rw [e] at this; cases this
    · have := I.stkFree b q; rw [e] at this; cases this
  have any : ∀ b o, b ∉ Z → s.heap.get? b = some o → ∃ sl, h'.get? b = some { o with slots := sl } := fun b o hb e => by
    by_cases q : b ∈ frs X.stack
    · exact f.slot b o q e
    · exact ⟨o.slots, f.keep b o hb q e⟩
  have nz : ∀ b o, X.s₀.heap.get? b = some o → b ∉ Z := fun b o e q => by rw [(hz b q).new] at e; cases e
  have nL : ∀ b o, X.s₀.heap.get? b = some o → b ≠ X.env.locals := fun b o e => Nat.ne_of_lt (Nat.lt_of_lt_of_le (Heap.lt_size e) I.ok.above)
  have nf : ∀ b, b ≠ X.env.locals → b ∉ X.fs → b ∉ frs X.stack := fun b h1 h2 q => (List.mem_cons.mp (I.stkSub b q)).elim h1 h2
  have cK : ∀ x c, X.env.cells.lookup x = some c → ∀ v, s.heap.IsCell c v → h'.IsCell c v := fun x c e v ⟨o, ho, hd⟩ => by
    obtain ⟨sl, q⟩ := any c o (fun q => (hz c q).cell x c e rfl) ho
    exact ⟨_, q, hd⟩
  refine ⟨I.ok, I.os, I.bare, ⟨fun b o e n hb hx => f.keep b o (nz b o e) (nf b (nL b o e) hb) (I.base.keep b o e n hb hx), fun b o e n hb hx => ?_, I.base.free, fun b o e hx => ?_, I.base.tups, I.base.frzs, I.base.tbls⟩, ?_, fun x c e => ?_, I.free, I.freeC, fun p hp => ?_,
    fun a o e => (I.hok a o e).stay (fun b u hb q => ?_) (fun _ q => q) fun _ _ q => q, I.len⟩
  · obtain ⟨sl, e1⟩ := I.base.slot b o e n hb hx
    obtain ⟨sl', e2⟩ := any b _ (nz b o e) e1
    exact ⟨sl', e2⟩
  · obtain ⟨o', e1⟩ := I.base.there b o e hx
    obtain ⟨sl', e2⟩ := any b _ (nz b o e) e1
    exact ⟨_, e2⟩
  · obtain ⟨m, ⟨o, es, ep, ho, r⟩, hl⟩ := I.loc
    obtain ⟨sl, q⟩ := any _ o (fun q => (hz _ q).loc rfl) ho
    refine ⟨m, ⟨_, es, ep, q, r⟩, fun i x v e1 e2 e3 => ?_⟩
    obtain ⟨u, rv, l⟩ := hl i x v e1 e2 e3
    refine ⟨u, rv, ?_⟩
    rcases l with l | ⟨k, c, e, z⟩
    · exact .inl l
    · exact .inr ⟨k, c, e, cK x c e _ z⟩
  · obtain ⟨v, z⟩ := I.cell x c e
    exact ⟨v, cK x c e v z⟩
  · obtain ⟨e, n, ne, nfs, d⟩ := I.pin p hp
    exact ⟨f.keep p.1 p.2 (fun q => (hz _ q).pin p hp rfl) (nf _ ne nfs) e, n, ne, nfs, d⟩
  · rcases hb with rfl | hb
    · exact f.keep b u (tr b o e).1 (tr b o e).2 q
    · exact f.keep b u (tr b _ hb).1 (tr b _ hb).2 q
end

section
variable {M : Model} {A : Around} {E : Value → Shared → Prop} {s : Shared} {base : Heap} {l : List Env}
theorem funFrames_hide {h h0 : Heap} {Z : List Addr} : ∀ {l : List Env}, h.FunFrames h0 l → (∀ b ∈ frs l, b ∈ Z) → h.FunFrames (PySem.W.hideAll h Z) l
  | [], _, _ => trivial
  | env :: r, ⟨k, ⟨L, o, e1, _, e3, e4⟩, q⟩, hz => by
    have hm : ∀ b ∈ frs r, b ∈ frs (env :: r) := fun b hb => by unfold frs; rw [List.filterMap_cons, e1]; exact List.mem_cons_of_mem _ hb
    exact ⟨k, ⟨L, o, e1, PySem.W.hideAll_none _ (hz L (by unfold frs; rw [List.filterMap_cons, e1]; exact List.mem_cons_self ..)), e3, e4⟩, funFrames_hide q fun b hb => hz b (hm b hb)⟩
theorem funFrames_mem {h h0 : Heap} : ∀ {l : List Env}, h.FunFrames h0 l → ∀ b ∈ frs l, ∃ o, h.get? b = some o ∧ ∀ vs, o.data ≠ .fields vs
  | env :: r, ⟨_, ⟨L, o, e1, _, e3, e4⟩, q⟩, b, hb => by
    unfold frs at hb; rw [List.filterMap_cons, e1] at hb
    rcases List.mem_cons.mp hb with rfl | hb
    · exact ⟨o, e3, e4⟩
    · exact funFrames_mem q b hb
theorem fl_of {h h' : Heap} {Z fr : List Addr} (k : (PySem.W.hideAll h (Z ++ fr)).StaysIn h') (fm : ∀ b ∈ fr, ∃ o, h.get? b = some o ∧ ∀ vs, o.data ≠ .fields vs)
    (sl : ∀ b o, h.get? b = some o → (∀ vs, o.data ≠ .fields vs) → ∃ sl, h'.get? b = some { o with slots := sl }) : Fl fr Z h h' :=
  ⟨fun b o h1 h2 e => k b o (PySem.W.hideAll_get _ e fun q => (List.mem_append.mp q).elim h1 h2), fun b o hb e => by
    obtain ⟨o', e1, e2⟩ := fm b hb
    rw [e] at e1; cases e1
    exact sl b o e e2⟩
end

section
variable {X : Cx} {pins : List (Addr × Obj)} {σ : St} {H : Hp} {s : Shared} {e : Addr} {C : Value} {Q : Unit → Shared → Prop} {E : Value → Shared → Prop}
structure Own (X : Cx) : Prop where
  stk : X.stack = X.env :: X.outer
  fr : X.env.frame = some X.env.locals
  ex : X.ex = []
def Up (X : Cx) (pins : List (Addr × Obj)) (H : Hp) (h : Heap) (e : Addr) (C : Value) : Prop := ∃ T fl, Ls X pins H T ∧ (fl = .none ∨ fl = rawInt X.env.locals) ∧ Flies h e T C fl
theorem trace_ls {Z : List Addr} {h' : Heap} {T : Addr} {oT : Obj} {ts : Array Value} (I : Inv X pins σ H s) (O : Own X) (hz : ∀ z ∈ Z, Ls X pins H z) (f : Fl (frs X.stack) Z s.heap h') (hn : (PySem.W.hideAll s.heap (Z ++ frs X.stack)).get? T = none)
    (hT : h'.get? T = some oT) (hd : oT.data = .fields ts) : Ls X pins H T := by
  cases q : s.heap.get? T with
  | none => exact I.ls q (by rw [O.ex]; simp)
  | some o =>
    by_cases hm : T ∈ Z ++ frs X.stack
    · rcases List.mem_append.mp hm with hm | hm
      · exact hz T hm
      · exfalso
        obtain ⟨o', e1, e2⟩ := funFrames_mem I.stack T hm
        rw [q] at e1; cases e1
        obtain ⟨sl, e3⟩ := f.slot T o hm q
        rw [hT] at e3; cases e3
        exact e2 ts hd
    · rw [PySem.W.hideAll_get _ q hm] at hn; cases hn
theorem leave_step (I : Inv X pins σ H s) (O : Own X) (le : Ls X pins H e) (hm : Made s.heap e C ∨ Up X pins H s.heap e C)
    (hq : ∀ h' T, Inv X pins σ H { s with heap := h' } → Ls X pins H T → Flies h' e T C .none → Q () { s with heap := h' }) : wpAny (model X.prog X.w) X.A («leaving» X.env (.ref e)) Q E s := by
  have hfr : X.A.frames = some (X.env :: X.outer) := O.stk ▸ I.ok.frames
  have stk := I.stack
  rcases hm with ⟨oe, vs, a0, he, ⟨hc, h0⟩, hd, h1⟩ | ⟨T, fl, lT, hfl, oe, vs, oT, ts, a0, he, ⟨hc, h0⟩, hd, h1, hTe, hT, hdT, h3⟩
  · have hz : ∀ z ∈ [e], Ls X pins H z := fun z hz => by rw [List.mem_singleton.mp hz]; exact le
    refine wpAny_leaving_firstW (base := PySem.W.hideAll s.heap ([e] ++ frs X.stack)) (a0 := a0) hfr (by rw [← O.stk]; exact funFrames_hide stk fun b hb => List.mem_append_right _ hb) O.fr he (fun b o q => PySem.W.of_hideAll _ q) (PySem.W.hideAll_none _ (by simp)) hd h1 h0 fun h' hL => ?_
    obtain ⟨x1, _, ⟨oe', vs', T, oT, ts, y1, y2, y3, y4, y5, y6, y7, y8, y9⟩, x4⟩ := hL
    have f : Fl (frs X.stack) [e] s.heap h' := fl_of x1 (funFrames_mem stk) x4
    exact hq h' T (I.fly hz f) (trace_ls I O hz f y5 y7 y8) ⟨oe', vs', oT, ts, a0, y1, ⟨y2.1.trans hc, y2.2⟩, y3, y4, y6, y7, y8, y9⟩
  · have hz : ∀ z ∈ [e, T], Ls X pins H z := fun z hz => by
      rcases List.mem_cons.mp hz with rfl | hz
      · exact le
      · rw [List.mem_singleton.mp hz]; exact lT
    rcases hfl with rfl | rfl
    · refine wpAny_leaving_nextW (base := PySem.W.hideAll s.heap ([e, T] ++ frs X.stack)) (cls := C) (a0 := a0) hfr (by rw [← O.stk]; exact funFrames_hide stk fun b hb => List.mem_append_right _ hb) O.fr
        ⟨oe, vs, T, oT, ts, he, ⟨hc, h0⟩, hd, h1, PySem.W.hideAll_none _ (by simp), hTe, hT, hdT, h3⟩ (fun b o q => PySem.W.of_hideAll _ q) (PySem.W.hideAll_none _ (by simp)) fun h' hL => ?_
      obtain ⟨x1, _, ⟨oe', vs', T', oT', ts', y1, y2, y3, y4, y5, y6, y7, y8, y9⟩, x4⟩ := hL
      have f : Fl (frs X.stack) [e, T] s.heap h' := fl_of x1 (funFrames_mem stk) x4
      exact hq h' T' (I.fly hz f) (trace_ls I O hz f y5 y7 y8) ⟨oe', vs', oT', ts', a0, y1, y2, y3, y4, y6, y7, y8, y9⟩
    · unfold «leaving»
      refine wpAny_bind (wpAny_noteFrame_againW (base := PySem.W.hideAll s.heap ([e, T] ++ frs X.stack)) (cls := C) (a0 := a0) O.fr ⟨oe, vs, T, oT, ts, he, ⟨hc, h0⟩, hd, h1, PySem.W.hideAll_none _ (by simp), hTe, hT, hdT, h3⟩ ?_)
      refine wpAny_setFlight_noneW (base := PySem.W.hideAll s.heap ([e, T] ++ frs X.stack)) (l := X.stack) (cls := C) (a0 := a0) (fl := rawInt X.env.locals) (fun b o q => PySem.W.of_hideAll _ q) (funFrames_hide stk fun b hb => List.mem_append_right _ hb)
        ⟨oe, vs, T, oT, ts, he, ⟨hc, h0⟩, hd, h1, PySem.W.hideAll_none _ (by simp), hTe, hT, hdT, h3⟩ fun h2 z1 _ ⟨oe2, vs2, T2, oT2, ts2, u1, u2, u3, u4, u5, u6, u7, u8, u9⟩ z4 => ?_
      have f2 : Fl (frs X.stack) [e, T] s.heap h2 := fl_of z1 (funFrames_mem stk) fun b o q n => ⟨o.slots, z4 b o q n⟩
      exact hq h2 T2 (I.fly hz f2) (trace_ls I O hz f2 u5 u7 u8) ⟨oe2, vs2, oT2, ts2, a0, u1, u2, u3, u4, u6, u7, u8, u9⟩
end

def CX1 (P : Program) (w : World) : CXT := fun outer H s E x s' => ∃ e T C H', x = .ref e ∧ s'.os = s.os ∧ AllBare s'.gens ∧ Un (frs outer) [] H H' s.heap s'.heap ∧ HOk P w H' s'.heap ∧
  (H' e = none ∧ s.heap.get? e = none) ∧ (H' T = none ∧ s.heap.get? T = none) ∧ Flies s'.heap e T C .none ∧ E C none H'
def XQ (X : Cx) (E : XK) (x : Value) (s' : Shared) : Prop := ∃ pins σ H e C, x = .ref e ∧ Inv X pins σ H s' ∧ Ls X pins H e ∧ (Made s'.heap e C ∨ Up X pins H s'.heap e C) ∧ E C none H
section
variable {P : Program} {w : World} {K : PySem.W.Frag} {mg : Str → Option Value} {base : Heap} {N : List Str} {qual : Str} {scope : Scope} {f : Addr} {cd : Value} {A : Around} {outer : List Env} {s : Shared} {H : Hp} {E : XK}
theorem own_cx {CX : CXT} : Own (cxOf CX P w K mg base N qual scope f cd A outer s H E) := ⟨rfl, rfl, rfl⟩
theorem leave_cx {x : Value} {s' : Shared} (h : XQ (cxOf (CX1 P w) P w K mg base N qual scope f cd A outer s H E) E x s') : (cxOf (CX1 P w) P w K mg base N qual scope f cd A outer s H E).xe x s' := by
  obtain ⟨pins, σ, H', e, C, rfl, I, le, hm, q⟩ := h
  refine leave_step I own_cx le hm fun h' T I' lT fl => ?_
  exact ⟨e, T, C, H', rfl, I'.os, I'.bare, I'.base, I'.hok, ⟨le.un, le.new⟩, ⟨lT.un, lT.new⟩, fl, q⟩
end
section
variable {X : Cx} {E : XK}
theorem Ls.unwish {pins : List (Addr × Obj)} {H : Hp} {z : Addr} {F : Value → Shared → Prop} (l : Ls (X.wish F) pins H z) : Ls X pins H z := ⟨l.un, l.new, l.loc, l.cell, l.pin⟩
theorem XQ.unwish {F : Value → Shared → Prop} {x : Value} {s' : Shared} (h : XQ (X.wish F) E x s') : XQ X E x s' := by
  obtain ⟨pins, σ, H, e, C, rfl, I, le, hm, q⟩ := h
  exact ⟨pins, σ, H, e, C, rfl, I.unwish, le.unwish, hm.imp id fun ⟨T, f, lT, hf, fl⟩ => ⟨T, f, lT.unwish, hf, fl⟩, q⟩
theorem passes1 {F : Value → Shared → Prop} (O : Own X) (hF : ∀ x s', XQ X E x s' → X.xe x s') : Passes (CX1 X.prog X.w) X E := fun pins σ H s x s' I h => by
  obtain ⟨e, T, C, H', rfl, os, bare, un, hok, ⟨e1, e2⟩, ⟨t1, t2⟩, fl, q⟩ := h
  have I' : Inv X pins σ H' s' := I.call' os un hok bare fun b z => nomatch z
  have ls : ∀ z, H' z = none → s.heap.get? z = none → Ls X pins H' z := fun z h1 h2 => by
    have l := I.ls h2 (by rw [O.ex]; simp)
    exact ⟨h1, l.new, l.loc, l.cell, l.pin⟩
  exact hF _ _ ⟨pins, σ, H', e, C, rfl, I', ls e e1 e2, .inr ⟨T, _, ls T t1 t2, .inl rfl, fl⟩, q⟩
end

theorem exc_obj {K : PySem.W.Frag} {h : Heap} {C : Addr} {bmB : List Value} {newId : String} (X : K.In h) (q : PySem.W.excIn K C bmB newId = true) :
    ∃ bm N nm q bs hdct sn sub ab col dd k0 k1 k2 k3 k5 mN, h.get? C = some (excClassObj nm q C N bs bm hdct sn sub ab col dd k0 k1 k2 k3 k5 newId) ∧ h.Ns N mN ∧ mN "__init__" = none ∧ OwnTail h bmB bm := by
  unfold PySem.W.excIn at q
  split at q
  case h_2 => cases q
  case h_1 d₁ data₁ slots₁ there =>
    split at q
    case h_2 => cases q
    case h_1 C₁ tail₁ a₀ a₁ a₂ a₃ new₁ a₅ mroIs slotsAre =>
      rw [Bool.and_eq_true, Bool.and_eq_true, Bool.and_eq_true, Bool.and_eq_true, Bool.and_eq_true] at q
      obtain ⟨⟨⟨⟨⟨q1, q2⟩, q3⟩, q4⟩, q5⟩, q6⟩ := q
      cases eq_of_beq q1
      cases eq_of_beq q2
      obtain ⟨y1, y2, y3, y4, y5, y6, y7, y8, y9, y10, y11⟩ := data₁
      dsimp only at mroIs q3 q5 q6
      subst mroIs
      have y11' : y11 = false := by simpa using q3
      subst y11'
      have sl' : slots₁ = #[a₀, a₁, a₂, a₃, some (.builtin newId), a₅] := by cases slots₁; simp only at slotsAre; rw [slotsAre]
      subst sl'
      exact ⟨_, _, _, _, _, _, _, _, _, _, _, _, _, _, _, _, _, X _ _ there, .of_isNs (PySem.W.isNs_of_in X q5), PySem.W.nsMap_none_of_in X q5 (eq_of_beq q6), PySem.W.tail_of_in X q4⟩
structure ExcK (K : PySem.W.Frag) (mg : Str → Option Value) (x : Str) (C : Addr) : Prop where
  bound : mg x = some (.ref C)
  inK : PySem.W.excIn K C [.type "ValueError", .type "Exception", .type "BaseException", .type "object"] "ValueError.__new__" = true
def tRaise (C : Addr) (E : XK) (t : TA) : TS := fun _ σ H => t σ H fun vs H1 => vs.length ≤ 1000 ∧ E (.ref C) none H1
section
variable {X : Cx} {E : XK} {x : Str} {C : Addr} {np cpos pos : Pos} {e₀ : Expr} {es : List Expr} {t : TA}
theorem ps_raise (k : ExcK X.K X.mg x C) (hE : ∀ y s', XQ X E y s' → X.xe y s') (hx : X.ex = []) (hg : Gl X x) (ha : PA X (e₀ :: es) t) (hc : X.calm = true)
    (he : starEach (e₀ :: es) X.env = (false, eval e₀ X.env) :: starEach es X.env := by rfl) (hpl : (backTo cpos (starEach es X.env)).any (·.1) = false := by rfl) (hd : (x == ("__debug__" : Str)) = false := by decide) :
    PS X (.Raise (some (.Call (.Name x np) (e₀ :: es) [] cpos)) none pos) (tRaise C E t) := by
  intro pins s σ H D I h
  obtain ⟨bm, N, nm, q, bs, hdct, sn, sub, ab, col, dd, k0, k1, k2, k3, k5, mN, hC, hN, hni, T⟩ := exc_obj I.mod.kin k.inK
  refine wpAny_Raise_call_subU PySem.F.excBase_ValueError (by decide) PySem.F.excBase_ValueError (C := C) (N := N) (nm := nm) (q := q) (bs := bs) (bm := bm) (hdct := hdct) (sn := sn) (sub := sub) (ab := ab) (col := col) (dd := dd) (k0 := k0) (k1 := k1) (k2 := k2) (k3 := k3) (k5 := k5) (mN := mN)
    (T.hasType (X := "BaseException") (b := true) (by decide)) (I.ok.hd hc) (by rw [he]; show (false || (backTo cpos (starEach es X.env)).any (·.1)) = false; rw [hpl]; rfl) hni ?_
  refine ld_glob I hg k.bound ⟨rfl, ?_⟩ hd
  have h2 := ha cpos pins s σ H _ I h
  rw [he] at h2 ⊢
  refine Calls.evalArgs_plain (thn h2 fun us s2 ⟨vs, H2, I2, r, hl, w⟩ => ?_)
  refine ⟨rfl, ?_, I2.bk _ _ hC, hN.keeps I2.bk, T.keeps I2.bk, fun h' e hm => ?_⟩
  · rw [show us.length = vs.length from r.length.symm]
    exact Nat.le_of_lt (small1000 hl)
  · obtain ⟨t, he, _, _⟩ := hm.there
    exact hE _ _ ⟨pins, σ, H2, e, .ref C, rfl, I2.kept (t' := s2.toks) hm.keeps, I2.ls hm.new (by rw [hx]; simp), .inl ⟨_, _, _, he, ⟨rfl, rfl⟩, rfl, rfl⟩, w⟩
end
theorem Fun.okX {P : Program} {w : World} {K : PySem.W.Frag} {mg : Str → Option Value} {base : Heap} {x qual : Str} {st : Stmt} {f : Addr} {fd : FuncData} {N ps : List Str} {k : Nat} {sp : Sp} (F : Fun K x qual st f fd) (S : FnScope N ps (defScope st)) (len : ∀ vs H Q E, sp vs H Q E → vs.length = ps.length)
    (hbody : ∀ (cdv : Value) (A : Around) (outer : List Env) (s : Shared) (H : Hp) (vs : List V) (Q : VK) (E : XK), Room k (A.deeper (envOfC qual (defScope st) s.heap.objs.size f cdv)) → sp vs H Q E →
      ∃ t, PSs ((cxOf (CX1 P w) P w K mg base N qual (defScope st) f cdv A outer s H E).wish (XQ (cxOf (CX1 P w) P w K mg base N qual (defScope st) f cdv A outer s H E) E)) (defBody st) t ∧ t { nx := fun _ H' => Q .non H', rt := Q } (start N vs) H) :
    FnOk P w K mg base (CX1 P w) (k + 1) f fd ps sp := by
  obtain ⟨oc, od, kV, doc, pm, an, cdv, ct, osl, rfl, lk, hcd⟩ := F.ex
  refine fn_of lk hcd S len fun A outer s H vs Q E hr hsp => ?_
  obtain ⟨t, h, q⟩ := hbody cdv A outer s H vs Q E hr hsp
  exact ⟨t, fun pins s σ H D I hw => wpAny_mono (h pins s σ H D (I.wish _) hw) (fun _ _ q => q.unwish) fun _ _ z => leave_cx z, q⟩
theorem FnOk.calm {P : Program} {w : World} {K : PySem.W.Frag} {mg : Str → Option Value} {base : Heap} {CX : CXT} {k : Nat} {f : Addr} {fd : FuncData} {ps : List Str} {sp : Sp} (F : FnOk P w K mg base CX0 k f fd ps sp) : FnOk P w K mg base CX k f fd ps sp :=
  ⟨F.len, fun A outer s H args us vs Q E hr he hb hv hs => codeAny_mono (F.run A outer s H args us vs Q E hr he hb hv hs) fun r s' h => by
    cases r with
    | ok f => cases f <;> exact h
    | error e => exact False.elim h⟩
theorem wish_xe {X : Cx} {E : XK} : ∀ y s', XQ (X.wish (XQ X E)) E y s' → (X.wish (XQ X E)).xe y s' := fun _ _ h => h.unwish
end L2

set_option Elab.async false
set_option linter.all false
set_option maxRecDepth 100000
namespace L2
open PySem PySem.Spec PyProof.Rows

theorem Own.wish {X : Cx} {F : Value → Shared → Prop} (O : Own X) : Own (X.wish F) := ⟨O.stk, O.fr, O.ex⟩
abbrev Cx.marked (X : Cx) (e : Addr) : Cx := { X with A := X.A.mark (some (.ref e)), calm := false, xe := fun _ _ => False }
section
variable {X : Cx} {pins : List (Addr × Obj)} {σ : St} {H : Hp} {s : Shared} {e T : Addr} {C fl : Value} {Q : Unit → Shared → Prop} {E : Value → Shared → Prop} {A : Around}
end
def tHand (X : Cx) : List (Addr × TS) → Ends → Value → Hp → Prop
  | [], _, _, _ => False
  | (c, t) :: r, D, C, H => (PySem.W.exmOne X.K C (.ref c) = some true ∧ t D (List.replicate X.N.length none) H) ∨ (PySem.W.exmOne X.K C (.ref c) = some false ∧ tHand X r D C H)
inductive Hands (X : Cx) : List ExceptHandler → List (Addr × TS) → Prop
  | nil : Hands X [] []
  | cons {x : Str} {np pos : Pos} {b₀ : Stmt} {suite : List Stmt} {hs : List ExceptHandler} {c : Addr} {t : TS} {r : List (Addr × TS)} (hg : Gl X x) (hm : X.mg x = some (.ref c)) (hd : (x == ("__debug__" : Str)) = false) (ht : ∀ e, PSs (X.marked e) (b₀ :: suite) t) (h : Hands X hs r) :
      Hands X (.ExceptHandler (some (.Name x np)) none (b₀ :: suite) pos :: hs) ((c, t) :: r)
def tTry (X : Cx) (tb : XK → TS) (hs : List (Addr × TS)) : TS := fun D σ H => tb (fun C _ H' => tHand X hs D C H') D σ H
section
variable {X : Cx} {D : Ends}
abbrev Cx.pinned (X : Cx) (pn : List (Addr × Obj)) : Cx := { X with pn := pn }
abbrev Cx.inTry (X : Cx) (pn : List (Addr × Obj)) (E : XK) : Cx := (X.pinned pn).wish (XQ (X.pinned pn) E)
end
end L2

set_option Elab.async false
set_option linter.all false
set_option maxRecDepth 100000
namespace L2
open PySem PySem.Spec PyProof.Rows

def TopK (P : Program) (w : World) (K : PySem.W.Frag) (a : Addr) (kvs : List (Key × V)) : Prop :=
  (a == sysModules) = false ∧ ∃ vs, KV kvs vs ∧ ∀ h : Heap, K.In h → h.DictOf (mixKind P w) a vs
def TopT (P : Program) (w : World) (K : PySem.W.Frag) (a : Addr) (kvs : List (List Key × V)) : Prop :=
  (a == sysModules) = false ∧ ∃ xs : List (List Key × Addr × Value), Paired (fun (p : List Key × V) (q : List Key × Addr × Value) => p.1 = q.1 ∧ RelV p.2 q.2.2) kvs xs ∧ ∀ h : Heap, K.In h → h.DictOfH (tupleKind (mixKind P w)) a xs
theorem topT_val {kvs : List (List Key × V)} {xs : List (List Key × Addr × Value)} (r : Paired (fun (p : List Key × V) (q : List Key × Addr × Value) => p.1 = q.1 ∧ RelV p.2 q.2.2) kvs xs) (k : List Key) : RelO (valV kvs k) ((atKey xs k).map (·.2)) := by
  induction r with
  | nil => exact True.intro
  | @cons p q ps qs hq t ih =>
    obtain ⟨e, rv⟩ := hq
    by_cases hk : p.1 = k
    · rw [valV_pos hk]
      have : atKey (q :: qs) k = some q.2 := by simp [atKey, List.find?_cons, ← e, hk]
      rw [this]; exact rv
    · rw [valV_neg hk]
      have : atKey (q :: qs) k = atKey qs k := by simp [atKey, List.find?_cons, ← e, hk]
      rw [this]; exact ih
def KGet (P : Program) (w : World) (K : PySem.W.Frag) (H : Hp) (a : Addr) (y : V) (r : Option V) : Prop :=
  (∃ kvs k, TopK P w K a kvs ∧ y = kV k ∧ r = valV kvs k) ∨ ∃ kvs k b, TopT P w K a kvs ∧ y = .ref b ∧ H b = some (.tup (k.map kV)) ∧ r = valV kvs k
section
variable {X : Cx} {pins : List (Addr × Obj)} {σ : St} {H : Hp} {s : Shared} {a : Addr} {y v : V} {u r : Value} {o : Option V} {A : Around} {E : Value → Shared → Prop}
theorem k_getItem {Q : Value → Shared → Prop} (hu : A.units + 1 < cLine) (I : Inv X pins σ H s) (g : KGet X.prog X.w X.K H a y (some v)) (ry : RelV y u) (h : ∀ w' s', Inv X pins σ H s' → RelV v w' → Q w' s') :
    wpAny (model X.prog X.w) A (getItem (.ref a) u) Q E s := by
  rcases g with ⟨kvs, k, ⟨hd, vs, rel, dd⟩, ey, l⟩ | ⟨kvs, k, b, ⟨hd, xs, rel, dd⟩, ey, eb, l⟩
  · subst ey
    obtain ⟨w', hw, rw'⟩ := RelO.some_of (v := v) (o := valueAt vs k) (by rw [l]; exact rel.val k)
    exact wpAny_getItem_of (kV_is ry) (dd _ I.kIn).mapOf hw (h w' _ (I.tok _) rw')
  · subst ey
    cases (show u = Value.ref b from ry)
    obtain ⟨w', hw, rw'⟩ := RelO.some_of (v := v) (o := (atKey xs k).map (·.2)) (by rw [l]; exact topT_val rel k)
    obtain ⟨p, hp, hp2⟩ := Option.map_eq_some_iff.mp hw
    refine wpAny_getItem_heap (tupleKind_room_in1 hu) (key_of I.hok eb) (dd _ I.kIn) hp ?_
    rw [hp2]
    exact h w' _ (I.tok _) rw'
theorem k_notIn {Q : Value → Shared → Prop} (hu : A.units + 1 < cLine) (I : Inv X pins σ H s) (g : KGet X.prog X.w X.K H a y o) (ry : RelV y u) (h : ∀ s', Inv X pins σ H s' → Q (.bool (!o.isSome)) s') :
    wpAny (model X.prog X.w) A (compareOp .NotIn u (.ref a)) Q E s := by
  rcases g with ⟨kvs, k, ⟨hd, vs, rel, dd⟩, ey, l⟩ | ⟨kvs, k, b, ⟨hd, xs, rel, dd⟩, ey, eb, l⟩
  · subst ey
    refine wpAny_notIn_of (kV_is ry) hd (dd _ I.kIn).mapOf ?_
    rw [← (rel.val k).isSome_eq, ← l]
    exact h _ (I.tok _)
  · subst ey
    cases (show u = Value.ref b from ry)
    refine wpAny_notIn_heap (tupleKind_room_in1 hu) (key_of I.hok eb) hd (dd _ I.kIn) ?_
    have q := (topT_val rel k).isSome_eq
    rw [Option.isSome_map] at q
    rw [← q, ← l]
    exact h _ (I.tok _)
theorem k_in {Q : Value → Shared → Prop} (hu : A.units + 1 < cLine) (I : Inv X pins σ H s) (g : KGet X.prog X.w X.K H a y o) (ry : RelV y u) (h : ∀ s', Inv X pins σ H s' → Q (.bool o.isSome) s') :
    wpAny (model X.prog X.w) A (compareOp .In u (.ref a)) Q E s := by
  rcases g with ⟨kvs, k, ⟨hd, vs, rel, dd⟩, ey, l⟩ | ⟨kvs, k, b, ⟨hd, xs, rel, dd⟩, ey, eb, l⟩
  · subst ey
    refine wpAny_in_of (kV_is ry) hd (dd _ I.kIn).mapOf ?_
    rw [← (rel.val k).isSome_eq, ← l]
    exact h _ (I.tok _)
  · subst ey
    cases (show u = Value.ref b from ry)
    refine wpAny_in_heap (tupleKind_room_in1 hu) (key_of I.hok eb) hd (dd _ I.kIn) ?_
    have q := (topT_val rel k).isSome_eq
    rw [Option.isSome_map] at q
    rw [← q, ← l]
    exact h _ (I.tok _)
theorem k_typeIs (I : Inv X pins σ H s) (g : KGet X.prog X.w X.K H a y o) : s.TypeIs (.ref a) "dict" := by
  rcases g with ⟨kvs, k, ⟨hd, vs, rel, dd⟩, ey, l⟩ | ⟨kvs, k, b, ⟨hd, xs, rel, dd⟩, ey, eb, l⟩
  · exact (dd _ I.kIn).typeIs
  · exact (dd _ I.kIn).typeIs
end
def tKGet (P : Program) (w : World) (K : PySem.W.Frag) (td ty : TE) : TE := fun σ H Q => td σ H fun x H1 => ty σ H1 fun y H2 => ∃ a v, x = .ref a ∧ KGet P w K H2 a y (some v) ∧ Q v H2
def tKIn (P : Program) (w : World) (K : PySem.W.Frag) (ty td : TE) : TE := fun σ H Q => ty σ H fun y H1 => td σ H1 fun x H2 => ∃ a o, x = .ref a ∧ KGet P w K H2 a y o ∧ Q (.bl o.isSome) H2
def tKNotIn (P : Program) (w : World) (K : PySem.W.Frag) (ty td : TE) : TE := fun σ H Q => ty σ H fun y H1 => td σ H1 fun x H2 => ∃ a o, x = .ref a ∧ KGet P w K H2 a y o ∧ Q (.bl (!o.isSome)) H2
section
variable {X : Cx} {o i e value : Expr} {pos pos' tpos : Pos} {td ty tv : TE}
theorem pe_kget (hu : X.A.units + 1 < cLine) (ho : PE X o td) (hi : PE X i ty) (hs : NoSl i) : PE X (.Subscript o i pos) (tKGet X.prog X.w X.K td ty) := by
  intro pins s σ H Q I h
  refine subD_of PySem.F.slot_dict_getitem.lookup hs (thn (ho pins s σ H _ I h) fun u s1 ⟨x, H1, I1, rx, q1⟩ => thn (hi pins s1 σ H1 _ I1 q1) fun iv s2 ⟨y, H2, I2, ry, a, v, ex, g, q2⟩ => ?_)
  subst ex
  obtain rfl : u = Value.ref a := rx
  exact ⟨k_typeIs I2 g, k_getItem hu I2 g ry fun w' s3 I3 rw' => ⟨v, H2, I3, rw', q2⟩⟩
theorem pc_kin (hu : X.A.units + 1 < cLine) (hi : PE X i ty) (ho : PE X o td) : PC X .In i o (tKIn X.prog X.w X.K ty td) := by
  intro pins s σ H Q I h
  refine thn (hi pins s σ H _ I h) fun iv s1 ⟨y, H1, I1, ry, q1⟩ => thn (ho pins s1 σ H1 _ I1 q1) fun u s2 ⟨x, H2, I2, rx, a, ov, ex, g, q2⟩ => ?_
  subst ex
  obtain rfl : u = Value.ref a := rx
  exact k_in hu I2 g ry fun s3 I3 => ⟨.bl ov.isSome, H2, I3, rfl, q2⟩
theorem pc_knotin (hu : X.A.units + 1 < cLine) (hi : PE X i ty) (ho : PE X o td) : PC X .NotIn i o (tKNotIn X.prog X.w X.K ty td) := by
  intro pins s σ H Q I h
  refine thn (hi pins s σ H _ I h) fun iv s1 ⟨y, H1, I1, ry, q1⟩ => thn (ho pins s1 σ H1 _ I1 q1) fun u s2 ⟨x, H2, I2, rx, a, ov, ex, g, q2⟩ => ?_
  subst ex
  obtain rfl : u = Value.ref a := rx
  exact k_notIn hu I2 g ry fun s3 I3 => ⟨.bl (!ov.isSome), H2, I3, rfl, q2⟩
end
theorem topK_texts {P : Program} {w : World} {K : PySem.W.Frag} {a : Addr} {xs : List (Str × Nat × Value)} {kvs : List (Key × V)} {n : Nat} (hl : K.lookup a = some ⟨.type "dict", none, .dict (xs.map fun x => (⟨PyData.keyHash w.params x.1, .str x.1 x.2.1, x.2.2⟩ : DictEntry)).toArray n, #[]⟩)
    (hs : (a == sysModules) = false) (hk : KV kvs (xs.map fun x => ((Sum.inr x.1 : Key), x.2.2))) (nd : (xs.map (·.1)).Nodup) : TopK P w K a kvs := by
  refine ⟨hs, _, hk, fun h X => ⟨_, _, _, X _ _ hl, ⟨rfl, rfl, rfl⟩, rfl, ?_, ?_, ?_⟩⟩
  · intro e he
    simp only [List.mem_toArray, List.mem_map] at he
    obtain ⟨x, _, rfl⟩ := he
    exact ⟨.inr x.1, keyIs_str x.1 x.2.1, rfl⟩
  · simp only
    clear hl hk nd
    induction xs with
    | nil => exact .nil
    | cons x r ih => exact .cons (keyIs_str x.1 x.2.1) rfl ih
  · rw [List.map_map]
    have : ((fun kv : Key × Value => kv.1) ∘ fun x : Str × Nat × Value => ((Sum.inr x.1 : Key), x.2.2)) = (fun x => Sum.inr x.1) := rfl
    rw [this]
    have e : (xs.map fun x => (Sum.inr x.1 : Key)) = (xs.map (·.1)).map Sum.inr := by rw [List.map_map]; rfl
    rw [e]
    exact List.pairwise_map.mpr (List.Pairwise.imp (fun h h' => h (Sum.inr.inj h')) nd)
theorem topT_pairs {P : Program} {w : World} {K : PySem.W.Frag} {a : Addr} {xs : List ((Str × Nat) × (Str × Nat) × Addr × Value)} {kvs : List (List Key × V)} {n : Nat}
    (hl : K.lookup a = some ⟨.type "dict", none, .dict (xs.map fun x => (⟨reduceHash (Builtin.Tuple.tupleHashOf [PyData.keyHash w.params x.1.1, PyData.keyHash w.params x.2.1.1]), .ref x.2.2.1, x.2.2.2⟩ : DictEntry)).toArray n, #[]⟩)
    (ht : ∀ x ∈ xs, K.lookup x.2.2.1 = some ⟨.type "tuple", none, .seq #[.str x.1.1 x.1.2, .str x.2.1.1 x.2.1.2] 0, #[]⟩)
    (hs : (a == sysModules) = false) (hk : Paired (fun (p : List Key × V) (q : List Key × Addr × Value) => p.1 = q.1 ∧ RelV p.2 q.2.2) kvs (xs.map fun x => ([(Sum.inr x.1.1 : Key), Sum.inr x.2.1.1], x.2.2.1, x.2.2.2)))
    (nd : (xs.map fun x => (x.1.1, x.2.1.1)).Nodup) : TopT P w K a kvs := by
  refine ⟨hs, _, hk, fun h X => ⟨_, _, _, X _ _ hl, ⟨rfl, rfl, rfl⟩, rfl, ?_, ?_, ?_⟩⟩
  · rw [List.map_map]; rfl
  · intro y hy
    obtain ⟨x, hx, rfl⟩ := List.mem_map.mp hy
    exact ⟨_, _, _, X _ _ (ht x hx), rfl, rfl, .cons (keyIs_str x.1.1 x.1.2) (.cons (keyIs_str x.2.1.1 x.2.1.2) .nil)⟩
  · rw [List.map_map]
    have e : (xs.map ((fun y : List Key × Addr × Value => y.1) ∘ fun x => ([(Sum.inr x.1.1 : Key), Sum.inr x.2.1.1], x.2.2.1, x.2.2.2))) = (xs.map fun x => (x.1.1, x.2.1.1)).map fun p => [(Sum.inr p.1 : Key), Sum.inr p.2] := by rw [List.map_map]; rfl
    rw [e]
    refine List.pairwise_map.mpr (List.Pairwise.imp (fun {p q} h h' => h ?_) nd)
    injection h' with h1 h2
    injection h2 with h2 _
    exact Prod.ext (Sum.inr.inj h1) (Sum.inr.inj h2)
end L2

set_option Elab.async false
set_option linter.all false
set_option maxRecDepth 100000
namespace L2
open PySem PySem.Spec PyProof.Rows PySem.Builtin

def tF (tv : TE) : TE := fun σ H Q => tv σ H fun x H1 => ∃ t : Str, x = .str t ∧ t.length ≤ sizeLine ∧ Q (.str t) H1
def tFr (tv : TE) : TE := fun σ H Q => tv σ H fun x H1 => ∃ t : Str, x = .str t ∧ (reprText t).length ≤ sizeLine ∧ Q (.str (reprText t)) H1
def tParts : List TE → Str → TE
  | [], out => fun _ H Q => out.length ≤ sizeLine ∧ Q (.str out) H
  | t :: r, out => fun σ H Q => t σ H fun x H1 => ∃ y : Str, x = .str y ∧ (out ++ y).length ≤ sizeLine ∧ tParts r (out ++ y) σ H1 Q
inductive PFs (X : Cx) : List Expr → List TE → Prop
  | nil : PFs X [] []
  | cons {e : Expr} {t : TE} {es : List Expr} {ts : List TE} : PE X e t → PFs X es ts → PFs X (e :: es) (t :: ts)
section
variable {X : Cx} {e v₁ v₂ : Expr} {es : List Expr} {ts : List TE} {tv : TE} {pos : Pos}
theorem pe_fplain (h : PE X e tv) : PE X (.FormattedValue e (-1) none pos) (tF tv) := by
  intro pins s σ H Q I hq
  refine wpAny_FormattedValue_plain (thn (h pins s σ H _ I hq) fun u s1 ⟨x, H1, I1, r, t, ex, hz, q⟩ => ?_)
  subst ex
  obtain ⟨tk, rfl⟩ := r
  exact formatField_str (fun t' tk' => ⟨.str t, H1, I1.tok tk', ⟨t', rfl⟩, q⟩) hz
theorem pe_frepr (h : PE X e tv) : PE X (.FormattedValue e 114 none pos) (tFr tv) := by
  intro pins s σ H Q I hq
  refine wpAny_FormattedValue_repr (thn (h pins s σ H _ I hq) fun u s1 ⟨x, H1, I1, r, t, ex, hz, q⟩ => ?_)
  subst ex
  obtain ⟨tk, rfl⟩ := r
  refine wpAny_pyReprObj_str ?_ hz
  exact formatField_str (fun t' tk' => ⟨.str (reprText t), H1, I1.tok tk', ⟨t', rfl⟩, q⟩) hz
theorem joins {pins : List (Addr × Obj)} {σ : St} {Q : VK} : ∀ {es : List Expr} {ts : List TE}, PFs X es ts → ∀ {out : Str} {s : Shared} {H : Hp}, Inv X pins σ H s → tParts ts out σ H Q → wpAny (model X.prog X.w) X.A (joinParts out (evalEach es X.env)) (EP X pins σ Q) X.xe s
  | _, _, .nil, out, s, H, I, ⟨hz, q⟩ => joinParts_nilE (joinParts_nil ⟨.str out, H, I.tok _, ⟨_, rfl⟩, q⟩ hz)
  | _, _, .cons he hr, out, s, H, I, hq => by
    refine joinParts_consE (joinParts_cons (thn (he pins s σ H _ I hq) fun u s1 ⟨x, H1, I1, r, y, ex, hz, q⟩ => ?_))
    subst ex
    obtain ⟨tk, rfl⟩ := r
    exact ⟨hz, joins hr I1 q⟩
theorem pe_joined (h : PFs X (v₁ :: v₂ :: es) ts) : PE X (.JoinedStr (v₁ :: v₂ :: es) pos) (tParts ts Str.empty) := by
  intro pins s σ H Q I hq
  rw [arm_eval_JoinedStr]
  show wpAny _ _ (joinParts Str.empty (evalEach (v₁ :: v₂ :: es) X.env)) _ _ _
  exact joins h I hq
end
end L2

set_option Elab.async false
set_option linter.all false
set_option maxRecDepth 100000
namespace L2
open PySem PySem.Spec PyProof.Rows

structure FnX (P : Program) (w : World) (K : PySem.W.Frag) (mg : Str → Option Value) (base : Heap) (x : Str) (k : Nat) (sp : Sp) : Prop where
  ex : ∃ (f : Addr) (fd : FuncData) (ps : List Str), FnOk P w K mg base (CX1 P w) k f fd ps sp ∧ mg x = some (.ref f) ∧ PySem.W.keepIn K (.ref f) = true ∧ Binds K fd ps []
theorem FnX.mk' {P : Program} {w : World} {K : PySem.W.Frag} {mg : Str → Option Value} {base : Heap} {x : Str} {k : Nat} {sp : Sp} {f : Addr} {fd : FuncData} {ps : List Str} (ok : FnOk P w K mg base (CX1 P w) k f fd ps sp) (m : mg x = some (.ref f))
    (kp : PySem.W.keepIn K (.ref f) = true) (b : Binds K fd ps []) : FnX P w K mg base x k sp := ⟨f, fd, ps, ok, m, kp, b⟩
theorem Fn.x {P : Program} {w : World} {K : PySem.W.Frag} {mg : Str → Option Value} {base : Heap} {x : Str} {k : Nat} {sp : Sp} (G : Fn P w K mg base x k sp) : FnX P w K mg base x k sp :=
  let ⟨f, fd, ps, ok, m, kp, b⟩ := G.ex; ⟨f, fd, ps, ok.calm, m, kp, b⟩
section
variable {X : Cx} {x : Str} {p pos : Pos} {e : Expr} {es : List Expr} {t : TA} {k j : Nat} {sp : Sp} {E : XK}
theorem pe_fnX (G : FnX X.prog X.w X.K X.mg X.base x j sp) (hx : Passes (CX1 X.prog X.w) X E) (hr : Room k X.A) (hg : Gl X x) (ha : PA X (e :: es) t) (hj : j ≤ k := by decide) (hdb : (x == ("__debug__" : Str)) = false := by decide)
    (he : starEach (e :: es) X.env = (false, eval e X.env) :: starEach es X.env := by rfl) (hpl : (backTo pos (starEach es X.env)).any (·.1) = false := by rfl) : PE X (.Call (.Name x p) (e :: es) [] pos) (tCall sp [] E t) := by
  obtain ⟨f, fd, ps, F, hm, hk, hb⟩ := G.ex
  exact pe_call F (hr.mono hj) hg hm hk hb .nil hx ha hdb he hpl
theorem passN : Passes (CX1 X.prog X.w) X E0 := fun _ _ _ _ _ _ _ h => by
  obtain ⟨_, _, _, _, _, _, _, _, _, _, _, _, q⟩ := h
  exact False.elim q
theorem passR (O : Own X) : Passes (CX1 X.prog X.w) (X.wish (XQ X E)) E := passes1 (X := X.wish (XQ X E)) (F := fun _ _ => True) O.wish fun _ _ h => h.unwish
end
section
variable {P : Program} {w : World} {K : PySem.W.Frag} {mg : Str → Option Value} {base : Heap}
def spTest (c : Addr) : Sp := fun vs H Q E => ∃ k : Str, vs = [.str k] ∧ (reprText k).length ≤ 1000 ∧ if k = "row" ∨ k = "number" then Q .non H else E (.ref c) none H
end
end L2

set_option Elab.async false
set_option linter.all false
set_option maxRecDepth 100000
namespace HT
open PySem PySem.Spec PyProof.Rows
section
variable {prog : Program} {w : World} {A : Around} {E : Value → Shared → Prop} {s : Shared}
theorem getItem_tuple_all {t sl : Addr} {items : Array Value} {vl vu : Value} {lo hi : Option Int} {Q : Value → Shared → Prop} (ht : IsTup s.heap t items) (hs : s.heap.IsSliceOf sl vl vu .none) (pl : IsPart vl lo) (pu : IsPart vu hi)
    (hw : sIx items.size 0 lo = 0 ∧ sIx items.size items.size hi = items.size) (h : Q (.ref t) s) (hsz : items.size ≤ sizeLine) : wpAny (model prog w) A (getItem (.ref t) (.ref sl)) Q E s := by
  obtain ⟨os, hos, hcs, hds⟩ := id hs
  have hTs : s.TypeIs (.ref sl) "slice" := ⟨os, hos, hcs⟩
  unfold getItem
  refine wpAny_holding ?_
  refine wpAny_bind (wpAny_sequenceKey ht.typeIs (by decide) ?_)
  refine wpAny_bind (wpAny_callSpecial?_slot (name := Str.ofString "__getitem__") ht.typeIs PyProof.Rows.slot_tuple_getitem
    (wpAny_call_entry PyProof.Rows.slot_tuple_getitem ht.typeIs entry_tuple_getitem ?_ (args_tuple_getitem _ _)))
  show wpAny _ _ (Builtin.Tuple.tupleItemsOf (.ref t) >>= _) _ _ s
  refine wpAny_bind (tupleItemsOf_ ht ?_)
  refine wpAny_bind (wpAny_typeOf hTs ?_)
  rw [if_pos (by decide)]
  refine wpAny_bind (sliceApplied_gen hs pl pu ?_)
  have hyes : (((sIx items.size 0 lo : Nat) : Int) == 0 && (1 : Int) == 1 && (sIx items.size items.size hi - sIx items.size 0 lo) == items.size) = true := by rw [hw.1, hw.2]; simp
  show wpAny _ _ (if (((sIx items.size 0 lo : Nat) : Int) == 0 && (1 : Int) == 1 && (sIx items.size items.size hi - sIx items.size 0 lo) == items.size) = true then _ else _) _ _ s
  rw [if_pos hyes]
  refine wpAny_bind (m := Builtin.Tuple.tupleIsExact _) ?_
  unfold Builtin.Tuple.tupleIsExact
  refine wpAny_bind (wpAny_typeOf ht.typeIs ?_)
  refine wpAny_pure ?_
  rw [if_pos (by decide)]
  exact wpAny_bind (wpAny_rule (wpAny_pure ⟨_, rfl, wpAny_pure h⟩))
end
end HT
namespace L2
open PySem PySem.Spec PyProof.Rows
def rSlT' (K : PySem.W.Frag) : V → Option Int → Option Int → Hp → VK → Prop := fun x lo hi H Q => ∃ a xs, x = .ref a ∧ SqT K H a xs ∧
  ((HT.sIx xs.length 0 lo = 0 ∧ HT.sIx xs.length xs.length hi = xs.length ∧ Q (.ref a) H) ∨ (¬ (HT.sIx xs.length 0 lo = 0 ∧ HT.sIx xs.length xs.length hi = xs.length) ∧ ∀ p, H p = none → Q (.ref p) (upd H p (.tup (cutV xs lo hi)))))
theorem sl_tup' {X : Cx} : SlR X (rSlT' X.K) := by
  intro pins s σ H x v vl vu lo hi sl Q I rx hs pl pu h
  obtain ⟨a, xs, rfl, hx, h⟩ := h
  rcases h with ⟨h1, h2, q⟩ | ⟨hw, q⟩
  · cases rx
    obtain ⟨its, r, ht, hz⟩ := I.tuple hx
    have hlen : its.toArray.size = xs.length := by rw [List.size_toArray]; exact r.length.symm
    refine ⟨"tuple", _, PyProof.Rows.slot_tuple_getitem.lookup, ht.typeIs, ?_⟩
    exact HT.getItem_tuple_all ht hs pl pu (by rw [hlen]; exact ⟨h1, h2⟩) ⟨.ref a, H, I, rfl, q⟩ (by rw [hlen]; exact hz)
  · exact sl_tup pins s σ H _ v vl vu lo hi sl Q I rx hs pl pu ⟨a, xs, rfl, hx, hw, q⟩
end L2

set_option Elab.async false
set_option linter.all false
set_option maxRecDepth 100000
namespace L2
open PySem PySem.Spec PyProof.Rows

def TyX (K : PySem.W.Frag) (H : Hp) (x : V) (t : Value) : Prop :=
  TyOf K H x t ∨ (t = .type "tuple" ∧ ∃ a ys, x = .ref a ∧ SqT K H a ys) ∨ (t = .type "list" ∧ ∃ a ys, x = .ref a ∧ SqL K H a ys)
section
variable {X : Cx} {pins : List (Addr × Obj)} {σ : St} {H : Hp} {s : Shared}
theorem kit_of {x : V} {u t : Value} (I : Inv X pins σ H s) (rx : RelV x u) (ty : TyX X.K H x t) : ∃ Z, PySem.W.KitX X.K u t Z ∧ Z s.heap ∧ u ≠ .builtin "__main__.__loader__#opaque" := by
  rcases ty with ty | ⟨rfl, a, ys, rfl, h⟩ | ⟨rfl, a, ys, rfl, h⟩
  · cases ty with
    | non => obtain rfl : u = Value.none := rx; exact ⟨_, PySem.W.kitx_none, True.intro, fun z => nomatch z⟩
    | bl y => obtain rfl : u = Value.bool y := rx; exact ⟨_, PySem.W.kitx_bool, True.intro, fun z => nomatch z⟩
    | int i => obtain ⟨_, rfl⟩ := rx; exact ⟨_, PySem.W.kitx_int, True.intro, fun z => nomatch z⟩
    | str y => obtain ⟨_, rfl⟩ := rx; exact ⟨_, PySem.W.kitx_str, True.intro, fun z => nomatch z⟩
    | flt y => obtain ⟨_, rfl⟩ := rx; exact ⟨_, PySem.W.kitx_float, True.intro, fun z => nomatch z⟩
    | @lst a xs ea =>
      obtain rfl : u = Value.ref a := rx
      obtain ⟨_, _, n, _, h1⟩ := I.hok a _ ea
      exact ⟨_, PySem.W.kitx_list, ⟨_, h1, rfl⟩, fun z => nomatch z⟩
    | @frz a ob xs ea =>
      obtain rfl : u = Value.ref a := rx
      obtain ⟨_, _, _, n, _, h1⟩ := I.hok a _ ea
      exact ⟨_, PySem.W.kitx_list, ⟨_, h1, rfl⟩, fun z => nomatch z⟩
    | @tup a xs ea =>
      obtain rfl : u = Value.ref a := rx
      obtain ⟨_, _, _, p⟩ := I.hok a _ ea
      obtain ⟨o, h1, h2, _⟩ := p
      exact ⟨_, PySem.W.kitx_tuple, ⟨o, h1, h2⟩, fun z => nomatch z⟩
    | @dK a kvs ea =>
      obtain rfl : u = Value.ref a := rx
      obtain ⟨_, _, vs, _, p⟩ := I.hok a _ ea
      obtain ⟨o, es, ep, h1, h2, _⟩ := p
      exact ⟨_, PySem.W.kitx_dict, ⟨o, h1, h2.1⟩, fun z => nomatch z⟩
    | @dT a kvs ea =>
      obtain rfl : u = Value.ref a := rx
      obtain ⟨_, _, xs, _, o, es, ep, h1, h2, _⟩ := I.hok a _ ea
      exact ⟨_, PySem.W.kitx_dict, ⟨o, h1, h2.1⟩, fun z => nomatch z⟩
    | @ins a C dx fs ea cl ha hn htk hm =>
      obtain rfl : u = Value.ref a := rx
      obtain ⟨mA, O, _⟩ := ins_get I.hok ea
      obtain ⟨od, J, _⟩ := O.look
      exact ⟨_, PySem.W.kitx_own (cl.get _) cl.hd ha hn htk hm, J, fun z => nomatch z⟩
  · obtain rfl : u = Value.ref a := rx
    obtain ⟨its, rv, ⟨o, e, hc, n, hd⟩, _⟩ := I.tuple h
    exact ⟨_, PySem.W.kitx_tuple, ⟨o, e, hc⟩, fun z => nomatch z⟩
  · obtain rfl : u = Value.ref a := rx
    obtain ⟨its, rv, ⟨o, n, e, hc, _⟩, _⟩ := I.list h
    exact ⟨_, PySem.W.kitx_list, ⟨o, e, hc⟩, fun z => nomatch z⟩
theorem vals_ty : ∀ {Ts : List String} {us : List Value}, Vals (Ts.map V.ty) us → us = Ts.map Value.type
  | [], us, r => by cases r; rfl
  | T :: Ts, us, r => by
    cases r with
    | cons r1 r2 =>
      rw [show _ = Value.type T from r1, vals_ty r2]
      rfl
end
def rIsi2 (K : PySem.W.Frag) : List V → Hp → VK → Prop := fun xs H Q => ∃ x c t b, xs = [x, c] ∧ TyX K H x t ∧
  ((∃ T, c = .ty T ∧ PySem.W.kitOne K t (.type T) = some b) ∨ ∃ (p : Addr) (Ts : List String), c = .ref p ∧ H p = some (.tup (Ts.map V.ty)) ∧ PySem.W.kitAny K t (Ts.map Value.type) = some b) ∧ Q (.bl b) H
section
variable {X : Cx}
theorem call_isi2 : CallR X (.builtin "isinstance") (rIsi2 X.K) := by
  intro pins s σ H xs us Q I r h
  obtain ⟨x, c, t, b, rfl, ty, hc, q⟩ := h
  obtain ⟨u, w', rfl, rx, rt⟩ := vals2 r
  obtain ⟨Z, hz, hp, hne⟩ := kit_of I rx ty
  rcases hc with ⟨T, rfl, e⟩ | ⟨p, Ts, rfl, hpp, e⟩
  · cases (show w' = Value.type T from rt)
    exact PySem.W.kia_one hz I.kIn hp e hne fun tk => ⟨.bl b, H, I.tok tk, rfl, q⟩
  · cases (show w' = Value.ref p from rt)
    obtain ⟨its, rv, ⟨⟨cls, dd, data, sl⟩, ho, hc, n, hd⟩, _⟩ := I.tuple (SqT.of hpp)
    simp only at hc hd
    subst hc hd
    rw [vals_ty rv] at ho
    exact PySem.W.kia_tup hz I.kIn hp ho e hne fun tk => ⟨.bl b, H, I.tok tk, rfl, q⟩
end
structure S1 (X : Cx) (st : Stmt) (t : TS) : Prop where
  out : PS X st t
structure SSs (X : Cx) (st : List Stmt) (t : TS) : Prop where
  out : PSs X st t
structure SPs (X : Cx) (pos : Pos) (keys : List (Option Expr)) (values : List Expr) (trs : List (TE × TE)) : Prop where
  out : PPs X pos keys values trs
section
variable {X : Cx} {pos : Pos}
end
end L2

set_option Elab.async false
set_option linter.all false
set_option maxRecDepth 100000
namespace L2
open PySem PySem.Spec PyProof.Rows
open PySem.SeqAt (noMix noMixAll)

section
variable {X : Cx}
theorem vals_bl : ∀ {bs : List Bool} {us : List Value}, Vals (bs.map V.bl) us → us = bs.map Value.bool
  | [], us, r => by cases r; rfl
  | b :: bs, us, r => by
    cases r with
    | cons r1 r2 =>
      rw [show _ = Value.bool b from r1, vals_bl r2]
      rfl
theorem call_anyB (hc : X.calm = true) : CallR X (.builtin "any") (fun xs H Q => ∃ (p : Addr) (bs : List Bool), xs = [.ref p] ∧ SqL X.K H p (bs.map V.bl) ∧ Q (.bl (bs.any id)) H) := by
  intro pins s σ H xs us Q I r h
  obtain ⟨p, bs, rfl, hq, q⟩ := h
  obtain ⟨u, rfl, ru⟩ := vals1 r
  cases (show u = Value.ref p from ru)
  obtain ⟨its, rv, pl, hz⟩ := I.list hq
  have hl := pl.isList
  have hb := vals_bl rv
  subst hb
  have hlt : p < s.heap.objs.size := by obtain ⟨_, e, _⟩ := hl; exact Heap.lt_size e
  refine call_any_walk (wpAny_pyIter_list hl ?_)
  refine ⟨s.heap.objs.size, [s.heap.objs.size, p], [s.heap.objs.size], (bs.map Value.bool).toArray.size, _, _, fun i => (bs[i]?).getD false, rfl, Walks.list (A := X.A.in1) (I.ok.hd hc) _ p (Nat.ne_of_lt hlt) (bs.map Value.bool).toArray,
    ⟨⟨_, Heap.get?_push_size _ rfl, rfl, rfl⟩, hl.push _⟩, fun i v s' Q' E' hP hQ => ?_, fun h' tk hk => ?_⟩
  · have hP' : (bs.map Value.bool)[i]? = some v := by simpa using hP
    rw [List.getElem?_map] at hP'
    obtain ⟨b, e, rfl⟩ := Option.map_eq_some_iff.mp hP'
    simp only [e, Option.getD_some] at hQ
    exact wpAny_truthy_bool hQ
  · have e : ((List.range (bs.map Value.bool).toArray.size).any fun i => (bs[i]?).getD false) = bs.any id := by
      rw [List.size_toArray, List.length_map]; exact LSm.range_any bs
    rw [e]
    exact ⟨.bl (bs.any id), H, I.kept (t' := tk) (LSm.kept_iter hk), rfl, q⟩
theorem call_sortedI : CallR X (.builtin "sorted") (fun xs H Q => ∃ (p : Addr) (ns : List Int), xs = [.ref p] ∧ SqL X.K H p (ns.map V.int) ∧ ns.length < 64 ∧
    ∀ (l : Addr) (ns' : List Int), H l = none → ns'.Perm ns → ns'.Pairwise (· ≤ ·) → Q (.ref l) (upd H l (.lst (ns'.map V.int)))) := by
  intro pins s σ H xs us Q I r h
  obtain ⟨p, ns, rfl, hq, h64, q⟩ := h
  obtain ⟨u, rfl, ru⟩ := vals1 r
  cases (show u = Value.ref p from ru)
  obtain ⟨its, rv, pl, hz⟩ := I.list hq
  have hi : IntsAre its ns := intsAre_of rv
  have hlen : its.length = ns.length := by have := rv.length; rw [List.length_map] at this; omega
  have hsz : sizeLine = 16777216 := sizeLine_eq
  refine sorted_ints pl.isList hi (by omega) fun out ns' a1 a2 a3 => ?_
  obtain ⟨e, he⟩ := sortedAll_at s.heap its out
  refine ⟨.ref _, _, I.laid (a := s.heap.objs.size + 1) (t' := s.toks) (fun b o e => sortedAll_old e) (Nat.le_succ _) (show ObjOk X.prog X.w _ _ _ (.lst (ns'.map V.int)) from ⟨?_, out.toList, e, vals_ints a1, ?_⟩), rfl, q _ ns' (I.hok.fresh (Nat.le_succ _)) a2 a3⟩
  · rw [List.length_map, a2.length_eq]; omega
  · rw [he]

theorem vals_at : ∀ {xs : List V} {us : List Value}, xs.length = us.length → (∀ (i : Nat) x y, xs[i]? = some x → us[i]? = some y → RelV x y) → Vals xs us
  | [], [], _, _ => .nil
  | [], _ :: _, h, _ => by simp at h
  | _ :: _, [], h, _ => by simp at h
  | x :: xs, u :: us, h, f => .cons (f 0 x u rfl rfl) (vals_at (by simpa using h) fun i y z hy hz => f (i + 1) y z (by simpa using hy) (by simpa using hz))
theorem call_rangeE : CallR X (.type "range") (fun xs H Q => ∃ n : Int, xs = [.int n] ∧ ∀ l, H l = none → Q (.ref l) (upd H l (.rng 0 n))) := by
  intro pins s σ H xs us Q I r h
  obtain ⟨n, rfl, q⟩ := h
  obtain ⟨u, rfl, t, rfl⟩ := vals1 r
  refine call_range_1 ?_
  exact ⟨.ref _, _, I.laid (a := s.heap.objs.size) (t' := s.toks + 1 + 1) (fun b o e => Heap.get?_push_of_some _ e) (Nat.le_refl _) (show ObjOk X.prog X.w _ _ _ (.rng 0 n) from ⟨_, _, _, Heap.get?_push_size _ rfl⟩), rfl, q _ (I.hok.fresh (Nat.le_refl _))⟩
theorem call_listR (hc : X.calm = true) : CallR X (.type "list") (fun xs H Q => ∃ (p : Addr) (n : Int), xs = [.ref p] ∧ H p = some (.rng 0 n) ∧ 0 ≤ n ∧ n ≤ 1000000 ∧ ∀ l, H l = none → Q (.ref l) (upd H l (.lst ((iotaZ 0 n.toNat).map V.int)))) := by
  intro pins s σ H xs us Q I r h
  obtain ⟨p, n, rfl, hp, h0, h1, q⟩ := h
  obtain ⟨u, rfl, ru⟩ := vals1 r
  cases (show u = Value.ref p from ru)
  have hsz : sizeLine = 16777216 := sizeLine_eq
  obtain ⟨t, u, v, e⟩ := (show ObjOk X.prog X.w H s.heap p (.rng 0 n) from I.hok p _ hp)
  have hr : Builtin.Range.rangeSize 0 n 1 = ((n.toNat : Nat) : Int) := by rw [rangeSize_one]; split <;> omega
  refine call_list_range (I.ok.hd hc) e (small_one (by omega) (by omega) (by omega) (by omega)) hr (by omega) fun h' tk acc' c' kp eL hI => ?_
  have hv : Vals ((iotaZ 0 n.toNat).map V.int) acc'.toList := by
    obtain ⟨hs, ha⟩ := hI
    refine vals_at (by rw [List.length_map]; simp [iotaZ, hs]) fun i x y hx hy => ?_
    rw [List.getElem?_map] at hx
    obtain ⟨z, hz, rfl⟩ := Option.map_eq_some_iff.mp hx
    have hi : i < n.toNat := by
      have := (List.getElem?_eq_some_iff.mp hz).1
      simpa [iotaZ] using this
    obtain ⟨t, e⟩ := ha i y (by simpa using hy)
    have hz' : z = 0 + (i : Int) := by
      have : (iotaZ 0 n.toNat)[i]? = some (0 + (i : Int)) := by simp [iotaZ, hi]
      rw [hz] at this
      exact Option.some.inj this
    exact ⟨t, by rw [e, hz', Int.mul_one]⟩
  exact ⟨.ref _, _, I.laid (a := s.heap.objs.size) (t' := tk) kp (Nat.le_refl _) (show ObjOk X.prog X.w _ _ _ (.lst ((iotaZ 0 n.toNat).map V.int)) from ⟨by rw [List.length_map]; simp [iotaZ]; omega, acc'.toList, c', hv, by rw [eL]⟩), rfl, q _ (I.hok.fresh (Nat.le_refl _))⟩
end

section
variable {X : Cx} {pins : List (Addr × Obj)} {σ : St} {H : Hp} {s : Shared} {h' : Heap}
theorem Inv.turned2 {t' : Nat} {i1 i2 a : Addr} {ob : HO} (I : Inv X pins σ H s) (k : ∀ b o, b ≠ i1 → b ≠ i2 → s.heap.get? b = some o → h'.get? b = some o) (f1 : FpOk X pins H i1) (f2 : FpOk X pins H i2)
    (hp : s.heap.objs.size ≤ a) (new : ObjOk X.prog X.w (upd H a ob) h' a ob) : Inv X pins σ (upd H a ob) { s with heap := h', toks := t' } := by
  have kk : ∀ b o, b ∉ [i1, i2] → s.heap.get? b = some o → h'.get? b = some o := fun b o hc e => k b o (fun z => hc (by simp [z])) (fun z => hc (by simp [z])) e
  have nit : ∀ b u, H b = some u → b ∉ [i1, i2] := fun b u e z => by
    rcases List.mem_cons.mp z with z | z
    · rw [z, f1.1] at e; cases e
    · rw [List.mem_singleton.mp z, f2.1] at e; cases e
  have hn := I.hok.fresh hp
  refine I.step (g' := s.gens) (d' := s.drawn) (ch := [i1, i2]) (fun b hb => ?_) (fun b o _ _ hc e _ => kk b o hc e) (fun b o _ _ hc e _ => ⟨o.slots, kk b o hc e⟩) (fun b o _ q n => by rw [upd_ne (Nat.ne_of_lt (Nat.lt_of_lt_of_le (Heap.lt_size q) hp))]; exact n)
    (fun b o hc e => ⟨o, kk b o hc e⟩) (fun b xs q => by rw [upd_ne (ne_of_none q hn)]; exact q) (fun b o u q => by rw [upd_ne (ne_of_none q hn)]; exact q) (fun b ps q => ⟨#[], by rw [upd_ne (ne_of_none q hn), q]; simp⟩) (fun m hm => ?_) (fun b u e => ?_) I.bare
  · rcases List.mem_cons.mp hb with rfl | hb
    · exact ⟨f1.2.2.2.1, f1.2.1, f1.2.2.2.2.1, f1.2.2.2.2.2⟩
    · rw [List.mem_singleton.mp hb]
      exact ⟨f2.2.2.2.1, f2.2.1, f2.2.2.2.2.1, f2.2.2.2.2.2⟩
  · obtain ⟨o, es, ep, ho, r⟩ := hm
    exact ⟨o, es, ep, k _ o (Ne.symm f1.2.1) (Ne.symm f2.2.1) ho, r⟩
  · by_cases hb : b = a
    · subst hb; rw [upd_same] at e; cases e; exact new
    · rw [upd_ne hb] at e
      refine (I.hok b u e).stay (fun c v hc q => kk c v ?_ q) (fun c q => by rw [upd_ne (ne_of_none q hn)]; exact q) fun c xs q => by rw [upd_ne (ne_of_none q hn)]; exact q
      rcases hc with z | z
      · rw [z]; exact nit b u e
      · exact nit c _ z
end
def Ite (K : PySem.W.Frag) (a : Addr) : It :=
  ⟨fun i H => ∃ xs x, SqL K H a xs ∧ xs[i]? = some x, fun i H x H' => ∃ t, x = .ref t ∧ H t = none ∧ ∀ xs y, SqL K H a xs → xs[i]? = some y → H' = upd H t (.tup [.int i, y]), fun i H => ∃ xs, SqL K H a xs ∧ xs.length ≤ i⟩
theorem turn_enum {P : Program} {w : World} {K : PySem.W.Frag} {elts : List Expr} {x1 : Nat} {tpos : Pos} (a e it : Addr) (hei : e ≠ it) : Turn P w K (.Tuple elts x1 tpos) (Ite K a) [e, it] e (fun i h => (∃ old, IsEnum h e it ((i : Nat) : Int) old) ∧ h.IsListIter it a i) where
  mem := by simp
  obj := fun i h ⟨⟨old, he⟩, st⟩ b hb => by
    rcases List.mem_cons.mp hb with rfl | hb
    · exact ⟨_, he, fun v z => by cases (show Data.fields _ = Data.cell v from z)⟩
    · rw [List.mem_singleton.mp hb]
      obtain ⟨o, e, c, d⟩ := st
      exact ⟨o, e, fun v z => by rw [d] at z; cases z⟩
  keep := fun i h h' ⟨⟨old, he⟩, st⟩ k => ⟨⟨old, k e (by simp) _ he⟩, st.at fun o q => k it (by simp) o q⟩
  item := by
    intro X hP hw hK hc i pins s σ H E I hf st hg
    subst hP hw hK
    obtain ⟨⟨old, he⟩, st⟩ := st
    obtain ⟨xs, x, hq, hx⟩ := hg
    obtain ⟨its, rv, p, hz⟩ := I.list hq
    obtain ⟨u, hu, ru⟩ := rv.get hx
    have g1 := hf e (by simp)
    have g2 := hf it (by simp)
    have hsz : sizeLine = 16777216 := sizeLine_eq
    refine wpAny_pyNext_enum_item he st p.isList (x := u) (by simpa using hu) hei fun h' heo hit' ht' hz' k' => ?_
    refine ⟨_, rfl, wpAny_letOwnedTupleGo_enum heo fun h2 he2 hs2 => ?_⟩
    have hlt : e < s.heap.objs.size := Heap.lt_size he
    have k2 : ∀ b o, b ≠ e → b ≠ it → s.heap.get? b = some o → h2.get? b = some o := fun b o b1 b2 q => hs2.extBut b o b1 (k' b o b1 b2 q)
    have ht2 : h2.get? s.heap.objs.size = some { cls := .type "tuple", data := .seq #[.int i s.toks, u] } := hs2.extBut _ _ (Nat.ne_of_gt hlt) ht'
    have hfr := I.hok.fresh (Nat.le_refl s.heap.objs.size)
    have I2 : Inv X pins σ (upd H s.heap.objs.size (.tup [.int i, x])) { s with heap := h2, toks := s.toks + 1 } :=
      I.turned2 k2 g1 g2 (Nat.le_refl _) (show ObjOk X.prog X.w _ h2 _ (.tup [.int i, x]) from ⟨by show 2 ≤ sizeLine; omega, [.int i s.toks, u], .cons ⟨_, rfl⟩ (.cons ru .nil), ⟨_, ht2, rfl, _, rfl⟩⟩)
    have hcast : ((i + 1 : Nat) : Int) = (i : Int) + 1 := by push_cast; rfl
    refine ⟨.ref s.heap.objs.size, _, I2, rfl, ⟨_, rfl, hfr, fun ys y hy hyi => ?_⟩, ⟨⟨u, hcast ▸ he2⟩, hit'.extBut hs2.extBut (Ne.symm hei)⟩, fun b hb => ?_⟩
    · rw [I.list_inj hy hq, hx] at hyi
      rw [Option.some.inj hyi]
    · have hb' : b < s.heap.objs.size := by
        rcases List.mem_cons.mp hb with rfl | hb
        · exact hlt
        · rw [List.mem_singleton.mp hb]
          obtain ⟨o, q, _⟩ := st
          exact Heap.lt_size q
      rw [upd_ne (Nat.ne_of_lt hb')]
      exact (hf b hb).1
  done := by
    intro X hP hw hK hc i pins s σ H E I hf st hg
    subst hP hw hK
    obtain ⟨⟨old, he⟩, st⟩ := st
    obtain ⟨xs, hq, hx⟩ := hg
    obtain ⟨its, rv, p, hz⟩ := I.list hq
    obtain ⟨f0, f1, f2, f3, f4, f5⟩ := hf it (by simp)
    have hl := rv.length
    exact wpAny_pyNext_enum_end (I.ok.hd hc) he st p.isList (by simp; omega) fun h' eb => ⟨rfl, I.turned (t' := s.toks) (fun b o hb e => eb b o hb e) f0 f1 f3 f4 f5⟩
  self := fun _ _ _ _ _ ⟨⟨_, he⟩, _⟩ h => wpAny_pyIter_enum he h
def iEnum (K : PySem.W.Frag) (ta : TA) : TI := fun σ H R => ta σ H fun vs H1 => ∃ a, vs = [.ref a] ∧ (∃ xs, SqL K H1 a xs) ∧ R (Ite K a) H1
section
variable {X : Cx}
theorem pi_enum {a : Expr} {ta : TA} {p pos tpos : Pos} {elts : List Expr} {x1 : Nat} (hg : Gl X "enumerate") (hm : X.mg "enumerate" = none) (ha : PA X [a] ta) (hs : starEach [a] X.env = [(false, eval a X.env)] := by rfl) :
    PI X (.Tuple elts x1 tpos) (.Call (.Name "enumerate" p) [a] [] pos) (iEnum X.K ta) := by
  intro pins s σ H R I h
  refine Call_ (ld_blt I hg hm boot_enumerate (PyProof.Rows.callWith_type1 (thn (ha pos pins s σ H _ I h) fun us s1 ⟨vs, H1, I1, r1, q1⟩ => ?_) hs rfl))
  obtain ⟨l, e, ⟨xs, hq⟩, q⟩ := q1
  subst e
  cases r1 with
  | cons r rr =>
    cases rr
    cases r
    obtain ⟨its, rv, pl, hz⟩ := I1.list hq
    refine call_enumerate_list pl.isList fun h' he hit hsz kp => ?_
    refine wpAny_pyIter_enum (s := { s1 with heap := h' }) he ⟨s1.heap.objs.size + 1, [s1.heap.objs.size + 1, s1.heap.objs.size], _, _, H1, rfl, I1.kept (t' := s1.toks) kp, turn_enum l _ _ (Nat.succ_ne_self _), ⟨⟨_, he⟩, hit⟩, fun b hb => ?_, q⟩
    rcases List.mem_cons.mp hb with rfl | hb
    · exact I1.fpOk (Nat.le_succ _) (I1.hok.fresh (Nat.le_succ _))
    · rw [List.mem_singleton.mp hb]
      exact I1.fpOk (Nat.le_refl _) (I1.hok.fresh (Nat.le_refl _))
theorem for_enum {K : PySem.W.Frag} {a : Addr} {xs : List V} {g : TG} {tb : TS} {D : Ends} {σ : St} {H : Hp} (Pv : Nat → St → Hp → Prop) (h0 : Pv 0 σ H) (hl : ∀ i σ H, i ≤ xs.length → Pv i σ H → SqL K H a xs)
    (hs : ∀ i x t σ H, xs[i]? = some x → Pv i σ H → H t = none → g (.ref t) σ (upd H t (.tup [.int i, x])) fun σ2 H2 => tb { D with nx := Pv (i + 1), ct := Pv (i + 1), bk := D.nx } σ2 H2) (hd : ∀ σ H, Pv xs.length σ H → D.nx σ H) :
    ∃ W : Nat → Nat → St → Hp → Prop, (∃ m, W 0 m σ H) ∧ ∀ i m σ H, W i m σ H →
      ((Ite K a).stop i H ∧ D.nx σ H) ∨ ((Ite K a).go i H ∧ ∃ N : St → Hp → Prop, (∀ σ' H', N σ' H' → ∃ m', m' < m ∧ W (i + 1) m' σ' H') ∧ ∀ x H', (Ite K a).yld i H x H' → g x σ H' fun σ2 H2 => tb { D with nx := N, ct := N, bk := D.nx } σ2 H2) := by
  refine ⟨fun i m σ H => m = xs.length - i ∧ i ≤ xs.length ∧ Pv i σ H, ⟨xs.length, by simp, Nat.zero_le _, h0⟩, ?_⟩
  rintro i m σ H ⟨rfl, hi, p⟩
  have hq := hl i σ H hi p
  by_cases hlt : i < xs.length
  · refine .inr ⟨⟨xs, xs[i], hq, List.getElem?_eq_getElem hlt⟩, fun σ' H' => Pv (i + 1) σ' H', fun σ' H' p' => ⟨xs.length - (i + 1), by omega, rfl, by omega, p'⟩, ?_⟩
    rintro x H' ⟨t, rfl, ht, hH⟩
    rw [hH xs _ hq (List.getElem?_eq_getElem hlt)]
    exact hs i _ t σ H (List.getElem?_eq_getElem hlt) p ht
  · have e : i = xs.length := by omega
    subst e
    exact .inl ⟨⟨xs, hq, Nat.le_refl _⟩, hd σ H p⟩
end
section
variable {X : Cx}
def rInsert : V → List V → Hp → VK → Prop := fun x vs H Q => ∃ (l : Addr) (xs : List V) (i : Int) (y : V), x = .ref l ∧ vs = [.int i, y] ∧ H l = some (.lst xs) ∧ 0 ≤ i ∧ i ≤ xs.length ∧ xs.length < sizeLine ∧ Q .non (upd H l (.lst (xs.take i.toNat ++ y :: xs.drop i.toNat)))
theorem mt_insert : MtM X "list.insert" rInsert := by
  intro pins s σ H x vs v us Q I rx rv h
  obtain ⟨l, xs, i, y, rfl, rfl, hH, h0, h1, hz, q⟩ := h
  cases rx
  have hsz : sizeLine = 16777216 := sizeLine_eq
  obtain ⟨u1, u2, rfl, r1, ru⟩ := vals2 rv
  obtain ⟨t, rfl⟩ := (show ∃ t, u1 = Value.int i t from r1)
  obtain ⟨z, its, n, r, hl, e⟩ := I.lstM hH
  have hf : Builtin.List.listFitsIndex i = true := by
    unfold Builtin.List.listFitsIndex
    simp
    omega
  refine call_meets F.slot_list_insert ⟨_, e, rfl⟩ F.entry_list_insert (F.args_list_insert_3 _ _ _) (PySem.AutoSeq1.list_insert_list_int_val_1 l its.toArray n i t u2 (by simp [hf]) (by rw [List.size_toArray]; omega)) ⟨e, ?_⟩
  refine ⟨.non, _, I.lset (its' := its.take i.toNat ++ u2 :: its.drop i.toNat) hH e ?_ ((r.take i.toNat).append (.cons ru (r.drop i.toNat))) ?_, rfl, q⟩
  · have hm : min i.toNat its.length = i.toNat := by omega
    apply Array.toList_inj.mp
    have hn : ¬ i < 0 := by omega
    simp [hn, hm, List.take_append, List.drop_append]
    exact List.take_of_length_le (by rw [List.length_drop]; omega)
  · rw [List.length_append, List.length_cons, List.length_take, List.length_drop]
    omega
end
def tJoin (t : TS) : TS := fun D σ H => ∃ J : St → Hp → Prop, t { D with nx := J } σ H ∧ ∀ σ' H', J σ' H' → D.nx σ' H'
theorem ps_join {X : Cx} {st : Stmt} {t : TS} (h : PS X st t) : PS X st (tJoin t) := by
  intro pins s σ H D I ⟨J, h1, h2⟩
  refine thn (h pins s σ H _ I h1) fun f s' q => ?_
  cases f with
  | next => obtain ⟨σ', H', I', q⟩ := q; exact ⟨σ', H', I', h2 _ _ q⟩
  | brk => exact q
  | cont => exact q
  | ret u => exact q
section
variable {X : Cx}
theorem isAll_bls {K : PySem.W.Frag} {H : Hp} : ∀ bs : List Bool, IsAll K H (bs.map PyData.bool) (bs.map V.bl)
  | [] => by simp [IsAll]
  | b :: r => by
    rw [List.map_cons, List.map_cons]
    simp only [IsAll]
    exact ⟨_, _, rfl, by simp [Is], isAll_bls r⟩
theorem lay_bls : ∀ bs : List Bool, PyData.canLayAll0 (bs.map PyData.bool) = true
  | [] => by simp [PyData.canLayAll0]
  | b :: r => by simp [PyData.canLayAll0, PyData.canLay0, lay_bls r]
theorem depth_bls : ∀ bs : List Bool, PyData.depthAll (bs.map PyData.bool) = 0
  | [] => by simp [PyData.depthAll]
  | b :: r => by simp [PyData.depthAll, PyData.depth, depth_bls r]
theorem shaped_bls (bs : List Bool) : SeqAt.shaped (.list (bs.map PyData.bool)) = true := by
  have h := depth_bls bs
  unfold SeqAt.shaped
  rw [Bool.and_eq_true]
  exact ⟨by simp only [PyData.canLay0]; exact lay_bls bs, decide_eq_true (by simp only [PyData.depth]; omega)⟩
theorem noMix_bls : ∀ bs cs : List Bool, noMixAll (bs.map PyData.bool) (cs.map PyData.bool) = true
  | [], cs => by cases cs <;> simp [noMixAll]
  | b :: bs, [] => by simp [noMixAll]
  | b :: bs, c :: cs => by simp [noMixAll, noMix, noMix_bls bs cs]
theorem sameAll_bls : ∀ bs cs : List Bool, sameAll (bs.map PyData.bool) (cs.map PyData.bool) = decide (bs = cs)
  | [], [] => by simp [sameAll]
  | [], _ :: _ => by simp [sameAll]
  | _ :: _, [] => by simp [sameAll]
  | b :: bs, c :: cs => by
    rw [List.map_cons, List.map_cons]
    simp only [sameAll, same]
    rw [sameAll_bls bs cs, Bool.eq_iff_iff]
    simp
theorem op_eqBL (hu : X.A.units + 64 < cLine) : OpR X (compareOp .Eq) (fun x y H Q => ∃ (a b : Addr) (bs cs : List Bool), x = .ref a ∧ y = .ref b ∧ SqL X.K H a (bs.map V.bl) ∧ SqL X.K H b (cs.map V.bl) ∧ Q (.bl (decide (bs = cs))) H) := by
  intro pins s σ H x y v u Q I rx ry h
  obtain ⟨a, b, bs, cs, rfl, rfl, h1, h2, q⟩ := h
  have i1 : Is X.K H (.list (bs.map PyData.bool)) (.ref a) := by simp only [Is]; exact ⟨a, _, rfl, h1, isAll_bls bs⟩
  have i2 : Is X.K H (.list (cs.map PyData.bool)) (.ref b) := by simp only [Is]; exact ⟨b, _, rfl, h2, isAll_bls cs⟩
  obtain ⟨as, ra⟩ := Is.reads I _ _ v i1 rx
  obtain ⟨bs', rb⟩ := Is.reads I _ _ u i2 ry
  refine eq_dataH_same ra rb (shaped_bls bs) (shaped_bls cs) hu (by simp only [noMix]; exact noMix_bls bs cs) ⟨.bl _, H, I, rfl, ?_⟩
  have e : same (.list (bs.map PyData.bool)) (.list (cs.map PyData.bool)) = decide (bs = cs) := by simp only [same]; exact sameAll_bls bs cs
  rw [e]
  exact q
end
end L2

set_option Elab.async false
set_option linter.all false
set_option maxRecDepth 100000
namespace L2
open PySem PySem.Spec PyProof.Rows PySem.W

def KOut {α : Type} (N : Nat) (P : α → Prop) : KasT α → Prop
  | .ret a => P a
  | .ask i j k => i < N ∧ j < N ∧ ∀ b, KOut N P (k b)
def Rr (N : Nat) (p : Array Nat) : Prop := p.toList.Perm (List.range N)
section
variable {N : Nat} (h0 : 0 < N)
include h0
end

section
variable {prog : Program} {w : World} {A : Around} {E : Value → Shared → Prop} {s : Shared}
def Pair2 (h : Heap) (v : Value) : Prop := ∃ a x y t u n o, v = .ref a ∧ h.get? a = some o ∧ o.cls = .type "tuple" ∧ o.data = .seq #[.int x t, .int y u] n
end
section
variable {X : Cx}
end
end L2

set_option Elab.async false
set_option linter.all false
set_option maxRecDepth 100000
set_option maxHeartbeats 4000000
namespace L2
open PySem PySem.Spec PyProof.Rows
section
variable {prog : Program} {w : World} {A : Around} {E : Value → Shared → Prop} {s : Shared}
end
section
variable {X : Cx} {e : Expr} {ta : TA} {p1 p2 c1 c2 : Pos}
def tListRev (K : PySem.W.Frag) (ta : TA) : TE := fun σ H Q => ta σ H fun vs H1 => ∃ a ys, vs = [.ref a] ∧ SqL K H1 a ys ∧ ∀ l, H1 l = none → Q (.ref l) (upd H1 l (.lst ys.reverse))
end
end L2

set_option Elab.async false
set_option linter.all false
set_option maxRecDepth 100000
set_option maxHeartbeats 4000000
namespace L2
open PySem PySem.Spec PyProof.Rows

structure EK (prog : Program) (w : World) (K : Type) [DecidableEq K] where
  is : Heap → K → Value → Prop
  hash : K → Int
  draws : K → Nat
  inj : ∀ {h : Heap} {v : Value} {x y : K}, is h x v → is h y v → x = y
  keeps : ∀ {h h' : Heap} {k : K} {v : Value} {d : Addr} {o : Obj} {es ep}, is h k v → h.get? d = some o → o.data = .dict es ep → Heap.SameBut d h h' → is h' k v
  pyHash : ∀ {A : Around} {E : Value → Shared → Prop} {s : Shared} {k : K} {v : Value} {Q : Int → Shared → Prop}, A.units + 80 < cLine → is s.heap k v → Q (hash k) { s with toks := s.toks + draws k } → wpAny (model prog w) A (PySem.pyHash v) Q E s
  eqBool : ∀ {A : Around} {E : Value → Shared → Prop} {s : Shared} {x y : K} {v u : Value} {Q : Bool → Shared → Prop}, A.units + 80 < cLine → is s.heap x v → is s.heap y u → Q (decide (x = y)) s → wpAny (model prog w) A (PySem.eqBool v u) Q E s
  quiet : ∀ {A : Around} {E : Value → Shared → Prop} {s : Shared} {k : K} {v : Value} {Q : Bool → Shared → Prop}, is s.heap k v → Q true s → wpAny (model prog w) A (eqIsQuiet 7 v) Q E s
section
variable {prog : Program} {w : World} {K : Type} [DecidableEq K] (ek : EK prog w K)
inductive ItemsH (h : Heap) : List K → List Value → Prop
  | nil : ItemsH h [] []
  | cons {k : K} {v : Value} {ks : List K} {vs : List Value} : ek.is h k v → ItemsH h ks vs → ItemsH h (k :: ks) (v :: vs)
def IsNest (h : Heap) (ks : List K) (a : Addr) : Prop := ∃ o items n, h.get? a = some o ∧ o.cls = .type "tuple" ∧ o.data = .seq items n ∧ ItemsH ek h ks items.toList
variable {ek}
theorem ItemsH.inj {h : Heap} {x y : List K} {vs : List Value} (hx : ItemsH ek h x vs) (hy : ItemsH ek h y vs) : x = y := by
  induction hx generalizing y with
  | nil => cases hy; rfl
  | cons h1 _ ih =>
    cases hy with
    | cons h2 t2 => rw [ek.inj h1 h2, ih t2]
theorem ItemsH.keeps {h h' : Heap} {x : List K} {vs : List Value} {d : Addr} {o : Obj} {es ep} (hx : ItemsH ek h x vs) (ho : h.get? d = some o) (hd : o.data = .dict es ep) (hs : Heap.SameBut d h h') : ItemsH ek h' x vs := by
  induction hx with
  | nil => exact .nil
  | cons h1 _ ih => exact .cons (ek.keeps h1 ho hd hs) ih
theorem IsNest.typeIs {s : Shared} {ks : List K} {a : Addr} (x : IsNest ek s.heap ks a) : s.TypeIs (.ref a) "tuple" := by
  obtain ⟨o, _, _, ho, hc, _⟩ := x
  exact ⟨o, ho, hc⟩
theorem IsNest.inj {h : Heap} {a : Addr} {x y : List K} (hx : IsNest ek h x a) (hy : IsNest ek h y a) : x = y := by
  obtain ⟨o, items, n, ho, _, hd, hi⟩ := hx
  obtain ⟨o', items', n', ho', _, hd', hi'⟩ := hy
  rw [ho] at ho'
  cases ho'
  rw [hd] at hd'
  cases hd'
  exact hi.inj hi'
theorem IsNest.keeps {h h' : Heap} {ks : List K} {a d : Addr} {o : Obj} {es ep} (x : IsNest ek h ks a) (ho : h.get? d = some o) (hd : o.data = .dict es ep) (hs : Heap.SameBut d h h') : IsNest ek h' ks a := by
  obtain ⟨o', items, n, ho', hc, hd', hi⟩ := x
  have hne : a ≠ d := fun z => by
    rw [z, ho] at ho'
    cases ho'
    rw [hd] at hd'; exact nomatch hd'
  exact ⟨o', items, n, (hs.2 a hne).trans ho', hc, hd', hi.keeps ho hd hs⟩
def nestHash (ek : EK prog w K) (ks : List K) : Int := reduceHash (Builtin.Tuple.tupleHashOf (ks.map ek.hash))
def nestDraws (ek : EK prog w K) (ks : List K) : Nat := (ks.map ek.draws).sum + 1
variable {A : Around} {E : Value → Shared → Prop} {s : Shared}
theorem nest_hash {ks : List K} {a : Addr} {Q : Int → Shared → Prop} (hu : A.units + 90 < cLine) (hk : IsNest ek s.heap ks a) (h : Q (nestHash ek ks) { s with toks := s.toks + nestDraws ek ks }) : wpAny (model prog w) A (pyHash (.ref a)) Q E s := by
  have hT := hk.typeIs
  obtain ⟨o, items, n, ho, _, hd, hi⟩ := hk
  unfold pyHash
  first | unfold pyHashByItsType | skip
  first | refine wpAny_bind (wpAny_cRoomFor_or (.inr (by omega)) ?_) | skip
  refine wpAny_bind (wpAny_specialOf hT F.slot_tuple_hash.lookup ?_)
  show wpAny _ _ (if (some (Value.builtin "tuple.__hash__") == some Value.none) = true then _ else _) Q E s
  rw [if_neg (by rw [beq_builtin_none]; exact Bool.false_ne_true)]
  refine wpAny_bind (wpAny_specialOf hT F.slot_tuple_hash.lookup ?_)
  show wpAny _ _ (callSpecialIfBoundUnlessNone? (.ref a) "__hash__" _ >>= _) Q E s
  refine wpAny_bind (wpAny_callSpecialIfBoundUnlessNone?_slot hT F.slot_tuple_hash (wpAny_call_entry F.slot_tuple_hash hT F.entry_tuple_hash ?_ (F.args_tuple_hash_1 _)))
  show wpAny _ _ (Builtin.Tuple.tupleItemsOf (.ref a) >>= _) _ _ s
  refine wpAny_bind (wpAny_tupleItemsOf ho hd ?_)
  refine wpAny_bind ?_
  rw [← Array.forIn_toList]
  refine wpAny_forIn_list _
    (fun rest (b : Array Int) s' => ∃ done left, ks = done ++ left ∧ ItemsH ek s.heap left rest ∧ b.toList = done.map ek.hash ∧ s' = { s with toks := s.toks + (done.map ek.draws).sum })
    _ ?_ ?_ _ _ ⟨[], ks, rfl, hi, rfl, rfl⟩
  · rintro x rest b s' ⟨done, left, rfl, hl, hb, rfl⟩
    cases hl with
    | @cons k _ ks' _ h1 hl' =>
      refine wpAny_bind (ek.pyHash ?_ h1 ?_)
      · show A.units + 1 + 80 < cLine
        omega
      · first
          | exact wpAny_pure ⟨done ++ [k], ks', by simp, hl', by simp [hb], by simp [Nat.add_assoc]⟩
          | exact wpAny_bind (wpAny_pure (wpAny_pure ⟨done ++ [k], ks', by simp, hl', by simp [hb], by simp [Nat.add_assoc]⟩))
  · rintro b s' ⟨done, left, rfl, hl, hb, rfl⟩
    cases hl
    rw [List.append_nil] at h
    show wpAny _ _ (retInt (Builtin.Tuple.tupleHashOf b.toList)) _ _ _
    rw [hb]
    refine wpAny_ret_mkInt ?_
    show wpAny _ _ (if (decide (-(2 : Int) ^ 63 ≤ Builtin.Tuple.tupleHashOf (done.map ek.hash)) && decide (Builtin.Tuple.tupleHashOf (done.map ek.hash) < 2 ^ 63)) = true then _ else _) Q E _
    unfold nestHash nestDraws reduceHash at h
    by_cases hr : (decide (-(2 : Int) ^ 63 ≤ Builtin.Tuple.tupleHashOf (done.map ek.hash)) && decide (Builtin.Tuple.tupleHashOf (done.map ek.hash) < 2 ^ 63)) = true
    · rw [if_pos hr]
      rw [if_pos hr] at h
      exact wpAny_pure (by simpa [Nat.add_assoc] using h)
    · rw [if_neg hr]
      rw [if_neg hr] at h
      exact wpAny_bind (wpAny_rule (wpAny_pure (by simpa [Nat.add_assoc] using h)))
theorem nest_eq_tree {x y : List K} {a b : Addr} {P : PySem.Fin → Shared → Prop} (hu : A.units + 80 < cLine) (hx : IsNest ek s.heap x a) (hy : IsNest ek s.heap y b) (h : P (.done (.ret (.bool (decide (x = y))))) s) :
    wpAny (model prog w) A (Builtin.«tuple.__eq__» ⟨[.ref a, .ref b], []⟩) P E s := by
  have hTb := hy.typeIs
  obtain ⟨oa, xs, na, hoa, _, hda, hia⟩ := hx
  obtain ⟨ob, ys, nb, hob, _, hdb, hib⟩ := hy
  show wpAny _ _ (isInstance (.ref b) (.type "tuple") >>= _) _ _ s
  refine wpAny_bind (wpAny_isInstance hTb isSubtype_tuple_tuple ?_)
  simp only [Bool.not_true, Bool.false_eq_true, if_false]
  refine wpAny_bind (wpAny_tupleItemsOf hoa hda ?_)
  refine wpAny_bind (wpAny_tupleItemsOf hob hdb ?_)
  refine wpAny_bind ?_
  refine wpAny_forIn_list _
    (fun rest r s' => r.1 = none ∧ s' = s ∧ ∃ x' y' xs' ys', rest = List.zip xs' ys' ∧ ItemsH ek s.heap x' xs' ∧ ItemsH ek s.heap y' ys' ∧ decide (x' = y') = decide (x = y) ∧ (xs'.length == ys'.length) = (xs.size == ys.size))
    _ ?_ ?_ _ _ ⟨rfl, rfl, x, y, xs.toList, ys.toList, rfl, hia, hib, rfl, by simp⟩
  · rintro ⟨u, v⟩ rest r s' ⟨hr, rfl, x', y', xs', ys', hz, hx', hy', hdec, hlen⟩
    cases hx' with
    | nil => simp at hz
    | @cons k1 u' x'' xs'' h1 hx'' =>
      cases hy' with
      | nil => simp at hz
      | @cons k2 v' y'' ys'' h2 hy'' =>
        simp only [List.zip_cons_cons, List.cons.injEq, Prod.mk.injEq] at hz
        obtain ⟨⟨rfl, rfl⟩, rfl⟩ := hz
        refine wpAny_bind (ek.eqBool (x := k1) (y := k2) hu h1 h2 ?_)
        by_cases hk : k1 = k2
        · subst hk
          rw [decide_eq_true rfl]
          simp only [Bool.not_true, Bool.false_eq_true, if_false]
          refine wpAny_pure ⟨rfl, rfl, x'', y'', xs'', ys'', rfl, hx'', hy'', ?_, by simpa using hlen⟩
          rw [← hdec]
          by_cases hxy : x'' = y'' <;> simp [hxy]
        · rw [decide_eq_false hk]
          simp only [Bool.not_false, if_true]
          have hf : decide (x = y) = false := by rw [← hdec]; simp [hk]
          rw [hf] at h
          exact wpAny_bind (wpAny_pure (wpAny_pure (wpAny_pure h)))
  · rintro ⟨r1, r2⟩ s' ⟨hr, rfl, x', y', xs', ys', hz, hx', hy', hdec, hlen⟩
    simp only at hr
    subst hr
    refine wpAny_pure ?_
    have hfin : (xs.size == ys.size) = decide (x = y) := by
      rw [← hdec, ← hlen]
      cases hx' with
      | nil => cases hy' <;> simp
      | cons _ _ =>
        cases hy' with
        | nil => simp
        | cons _ _ => simp at hz
    show P (.done (.ret (.bool (xs.size == ys.size)))) s'
    rw [hfin]; exact h
theorem nest_eq {x y : List K} {a b : Addr} {Q : Bool → Shared → Prop} (hu : A.units + 90 < cLine) (hx : IsNest ek s.heap x a) (hy : IsNest ek s.heap y b) (h : Q (decide (x = y)) s) : wpAny (model prog w) A (eqBool (.ref a) (.ref b)) Q E s := by
  unfold eqBool
  try with_reducible refine wpAny_holding ?_
  show wpAny _ _ (if (Value.ref a == Value.ref b) = true then _ else _) Q E s
  by_cases hab : (Value.ref a == Value.ref b) = true
  · rw [if_pos hab]
    have e : a = b := by have := eq_of_beq hab; injection this
    subst e
    obtain rfl := hx.inj hy
    exact wpAny_bind (wpAny_rule (wpAny_pure (by simpa using h)))
  · rw [if_neg hab]
    refine wpAny_bind (wpAny_richCompare_same_room (op := .Eq) hx.typeIs hy.typeIs F.slot_tuple_eq
      (wpAny_call_entry F.slot_tuple_eq hx.typeIs F.entry_tuple_eq (nest_eq_tree ?_ hx hy ⟨_, rfl, (fun e => nomatch e), wpAny_truthy_bool h⟩) (F.args_tuple_eq_2 _ _)) (by omega))
    first
      | (show A.units + 1 + 80 < cLine; omega)
      | (show A.units + 1 + 1 + 80 < cLine; omega)
theorem nest_quiet {ks : List K} {a : Addr} {Q : Bool → Shared → Prop} (hk : IsNest ek s.heap ks a) (h : Q true s) : wpAny (model prog w) A (eqIsQuiet 8 (.ref a)) Q E s := by
  have hT := hk.typeIs
  obtain ⟨o, items, n, ho, _, hd, hi⟩ := hk
  unfold eqIsQuiet
  refine wpAny_bind (wpAny_specialOf hT F.slot_tuple_eq.lookup ?_)
  show wpAny _ _ (isInstance (.ref a) (.type "tuple") >>= _) _ _ s
  refine wpAny_bind (wpAny_isInstance hT isSubtype_tuple_tuple ?_)
  simp only [Bool.not_true, Bool.false_eq_true, if_false]
  refine wpAny_bind (wpAny_seqItems ho hd ?_)
  refine wpAny_bind ?_
  show wpAny _ _ (forIn items _ _) _ _ s
  rw [← Array.forIn_toList]
  refine wpAny_forIn_list _ (fun rest r s' => r.1 = none ∧ s' = s ∧ ∃ ks, ItemsH ek s.heap ks rest) _ ?_ ?_ _ _ ⟨rfl, rfl, _, hi⟩
  · rintro v rest r s' ⟨hr, rfl, ks, hl⟩
    cases hl with
    | @cons k _ ks' _ h1 hl' =>
      refine wpAny_bind (ek.quiet h1 ?_)
      simp only [Bool.not_true, Bool.false_eq_true, if_false]
      exact wpAny_pure ⟨rfl, rfl, ks', hl'⟩
  · rintro ⟨r1, r2⟩ s' ⟨hr, rfl, _⟩
    simp only at hr
    subst hr
    exact wpAny_pure h
end
def nestKind {prog : Program} {w : World} {K : Type} [DecidableEq K] (ek : EK prog w K) : HeapKind prog w (List K) where
  is := IsNest ek
  hash := nestHash ek
  draws := nestDraws ek
  room := fun A => A.units + 90 < cLine
  inj := fun hx hy => hx.inj hy
  keeps := fun x ho hd hs => x.keeps ho hd hs
  pyHash := fun hu hk h => nest_hash hu hk h
  eqBool := fun hu hx hy h => nest_eq hu hx hy h
  quiet := fun hk h => nest_quiet hk h
section
variable {prog : Program} {w : World} {A : Around} {E : Value → Shared → Prop} {s : Shared}
theorem items_reads {h : Heap} {ks : List Int} {vs : List Value} (hx : ItemsAre (intKind prog w) ks vs) : ∃ as, ReadsAll h vs (ks.map PyData.int) as := by
  induction hx with
  | nil => exact ⟨_, .nil⟩
  | @cons k v ks vs h1 _ ih =>
    obtain ⟨as, ra⟩ := ih
    obtain ⟨t, rfl⟩ := Value.isInt_shape h1
    exact ⟨_, .cons (.int k t) ra⟩
theorem tk_reads {h : Heap} {ks : List Int} {a : Addr} (hk : IsTupleKey (intKind prog w) h ks a) : ∃ as, Reads h (.ref a) (.tuple (ks.map PyData.int)) as := by
  obtain ⟨o, items, n, ho, hc, hd, hi⟩ := hk
  obtain ⟨as, ra⟩ := items_reads (h := h) hi
  exact ⟨_, .tuple ho hc hd ra⟩
theorem shaped_tup (ks : List Int) : SeqAt.shaped (.tuple (ks.map PyData.int)) = true := by
  have h1 := (cmp_ints ks).1
  unfold SeqAt.shaped at h1 ⊢
  simp only [PyData.canLay0, PyData.depth] at h1 ⊢
  exact h1
theorem shaped_int (i : Int) : SeqAt.shaped (.int i) = true := by
  unfold SeqAt.shaped
  simp [PyData.canLay0, PyData.depth]
theorem mix_eq {ks : List Int} {i : Int} {a : Addr} {t : Tok} {Q : Bool → Shared → Prop} (hu : A.units + 80 < cLine) (hk : IsTupleKey (intKind prog w) s.heap ks a) (h : Q false s) : wpAny (model prog w) A (eqBool (.ref a) (.int i t)) Q E s := by
  obtain ⟨as, ra⟩ := tk_reads hk
  unfold eqBool
  try with_reducible refine wpAny_holding ?_
  show wpAny _ _ (if (Value.ref a == Value.int i t) = true then _ else _) Q E s
  rw [if_neg (by intro z; cases eq_of_beq z)]
  have q := eq_dataH_same (prog := prog) (w := w) (A := A) (E := E) (Q := fun v s' => v = .bool false ∧ s' = s) ra (.int i t) (shaped_tup ks) (shaped_int i) (by omega) (by simp [SeqAt.noMix]) ⟨by simp [same], rfl⟩
  refine wpAny_bind (wpAny_mono (show wpAny (model prog w) A (richCompare .Eq (.ref a) (.int i t)) _ _ _ from q) (fun v s' hv => ?_) fun _ _ x => x)
  obtain ⟨rfl, rfl⟩ := hv
  exact wpAny_truthy_bool h
theorem mix_eq' {ks : List Int} {i : Int} {a : Addr} {t : Tok} {Q : Bool → Shared → Prop} (hu : A.units + 80 < cLine) (hk : IsTupleKey (intKind prog w) s.heap ks a) (h : Q false s) : wpAny (model prog w) A (eqBool (.int i t) (.ref a)) Q E s := by
  obtain ⟨as, ra⟩ := tk_reads hk
  unfold eqBool
  try with_reducible refine wpAny_holding ?_
  show wpAny _ _ (if (Value.int i t == Value.ref a) = true then _ else _) Q E s
  rw [if_neg (by intro z; cases eq_of_beq z)]
  have q := eq_dataH_same (prog := prog) (w := w) (A := A) (E := E) (Q := fun v s' => v = .bool false ∧ s' = s) (.int i t) ra (shaped_int i) (shaped_tup ks) (by omega) (by simp [SeqAt.noMix]) ⟨by simp [same], rfl⟩
  refine wpAny_bind (wpAny_mono (show wpAny (model prog w) A (richCompare .Eq (.int i t) (.ref a)) _ _ _ from q) (fun v s' hv => ?_) fun _ _ x => x)
  obtain ⟨rfl, rfl⟩ := hv
  exact wpAny_truthy_bool h
theorem quiet_tup {ks : List Int} {a : Addr} {Q : Bool → Shared → Prop} (hk : IsTupleKey (intKind prog w) s.heap ks a) (h : Q true s) : wpAny (model prog w) A (eqIsQuiet 7 (.ref a)) Q E s := by
  have hT := hk.typeIs
  obtain ⟨o, items, n, ho, _, hd, hi⟩ := hk
  unfold eqIsQuiet
  refine wpAny_bind (wpAny_specialOf hT F.slot_tuple_eq.lookup ?_)
  show wpAny _ _ (isInstance (.ref a) (.type "tuple") >>= _) _ _ s
  refine wpAny_bind (wpAny_isInstance hT isSubtype_tuple_tuple ?_)
  simp only [Bool.not_true, Bool.false_eq_true, if_false]
  refine wpAny_bind (wpAny_seqItems ho hd ?_)
  refine wpAny_bind ?_
  show wpAny _ _ (forIn items _ _) _ _ s
  rw [← Array.forIn_toList]
  refine wpAny_forIn_list _ (fun rest r s' => r.1 = none ∧ s' = s ∧ ∀ v ∈ rest, carriedByValue v = true) _ ?_ ?_ _ _ ⟨rfl, rfl, hi.byValue⟩
  · rintro v rest r s' ⟨hr, rfl, hall⟩
    rw [eqIsQuiet_byValue _ (hall v List.mem_cons_self)]
    refine wpAny_bind (wpAny_pure ?_)
    simp only [Bool.not_true, Bool.false_eq_true, if_false]
    exact wpAny_pure ⟨rfl, rfl, fun u hu' => hall u (List.mem_cons_of_mem _ hu')⟩
  · rintro ⟨r1, r2⟩ s' ⟨hr, rfl, _⟩
    simp only at hr
    subst hr
    exact wpAny_pure h
end
def isTI (prog : Program) (w : World) (h : Heap) : List Int ⊕ Int → Value → Prop
  | .inl ks, v => ∃ a, v = .ref a ∧ IsTupleKey (intKind prog w) h ks a
  | .inr i, v => ∃ t, v = .int i t
def ekTI (prog : Program) (w : World) : EK prog w (List Int ⊕ Int) where
  is := isTI prog w
  hash := fun k => match k with
    | .inl ks => tupleKeyHash (intKind prog w) ks
    | .inr i => hashInt i
  draws := fun k => match k with
    | .inl ks => ks.length + 1
    | .inr _ => 1
  inj := by
    intro h v x y hx hy
    cases x with
    | inl ks =>
      obtain ⟨a, rfl, h1⟩ := hx
      cases y with
      | inl ks' =>
        obtain ⟨a', e, h2⟩ := hy
        cases e
        rw [h1.inj h2]
      | inr i => obtain ⟨t, e⟩ := hy; cases e
    | inr i =>
      obtain ⟨t, rfl⟩ := hx
      cases y with
      | inl ks' => obtain ⟨a', e, h2⟩ := hy; cases e
      | inr j => obtain ⟨t', e⟩ := hy; cases e; rfl
  keeps := by
    intro h h' k v d o es ep hk ho hd hs
    cases k with
    | inl ks => obtain ⟨a, rfl, h1⟩ := hk; exact ⟨a, rfl, h1.keeps ho hd hs⟩
    | inr i => exact hk
  pyHash := by
    intro A E s k v Q hu hk h
    cases k with
    | inl ks => obtain ⟨a, rfl, h1⟩ := hk; exact wpAny_pyHash_tuple (by omega) h1 h
    | inr i => obtain ⟨t, rfl⟩ := hk; exact wpAny_pyHash_int h
  eqBool := by
    intro A E s x y v u Q hu hx hy h
    cases x with
    | inl ks =>
      obtain ⟨a, rfl, h1⟩ := hx
      cases y with
      | inl ks' =>
        obtain ⟨a', rfl, h2⟩ := hy
        exact wpAny_eqBool_tuple (by omega) h1 h2 (by simpa using h)
      | inr i =>
        obtain ⟨t, rfl⟩ := hy
        exact mix_eq hu h1 (by simpa using h)
    | inr i =>
      obtain ⟨t, rfl⟩ := hx
      cases y with
      | inl ks' =>
        obtain ⟨a', rfl, h2⟩ := hy
        exact mix_eq' hu h2 (by simpa using h)
      | inr j =>
        obtain ⟨t', rfl⟩ := hy
        refine wpAny_eqBool_int ?_
        rw [show (i == j) = decide ((Sum.inr i : List Int ⊕ Int) = Sum.inr j) from by rw [Bool.eq_iff_iff]; simp]
        exact h
  quiet := by
    intro A E s k v Q hk h
    cases k with
    | inl ks => obtain ⟨a, rfl, h1⟩ := hk; exact quiet_tup h1 h
    | inr i =>
      obtain ⟨t, rfl⟩ := hk
      rw [eqIsQuiet_byValue _ rfl]
      exact wpAny_pure h
end L2

set_option Elab.async false
set_option linter.all false
set_option maxRecDepth 100000
set_option maxHeartbeats 4000000
namespace L2
open PySem PySem.Spec PyProof.Rows

abbrev NK := List (List Int ⊕ Int)
def ndObj (P : Program) (w : World) (d : Addr) (xs : List (NK × Addr × Value)) (h : Heap) : Prop :=
  (d == sysModules) = false ∧ ∃ o es ep, h.get? d = some o ∧ o.ExactDict ∧ o.data = .dict es ep ∧ es.toList = xs.map (entryOfKey (nestKind (ekTI P w))) ∧ (xs.map (·.1)).Nodup
def elAt (K : PySem.W.Frag) (H : Hp) : List Int ⊕ Int → V → Prop
  | .inl ks, v => ∃ t, v = .ref t ∧ SqT K H t (ks.map V.int)
  | .inr i, v => v = .int i
def KeyAt (K : PySem.W.Frag) (H : Hp) (k : NK) (a : Addr) : Prop := ∃ vs, SqT K H a vs ∧ Paired (elAt K H) k vs
def hasK (ks : List NK) (k : NK) : Bool := ks.any fun x => decide (x = k)
theorem hasK_iff {ks : List NK} {k : NK} : hasK ks k = true ↔ k ∈ ks := by
  unfold hasK
  rw [List.any_eq_true]
  constructor
  · rintro ⟨x, hx, h⟩
    rw [← of_decide_eq_true h]; exact hx
  · intro h
    exact ⟨k, h, decide_eq_true rfl⟩
def NDict (P : Program) (w : World) (K : PySem.W.Frag) (H : Hp) (d : Addr) (ks : List NK) : Prop :=
  ∃ xs : List (NK × Addr × Value), H d = some (.ext (ndObj P w d xs)) ∧ xs.map (·.1) = ks ∧ (∀ x ∈ xs, KeyAt K H x.1 x.2.1) ∧ xs.length ≤ 100000
theorem SqT.moved {K : PySem.W.Frag} {H H' : Hp} {a : Addr} {xs : List V} (ht : ∀ b ys, H b = some (.tup ys) → H' b = some (.tup ys)) (hf : ∀ b o u, H b = some (.frz o u) → H' b = some (.frz o u)) (h : SqT K H a xs) : SqT K H' a xs := by
  rcases h with (h | ⟨ob, h⟩) | h
  · exact .inl (.inl (ht _ _ h))
  · exact .inl (.inr ⟨ob, hf _ _ _ h⟩)
  · exact .inr h
theorem KeyAt.moved {K : PySem.W.Frag} {H H' : Hp} {k : NK} {a : Addr} (ht : ∀ b ys, H b = some (.tup ys) → H' b = some (.tup ys)) (hf : ∀ b o u, H b = some (.frz o u) → H' b = some (.frz o u)) (h : KeyAt K H k a) : KeyAt K H' k a := by
  obtain ⟨vs, h1, h2⟩ := h
  refine ⟨vs, SqT.moved ht hf h1, Paired.imp' (fun k v hv => ?_) h2⟩
  cases k with
  | inl ks => obtain ⟨t, rfl, h⟩ := hv; exact ⟨t, rfl, SqT.moved ht hf h⟩
  | inr i => exact hv
theorem KeyAt.keep {K : PySem.W.Frag} {H H' : Hp} {k : NK} {a : Addr} (s : Same H H') (h : KeyAt K H k a) : KeyAt K H' k a := h.moved (fun b ys e => s _ _ e) fun b o u e => s _ _ e
theorem NDict.keep {P : Program} {w : World} {K : PySem.W.Frag} {H H' : Hp} {d : Addr} {ks : List NK} (s : Same H H') (h : NDict P w K H d ks) : NDict P w K H' d ks := by
  obtain ⟨xs, h1, h2, h3, h4⟩ := h
  exact ⟨xs, s _ _ h1, h2, fun x hx => (h3 x hx).keep s, h4⟩
theorem NDict.updL {P : Program} {w : World} {K : PySem.W.Frag} {H : Hp} {d g : Addr} {ks : List NK} {zs : List V} {o : HO} (hg : H g = some (.lst zs)) (h : NDict P w K H d ks) : NDict P w K (upd H g o) d ks := by
  obtain ⟨xs, h1, h2, h3, h4⟩ := h
  refine ⟨xs, ?_, h2, fun x hx => (h3 x hx).moved (fun b ys e => ?_) (fun b o u e => ?_), h4⟩
  · rw [upd_ne (ne_of h1 hg (by intro z; cases z))]; exact h1
  · rw [upd_ne (ne_of e hg (by intro z; cases z))]; exact e
  · rw [upd_ne (ne_of e hg (by intro z; cases z))]; exact e
section
variable {X : Cx} {pins : List (Addr × Obj)} {σ : St} {H : Hp} {s : Shared}
theorem ints_are : ∀ {ks : List Int} {us : List Value}, Vals (ks.map V.int) us → ItemsAre (intKind X.prog X.w) ks us
  | [], us, r => by cases r; exact .nil
  | k :: ks, us, r => by
    cases r with
    | cons r1 r2 =>
      obtain ⟨t, rfl⟩ := (show ∃ t, _ = Value.int k t from r1)
      exact .cons (by simp [intKind, Value.isInt]) (ints_are r2)
theorem tup_key {t : Addr} {ks : List Int} (I : Inv X pins σ H s) (h : SqT X.K H t (ks.map V.int)) : IsTupleKey (intKind X.prog X.w) s.heap ks t := by
  obtain ⟨its, rv, ⟨o, e, hc, n, hd⟩, _⟩ := I.tuple h
  exact ⟨o, its.toArray, n, e, hc, hd, by simpa using ints_are rv⟩
theorem key_is {k : NK} {a : Addr} (I : Inv X pins σ H s) (h : KeyAt X.K H k a) : IsNest (ekTI X.prog X.w) s.heap k a := by
  obtain ⟨vs, h1, h2⟩ := h
  obtain ⟨its, rv, ⟨o, e, hc, n, hd⟩, _⟩ := I.tuple h1
  refine ⟨o, its.toArray, n, e, hc, hd, ?_⟩
  have : ∀ {k : NK} {vs : List V} {us : List Value}, Paired (elAt X.K H) k vs → Vals vs us → ItemsH (ekTI X.prog X.w) s.heap k us := by
    intro k vs us hp
    induction hp generalizing us with
    | nil => intro r; cases r; exact .nil
    | @cons k v ks vs hv _ ih =>
      intro r
      cases r with
      | cons r1 r2 =>
        refine .cons ?_ (ih r2)
        cases k with
        | inl ks =>
          obtain ⟨t, rfl, ht⟩ := hv
          exact ⟨t, r1, tup_key I ht⟩
        | inr i =>
          have hv' : v = .int i := hv
          subst hv'
          exact r1
  simpa using this h2 rv
theorem nd_dict {d : Addr} {xs : List (NK × Addr × Value)} (I : Inv X pins σ H s) (h1 : H d = some (.ext (ndObj X.prog X.w d xs))) (h3 : ∀ x ∈ xs, KeyAt X.K H x.1 x.2.1) : (d == sysModules) = false ∧ s.heap.DictOfH (nestKind (ekTI X.prog X.w)) d xs := by
  obtain ⟨⟨hs, o, es, ep, e, hx, hd, he, hn⟩, _⟩ := I.hok d _ h1
  exact ⟨hs, o, es, ep, e, hx, hd, he, fun x hm => key_is I (h3 x hm), hn⟩
theorem atKey_mem {xs : List (NK × Addr × Value)} {k : NK} : (atKey xs k).isSome = hasK (xs.map (·.1)) k := by
  rw [Bool.eq_iff_iff, hasK_iff]
  unfold atKey
  rw [Option.isSome_map, List.find?_isSome, List.mem_map]
  constructor
  · rintro ⟨x, hx, h⟩
    exact ⟨x, hx, of_decide_eq_true h⟩
  · rintro ⟨x, hx, rfl⟩
    exact ⟨x, hx, decide_eq_true rfl⟩
end
section
variable {X : Cx} {pos : Pos}
def tNDNew (P : Program) (w : World) (K : PySem.W.Frag) : TE := fun _ H Q => ∀ (p : Addr) (H' : Hp), H p = none → Same H H' → NDict P w K H' p [] → Q (.ref p) H'
theorem nd_ext {P : Program} {w : World} {H : Hp} {h : Heap} {d : Addr} {xs : List (NK × Addr × Value)} (hx : ndObj P w d xs h) : ObjOk P w H h d (.ext (ndObj P w d xs)) := by
  refine ⟨hx, ?_, fun h1 h2 q k => ?_⟩
  · obtain ⟨_, o, _, _, e, _⟩ := hx
    exact ⟨o, e⟩
  · obtain ⟨a, o, es, ep, e, r⟩ := q
    exact ⟨a, o, es, ep, k _ e, r⟩
theorem nd_new {P : Program} {w : World} {K : PySem.W.Frag} {H : Hp} {p : Addr} : NDict P w K (upd H p (.ext (ndObj P w p []))) p [] := ⟨[], upd_same, rfl, fun x hx => by simp at hx, by simp⟩
theorem pe_ndnew : PE X (.Dict [] [] pos) (tNDNew X.prog X.w X.K) := by
  intro pins s σ H Q I h
  refine wpAny_Dict_empty ⟨.ref s.heap.objs.size, _, I.laid (a := s.heap.objs.size) (o := .ext (ndObj X.prog X.w s.heap.objs.size [])) (t' := s.toks) (fun _ _ q => Heap.get?_push_of_some _ q) (Nat.le_refl _) (nd_ext ?_), rfl, h _ _ (I.hok.fresh (Nat.le_refl _)) (Same.upd (I.hok.fresh (Nat.le_refl _))) nd_new⟩
  exact ⟨beq_eq_false_iff_ne.mpr (Ne.symm (Nat.ne_of_lt I.big)), _, #[], 0, Heap.get?_push_size _ rfl, ⟨rfl, rfl, rfl⟩, rfl, rfl, List.nodup_nil⟩
theorem op_notInN (hu : X.A.units + 100 < cLine) : OpR X (compareOp .NotIn) (fun x y H Q => ∃ (a d : Addr) (k : NK) (ks : List NK), x = .ref a ∧ y = .ref d ∧ KeyAt X.K H k a ∧ NDict X.prog X.w X.K H d ks ∧ Q (.bl (!hasK ks k)) H) := by
  intro pins s σ H x y v u Q I rx ry h
  obtain ⟨a, d, k, ks, rfl, rfl, hk, ⟨xs, h1, rfl, h3, h4⟩, q⟩ := h
  cases rx
  cases ry
  obtain ⟨hs, dd⟩ := nd_dict I h1 h3
  refine wpAny_notIn_heap (knd := nestKind (ekTI X.prog X.w)) (show X.A.units + 1 + 90 < cLine by omega) (key_is I hk) hs dd ?_
  rw [atKey_mem]
  exact ⟨.bl _, H, I.tok _, rfl, q⟩
theorem op_inN (hu : X.A.units + 100 < cLine) : OpR X (compareOp .In) (fun x y H Q => ∃ (a d : Addr) (k : NK) (ks : List NK), x = .ref a ∧ y = .ref d ∧ KeyAt X.K H k a ∧ NDict X.prog X.w X.K H d ks ∧ Q (.bl (hasK ks k)) H) := by
  intro pins s σ H x y v u Q I rx ry h
  obtain ⟨a, d, k, ks, rfl, rfl, hk, ⟨xs, h1, rfl, h3, h4⟩, q⟩ := h
  cases rx
  cases ry
  obtain ⟨hs, dd⟩ := nd_dict I h1 h3
  refine wpAny_in_heap (knd := nestKind (ekTI X.prog X.w)) (show X.A.units + 1 + 90 < cLine by omega) (key_is I hk) hs dd ?_
  rw [atKey_mem]
  exact ⟨.bl _, H, I.tok _, rfl, q⟩
theorem stored_keys (xs : List (NK × Addr × Value)) (k : NK) (a : Addr) (v : Value) : (storedH xs k a v).map (·.1) = if hasK (xs.map (·.1)) k = true then xs.map (·.1) else xs.map (·.1) ++ [k] := by
  unfold storedH
  rw [atKey_mem]
  by_cases h : hasK (xs.map (·.1)) k = true
  · rw [if_pos h, if_pos h, List.map_map]
    refine List.map_congr_left fun x _ => ?_
    show (putAt k v x).1 = x.1
    unfold putAt
    split <;> rfl
  · rw [if_neg h, if_neg h, List.map_append]
    rfl
theorem stored_in {xs : List (NK × Addr × Value)} {k : NK} {a : Addr} {v : Value} {y : NK × Addr × Value} (h : y ∈ storedH xs k a v) : (y.1 = k ∧ y.2.1 = a) ∨ ∃ x ∈ xs, y.1 = x.1 ∧ y.2.1 = x.2.1 := by
  unfold storedH at h
  split at h
  · obtain ⟨x, hx, rfl⟩ := List.mem_map.mp h
    refine .inr ⟨x, hx, ?_⟩
    unfold putAt
    split <;> exact ⟨rfl, rfl⟩
  · rcases List.mem_append.mp h with h | h
    · exact .inr ⟨y, h, rfl, rfl⟩
    · rw [List.mem_singleton.mp h]; exact .inl ⟨rfl, rfl⟩
def rSetN (P : Program) (w : World) (K : PySem.W.Frag) : V → V → V → Hp → (Hp → Prop) → Prop := fun o i v H Q => ∃ (d a : Addr) (k : NK) (ks : List NK), o = .ref d ∧ i = .ref a ∧ KeyAt K H k a ∧ NDict P w K H d ks ∧ ks.length < 100000 ∧
  ∀ φ, NDict P w K (upd H d (.ext φ)) d (if hasK ks k = true then ks else ks ++ [k]) → Q (upd H d (.ext φ))
theorem set_nd (hu : X.A.units + 100 < cLine) : PSet X (rSetN X.prog X.w X.K) := by
  intro pins s σ H o i v ov iv u Q I ro ri rv h
  obtain ⟨d, a, k, ks, rfl, rfl, hk, ⟨xs, h1, rfl, h3, h4⟩, hl, q⟩ := h
  cases ro
  cases ri
  have hsz : sizeLine = 16777216 := sizeLine_eq
  obtain ⟨hs, dd⟩ := nd_dict I h1 h3
  refine wpAny_setItem_heap (knd := nestKind (ekTI X.prog X.w)) (show X.A.units + 1 + 90 < cLine by omega) (key_is I hk) dd (fun h' dd' sb => ?_) (by omega)
  have hne : ∀ b ob, H b = some ob → (∀ φ, ob ≠ .ext φ) → b ≠ d := fun b ob e hob z => by rw [z, h1] at e; exact hob _ (Option.some.inj e).symm
  have mv : ∀ {k : NK} {c : Addr}, KeyAt X.K H k c → KeyAt X.K (upd H d (.ext (ndObj X.prog X.w d (storedH xs k a u)))) k c := fun {k c} hk => hk.moved
    (fun b ys e => by rw [upd_ne (hne b _ e (by intro φ z; cases z))]; exact e) (fun b o u e => by rw [upd_ne (hne b _ e (by intro φ z; cases z))]; exact e)
  have mv' : ∀ {k' : NK} {c : Addr} {φ : Heap → Prop}, KeyAt X.K H k' c → KeyAt X.K (upd H d (.ext φ)) k' c := fun {k' c φ} hk => hk.moved
    (fun b ys e => by rw [upd_ne (hne b _ e (by intro φ z; cases z))]; exact e) (fun b o u e => by rw [upd_ne (hne b _ e (by intro φ z; cases z))]; exact e)
  obtain ⟨o', es, ep, e', hx', hd', he', hk', hn'⟩ := dd'
  have new : ndObj X.prog X.w d (storedH xs k a u) h' := ⟨hs, o', es, ep, e', hx', hd', he', hn'⟩
  have J : Inv X pins σ (upd H d (.ext (ndObj X.prog X.w d (storedH xs k a u)))) { s with heap := h', toks := s.toks + (nestKind (ekTI X.prog X.w)).draws k } :=
    I.write (x := d) (e := d) (by rw [h1]; exact True.intro) (.inl rfl) (fun b ob hb q => (sb.2 b hb).trans q) ⟨_, e'⟩ (nd_ext new)
  refine ⟨_, J, q _ ⟨storedH xs k a u, upd_same, stored_keys xs k a u, fun y hy => ?_, ?_⟩⟩
  · rcases stored_in hy with ⟨e1, e2⟩ | ⟨x, hx, e1, e2⟩
    · rw [e1, e2]; exact mv' hk
    · rw [e1, e2]; exact mv' (h3 x hx)
  · have e := congrArg List.length (stored_keys xs k a u)
    rw [List.length_map] at e
    rw [e]
    rw [List.length_map] at hl
    split
    · rw [List.length_map]; omega
    · rw [List.length_append, List.length_map]; show _ + 1 ≤ _; omega
end
end L2

set_option Elab.async false
set_option linter.all false
set_option maxRecDepth 100000
set_option maxHeartbeats 4000000
namespace L2
open PySem PySem.Spec PyProof.Rows
structure CompNames2 (sc : Scope) (N0 : List Str) (scope : Scope) (x x' : Str) (ns : List Str) (idx : List Nat) : Prop where
  kind : scope.kind = .function
  cell : ∀ y ∈ scope.names, y.2 ≠ .cell
  loc : ∀ y ∈ scope.names, y.2 = .local → scope.names.lookup y.1 = some .local
  tgt : scope.names.lookup x = some .local
  tgt' : scope.names.lookup x' = some .local
  nd : (x :: x' :: ns).Nodup
  from_ : ∀ y ∈ scope.names, y.2 = .free → (sc.names.lookup y.1 = some .cell ∨ sc.names.lookup y.1 = some .free)
  free : ∀ y ∈ ns, scope.names.lookup y = some .free
  ix : idx.map (fun j => N0[j]?) = ns.map some
def cnB2 (sc : Scope) (N0 : List Str) (scope : Scope) (x x' : Str) (ns : List Str) (idx : List Nat) : Bool :=
  decide (scope.kind = .function) && scope.names.all (fun y => decide (y.2 ≠ .cell)) && scope.names.all (fun y => decide (y.2 = .local → scope.names.lookup y.1 = some .local)) && decide (scope.names.lookup x = some .local) && decide (scope.names.lookup x' = some .local) &&
  decide ((x :: x' :: ns).Nodup) && scope.names.all (fun y => decide (y.2 = .free → (sc.names.lookup y.1 = some .cell ∨ sc.names.lookup y.1 = some .free))) && ns.all (fun y => decide (scope.names.lookup y = some .free)) &&
  decide (idx.map (fun j => N0[j]?) = ns.map some)
section
variable {X : Cx} {pins : List (Addr × Obj)} {σ : St} {H : Hp} {s : Shared} {scope : Scope} {x x' : Str} {ns : List Str} {idx : List Nat} {fp : List Addr}
end
def LCW2 (idx : List Nat) (J : It) (g : TG) (tt : TT) (te : TE) (Q : VK) (σ : St) (H1 : Hp) : Prop := ∀ D, H1 D = none →
  ∃ W : Nat → Nat → List V → St → Hp → Prop, (∃ m, W 0 m [] (none :: none :: cap σ idx) (upd H1 D (.lst []))) ∧ ∀ i m ys ρ H, W i m ys ρ H → H D = some (.lst ys) ∧
    ((J.stop i H ∧ Q (.ref D) H) ∨
     (J.go i H ∧ ys.length < sizeLine ∧ ∀ x H', J.yld i H x H' → g x ρ H' fun ρ2 H2 => tt ρ2 H2 fun b H3 =>
        if b = true then te ρ2 H3 fun v H4 => H4 D = some (.lst ys) ∧ ∃ m', m' < m ∧ W (i + 1) m' (ys ++ [v]) ρ2 (upd H4 D (.lst (ys ++ [v])))
        else ∃ m', m' < m ∧ W (i + 1) m' ys ρ2 H3))
def tLC2 (wi : TI) (idx : List Nat) (g : TG) (tt : TT) (te : TE) : TE := fun σ H Q => wi σ H fun J H1 => LCW2 idx J g tt te Q σ H1

section
variable {X : Cx} {elt iter : Expr} {x x' : Str} {px px' pt : Pos} {kt : Nat} {ifs : List Expr} {scope : Scope} {pos : Pos} {ns : List Str} {idx : List Nat} {wi : TI} {g : TG} {tt : TT} {te : TE}
end

end L2

set_option Elab.async false
set_option linter.all false
set_option maxRecDepth 100000
set_option maxHeartbeats 4000000
namespace L2
open PySem PySem.Spec PyProof.Rows
end L2

set_option Elab.async false
set_option linter.all false
set_option maxRecDepth 100000
set_option maxHeartbeats 4000000
namespace L2
open PySem PySem.Spec PyProof.Rows
theorem noBls_mem : ∀ {ds : List PyData}, noBls ds = true → ∀ y ∈ ds, noBl y = true
  | [], _, y, hy => by cases hy
  | d :: ds, h, y, hy => by
    simp only [noBls, Bool.and_eq_true] at h
    rcases List.mem_cons.mp hy with rfl | hy
    · exact h.1
    · exact noBls_mem h.2 y hy
section
variable {X : Cx}
end
end L2

set_option Elab.async false
set_option linter.all false
set_option maxRecDepth 100000
set_option maxHeartbeats 4000000
namespace HT
open PySem PyProof.Rows
def b2z (b : Bool) : Int := if b then 1 else 0
inductive Two : List Value → List Value → List Int → List Int → Prop
  | nil : Two [] [] [] []
  | int {vs ws : List Value} {ns ms : List Int} (a : Int) (t : Tok) (c : Int) (u : Tok) : Two vs ws ns ms → Two (.int a t :: vs) (.int c u :: ws) (a :: ns) (c :: ms)
  | bool {vs ws : List Value} {ns ms : List Int} (x y : Bool) : Two vs ws ns ms → Two (.bool x :: vs) (.bool y :: ws) (b2z x :: ns) (b2z y :: ms)
theorem Two.len {vs ws : List Value} {ns ms : List Int} (h : Two vs ws ns ms) : vs.length = ns.length ∧ ws.length = ms.length ∧ ns.length = ms.length := by
  induction h with
  | nil => exact ⟨rfl, rfl, rfl⟩
  | int _ _ _ _ _ ih => exact ⟨by simp [ih.1], by simp [ih.2.1], by simp [ih.2.2]⟩
  | bool _ _ _ ih => exact ⟨by simp [ih.1], by simp [ih.2.1], by simp [ih.2.2]⟩
theorem eqAt_bool (A : Around) (s : Shared) (x y : Bool) : ∃ e, SeqAt.EqAt A s (.bool x) (.bool y) e ∧ (e = true ↔ b2z x = b2z y) :=
  ⟨(x == y), SeqAt.EqAt.bool_bool x y, by cases x <;> cases y <;> simp [b2z]⟩
theorem rcLt_bool (A : Around) (s : Shared) (x y : Bool) (prog : Program) (w : World) (E : Value → Shared → Prop) (Q : Value → Shared → Prop) (h : Q (.bool (decide (b2z x < b2z y))) s) :
    wpAny (model prog w) A (richCompare .Lt (.bool x) (.bool y)) Q E s :=
  (PyProof.Rows.lt_bool (by cases x <;> cases y <;> exact h) : wpAny (model prog w) A (compareOp .Lt (.bool x) (.bool y)) Q E s)
section
open PySem.SeqAt
open PySem.AutoSeq1 (wpAny_loadPart')
open PySem.MeetsSeq PySem.MeetsSeq2 PySem.MeetsSeq3
theorem tuple_lt_two (l b : Addr) (items items2 : Array Value) (n n2 : Nat) (dd dd2 : Option Addr) (sl sl2 : Array (Option Value)) (ns ms : List Int) (hi : Two items.toList items2.toList ns ms) :
    Meets (Builtin.«tuple.__lt__» ⟨[.ref l, .ref b], []⟩)
      (fun _ R s => s.heap.get? l = some { cls := .type "tuple", dict := dd, data := .seq items n, slots := sl } ∧ s.heap.get? b = some { cls := .type "tuple", dict := dd2, data := .seq items2 n2, slots := sl2 } ∧
        R (.ok (.ret (.bool (lexLt ns ms)))) s) :=
  .of_wp fun prog w A R s h => by
    obtain ⟨hp, g, d, tk, os⟩ := s; obtain ⟨hl, hb, h⟩ := h
    have f2 := AutoSeq1.sub_tuple_tuple
    have z0 := hi.len
    have z1 : items.size = ns.length := by rw [← z0.1]; simp
    have z2 : items2.size = ms.length := by rw [← z0.2.1]; simp
    have z3 := z0.2.2
    wp_walk using wpAny_loadPart' hl, wpAny_loadPart' hb, wpAny_forIn_list _ (fun rest b s' => b.1 = none ∧ s' = ⟨hp, g, d, tk, os⟩ ∧ ∃ (vs ws : List Value) (ns' ms' : List Int), rest = vs.zip ws ∧
      Two vs ws ns' ms' ∧ R (.ok (.ret (.bool (lexLt ns' ms')))) ⟨hp, g, d, tk, os⟩) _
    case turn =>
      rintro ⟨y, x⟩ rest b s' ⟨hb', rfl, vs, ws, ns', ms', hz, hvi, hR⟩
      cases hvi with
      | nil => rw [List.zip_nil_left] at hz; cases hz
      | int a t c u hvi' =>
          rw [List.zip_cons_cons] at hz
          injection hz with hyx hrest
          injection hyx with hy hx
          subst hy hx
          rw [lexLt_cons] at hR
          obtain ⟨e, he, hiff⟩ := eqAt_int A.in1 ⟨hp, g, d, tk, os⟩ a t c u
          refine wpAny_bind (he prog w _ _ ?_)
          cases e with
          | true =>
            rw [if_pos (hiff.mp rfl)] at hR
            wp_walk
            exact ⟨rfl, rfl, _, _, _, _, hrest, hvi', hR⟩
          | false =>
            rw [if_neg (fun q => absurd (hiff.mpr q) Bool.false_ne_true)] at hR
            have hri := rcLt_int A.in1 ⟨hp, g, d, tk, os⟩ a t c u prog w
            wp_walk using hri
            exact ⟨_, rfl, by simpa using hR⟩
      | bool p q hvi' =>
          rw [List.zip_cons_cons] at hz
          injection hz with hyx hrest
          injection hyx with hy hx
          subst hy hx
          rw [lexLt_cons] at hR
          obtain ⟨e, he, hiff⟩ := eqAt_bool A.in1 ⟨hp, g, d, tk, os⟩ p q
          refine wpAny_bind (he prog w _ _ ?_)
          cases e with
          | true =>
            rw [if_pos (hiff.mp rfl)] at hR
            wp_walk
            exact ⟨rfl, rfl, _, _, _, _, hrest, hvi', hR⟩
          | false =>
            rw [if_neg (fun z => absurd (hiff.mpr z) Bool.false_ne_true)] at hR
            have hri := rcLt_bool A.in1 ⟨hp, g, d, tk, os⟩ p q prog w
            wp_walk using hri
            exact ⟨_, rfl, by simpa using hR⟩
    case fin =>
      rintro ⟨b1, b2⟩ s' ⟨hb', rfl, vs, ws, ns', ms', hz, hvi, hR⟩
      simp only at hb'
      subst hb'
      have hv : lexLt ns' ms' = decide (items.size < items2.size) := by
        cases hvi with
        | nil =>
          rw [lexLt_nil_nil]
          exact (decide_eq_false (by omega)).symm
        | int a t c u _ => rw [List.zip_cons_cons] at hz; cases hz
        | bool p q _ => rw [List.zip_cons_cons] at hz; cases hz
      rw [hv] at hR
      wp_walk
      exact ⟨_, rfl, by simpa [Builtin.Tuple.tupleCompareSizes] using hR⟩
    case h =>
      exact ⟨rfl, rfl, items.toList, items2.toList, ns, ms, rfl, hi, h⟩
end
section
variable {prog : Program} {w : World} {A : Around} {E : Value → Shared → Prop} {s : Shared}
theorem lt_tupTwo {l b : Addr} {items items2 : Array Value} {ns ms : List Int} {Q : Value → Shared → Prop} (hl : IsTup s.heap l items) (hb : IsTup s.heap b items2) (hi : Two items.toList items2.toList ns ms)
    (hu : A.units < cLine) (h : Q (.bool (lexLt ns ms)) s) : wpAny (model prog w) A (richCompare .Lt (.ref l) (.ref b)) Q E s := by
  obtain ⟨⟨cls, dd, data, sl⟩, ho, hc, n, hd⟩ := id hl
  obtain ⟨⟨cls2, dd2, data2, sl2⟩, ho2, hc2, n2, hd2⟩ := id hb
  simp only at hc hd hc2 hd2
  subst hc hd hc2 hd2
  exact richCompare_meets_room (op := .Lt) ⟨_, ho, rfl⟩ ⟨_, ho2, rfl⟩ PySem.F.slot_tuple_lt PySem.F.entry_tuple_lt (PySem.F.args_tuple_lt_2 _ _) (tuple_lt_two l b items items2 n n2 dd dd2 sl sl2 ns ms hi)
    ⟨ho, ho2, show Value.bool (lexLt ns ms) ≠ Value.notImplemented ∧ Q (.bool (lexLt ns ms)) s from ⟨(fun x => nomatch x), h⟩⟩ hu
end
end HT

set_option Elab.async false
set_option linter.all false
set_option maxRecDepth 100000
set_option maxHeartbeats 4000000
namespace L2
open PySem PySem.Spec PyProof.Rows
def lamO (f c : Addr) (q : Str) (params : Arguments) (body : Expr) (scope : Scope) : Heap → Prop := fun h => ∃ pm ctv, h.get? f = some (PySem.W.kla_obj "<lambda>" q params body scope [] pm c ctv)
def codeE (c : Addr) (q : Str) : Heap → Prop := fun h => ∃ o vs t, h.get? c = some o ∧ o.data = .fields vs ∧ vs[1]? = some (.str q t)
theorem codeE_ok {P : Program} {w : World} {H : Hp} {h : Heap} {c : Addr} {q : Str} (x : codeE c q h) : ObjOk P w H h c (.ext (codeE c q)) :=
  ⟨x, let ⟨o, _, _, e, _⟩ := x; ⟨o, e⟩, fun h1 h2 z k => let ⟨o, vs, t, e, r⟩ := z; ⟨o, vs, t, k _ e, r⟩⟩
theorem lamO_ok {P : Program} {w : World} {H : Hp} {h : Heap} {f c : Addr} {q : Str} {params : Arguments} {body : Expr} {scope : Scope} (x : lamO f c q params body scope h) : ObjOk P w H h f (.ext (lamO f c q params body scope)) :=
  ⟨x, let ⟨_, _, e⟩ := x; ⟨_, e⟩, fun h1 h2 z k => let ⟨pm, ct, e⟩ := z; ⟨pm, ct, k _ e⟩⟩
theorem lam_run {P : Program} {w : World} {K : PySem.W.Frag} {mg : Str → Option Value} {base : Heap} {A : Around} {outer : List Env} {s : Shared} {H : Hp} {f c : Addr} {q : Str} {params : Arguments} {body : Expr} {scope : Scope} {N ps : List Str} {us : List Value} {vs : List V} {Q : VK} {E : XK} {te : TE} {k : Nat}
    (S : FnScope N ps scope) (hr : Room (k + 1) A) (e0 : Env0 P w K mg base A outer s H) (hf : lamO f c q params body scope s.heap) (hc : codeE c q s.heap)
    (hb : ∀ pm ctv, bindArgs (PySem.W.kla_fn "<lambda>" q params body scope [] pm (.ref c) ctv) ⟨us, []⟩ = pure (ps.zip us)) (hl : vs.length = ps.length) (r : Vals vs us)
    (ht : PE (cxOf CX0 P w K mg base N q scope f (.ref c) A outer s H E) body te) (hq : te (start N vs) H Q) : codeAny (model P w) A (.call (.ref f) ⟨us, []⟩) (CR CX0 outer P w H s Q E) s := by
  obtain ⟨pm, ctv, ho⟩ := hf
  have lim : s.heap.NoLimit := e0.mod.nolimit.keeps fun b o e => (e0.bs b o e).1
  have hkind : ∀ y ∈ ps.zip us, scope.names.lookup y.1 = some .local ∨ (scope.names.lookup y.1 = some .cell ∧ ((cellsFrom (s.heap.objs.size + 1) scope.names []).lookup y.1).isSome = true) := fun ⟨n, v⟩ hy => by
    rcases S.par n (List.of_mem_zip hy).1 with q | q
    · exact .inl q
    · exact .inr ⟨q, PySem.W.cellsFrom_some _ _ _ (.inl q)⟩
  have hcd : s.heap.CodeRec (.ref c) q := let ⟨o, vs, t, e, r⟩ := hc; ⟨c, o, vs, t, rfl, e, r⟩
  refine PySem.W.kla_callFunE hr.depth ho rfl S.co S.gen rfl hcd ?_
  rw [hb]
  refine wpAny_pure (wpAny_newFunctionEnv_cells S.kind hkind fun env he s1 x => ?_)
  subst he
  refine ⟨lim.keeps x.toInCall.keep, PySem.W.kla_codeExpr ?_⟩
  have I : Inv (cxOf CX0 P w K mg base N q scope f (.ref c) A outer s H E) [] (start N vs) H s1 := inv_start S hr.hd e0 hl r x
  refine wpAny_mono (ht [] s1 (start N vs) H _ I hq) (fun u s' hs => ?_) fun e s' hs => hs
  obtain ⟨v, H', J, rv, qq⟩ := hs
  exact ⟨v, H', J.os, J.bare, J.base, J.hok, rv, qq⟩
end L2

set_option Elab.async false
set_option linter.all false
set_option maxRecDepth 100000
set_option maxHeartbeats 4000000
namespace L2
open PySem PySem.Spec PyProof.Rows
def BAt (mg : Str → Option Value) (base : Heap) : Prop := ∃ bm o, mg "__builtins__" = some (.ref bm) ∧ bm ≠ builtinsNs ∧ bm ≠ mainGlobals ∧ base.get? bm = some o ∧ o.cls = .type "module" ∧ o.dict = some builtinsNs ∧ o.data = .plain
def LamTab (Pt : Addr) (pos : Pos) (q : Str) (H : Hp) : Prop := H Pt = some (.tbl #[]) ∨ ∃ c, H Pt = some (.tbl #[rawInt pos.line, rawInt pos.col, .ref c]) ∧ H c = some (.ext (codeE c q))
def SameP (Pt : Addr) (H H' : Hp) : Prop := ∀ b o, H b = some o → b ≠ Pt → H' b = some o
theorem Same.p {Pt : Addr} {H H' : Hp} (a : Same H H') : SameP Pt H H' := fun c o h _ => a c o h
theorem LamTab.keep {Pt : Addr} {pos : Pos} {q : Str} {H H' : Hp} (s : Same H H') (h : LamTab Pt pos q H) : LamTab Pt pos q H' := by
  rcases h with h | ⟨c, h1, h2⟩
  · exact .inl (s _ _ h)
  · exact .inr ⟨c, s _ _ h1, s _ _ h2⟩
def tLam (Pt : Addr) (pos : Pos) (q : Str) (params : Arguments) (body : Expr) (scope : Scope) : TE := fun _ H Q => LamTab Pt pos q H ∧ ∀ (f c : Addr) (H' : Hp), H f = none → SameP Pt H H' → LamTab Pt pos q H' →
  H' f = some (.ext (lamO f c q params body scope)) → H' c = some (.ext (codeE c q)) → Q (.ref f) H'
section
variable {X : Cx}
theorem pe_lam {params : Arguments} {body : Expr} {scope : Scope} {pos : Pos} {c Pt : Addr} (hB : BAt X.mg X.base) (hcode : X.env.code = .ref c) (hC : PySem.W.codeHdIn X.K c Pt = true) (hdef : defaultsOf params X.env = ([], []) := by rfl)
    (hcl : closureFor scope X.env = pure [] := by rfl) : PE X (.Lambda params body scope pos) (tLam Pt pos (X.env.qual ++ "<lambda>") params body scope) := by
  intro pins s σ H Q I h
  obtain ⟨hT, hQ⟩ := h
  refine PySem.W.kla_eval hdef ?_
  have hns : s.heap.Ns mainGlobals X.mg := let ⟨o, es, ep, e, r⟩ := I.ok.mod.glob; ⟨o, es, ep, I.bk _ _ e, r⟩
  have hCd := PySem.W.codeHd_of_K I.kIn hC
  obtain ⟨bm, ob, b1, b2, b3, b4, b5, b6, b7⟩ := hB
  have gPt : ∀ ps, H Pt = some (.tbl ps) → s.heap.get? Pt = some (PySem.W.tabObj ps) := fun ps e => I.hok Pt _ e
  have nPt : H Pt ≠ none := by rcases hT with e | ⟨_, e, _⟩ <;> rw [e] <;> simp
  have old : ∀ b o, X.base.get? b = some o → b ≠ Pt := fun b o e z => nPt (by rw [← z]; exact (I.bs b o e).2)
  have hbm : s.heap.BuiltinsAt X.mg Pt := ⟨bm, ob, b1, b2, b3, old _ _ b4, I.bk _ _ b4, b5, b6, b7⟩
  have hgP : mainGlobals ≠ Pt := let ⟨o, _, _, e, _⟩ := I.ok.mod.glob; old _ _ e
  rcases hT with hT | ⟨c1, hT, hc1⟩
  · -- the first time
    refine PySem.W.kla_makeFunction (ps := #[]) hcl I.ok.glob hns hcode hCd (gPt _ hT) True.intro rfl hgP hbm fun c' ctv h' tk hx hge hlt hrec htb => ?_
    obtain ⟨c2, oc, vsc, tc, e2, hoc, hdc, hvc⟩ := hrec
    cases e2
    have hcE : codeE c' (X.env.qual ++ "<lambda>") h' := ⟨oc, vsc, tc, hoc, hdc, hvc⟩
    have fresh : ∀ b, s.heap.objs.size ≤ b → H b = none := fun b hb => I.hok.fresh hb
    have hsz : s.heap.objs.size ≤ h'.objs.size := Nat.le_trans hge (Nat.le_of_lt hlt)
    have nc : c' ≠ h'.objs.size := Nat.ne_of_lt hlt
    have Pc : Pt ≠ c' := fun z => nPt (by rw [z]; exact fresh _ hge)
    have Pf : Pt ≠ h'.objs.size := fun z => nPt (by rw [z]; exact fresh _ hsz)
    have hp2 : (h'.push (PySem.W.kla_obj "<lambda>" (X.env.qual ++ "<lambda>") params body scope [] ((X.mg "__name__").getD .none) c' ctv)).get? Pt = some (PySem.W.tabObj #[rawInt pos.line, rawInt pos.col, .ref c']) := Heap.get?_push_of_some _ htb
    have kp : ∀ b o, b ≠ Pt → s.heap.get? b = some o → (h'.push (PySem.W.kla_obj "<lambda>" (X.env.qual ++ "<lambda>") params body scope [] ((X.mg "__name__").getD .none) c' ctv)).get? b = some o := fun b o hb e => Heap.get?_push_of_some _ (hx b o hb e)
    have hcF : codeE c' (X.env.qual ++ "<lambda>") (h'.push (PySem.W.kla_obj "<lambda>" (X.env.qual ++ "<lambda>") params body scope [] ((X.mg "__name__").getD .none) c' ctv)) := ⟨oc, vsc, tc, Heap.get?_push_of_some _ hoc, hdc, hvc⟩
    have hlF : lamO h'.objs.size c' (X.env.qual ++ "<lambda>") params body scope (h'.push (PySem.W.kla_obj "<lambda>" (X.env.qual ++ "<lambda>") params body scope [] ((X.mg "__name__").getD .none) c' ctv)) := ⟨_, _, Heap.get?_push_size _ rfl⟩
    generalize hh : h'.push (PySem.W.kla_obj "<lambda>" (X.env.qual ++ "<lambda>") params body scope [] ((X.mg "__name__").getD .none) c' ctv) = h2 at hp2 kp hcF hlF ⊢
    have at_ne : ∀ b, b ≠ Pt → b ≠ c' → b ≠ h'.objs.size → upd (upd (upd H Pt (.tbl #[rawInt pos.line, rawInt pos.col, .ref c'])) c' (.ext (codeE c' (X.env.qual ++ "<lambda>")))) h'.objs.size (.ext (lamO h'.objs.size c' (X.env.qual ++ "<lambda>") params body scope)) b = H b :=
      fun b n1 n2 n3 => by rw [upd_ne n3, upd_ne n2, upd_ne n1]
    have at_P : upd (upd (upd H Pt (.tbl #[rawInt pos.line, rawInt pos.col, .ref c'])) c' (.ext (codeE c' (X.env.qual ++ "<lambda>")))) h'.objs.size (.ext (lamO h'.objs.size c' (X.env.qual ++ "<lambda>") params body scope)) Pt = some (.tbl #[rawInt pos.line, rawInt pos.col, .ref c']) := by
      rw [upd_ne Pf, upd_ne Pc, upd_same]
    have at_c : upd (upd (upd H Pt (.tbl #[rawInt pos.line, rawInt pos.col, .ref c'])) c' (.ext (codeE c' (X.env.qual ++ "<lambda>")))) h'.objs.size (.ext (lamO h'.objs.size c' (X.env.qual ++ "<lambda>") params body scope)) c' = some (.ext (codeE c' (X.env.qual ++ "<lambda>"))) := by
      rw [upd_ne nc, upd_same]
    have at_f : upd (upd (upd H Pt (.tbl #[rawInt pos.line, rawInt pos.col, .ref c'])) c' (.ext (codeE c' (X.env.qual ++ "<lambda>")))) h'.objs.size (.ext (lamO h'.objs.size c' (X.env.qual ++ "<lambda>") params body scope)) h'.objs.size = some (.ext (lamO h'.objs.size c' (X.env.qual ++ "<lambda>") params body scope)) := upd_same
    generalize upd (upd (upd H Pt (.tbl #[rawInt pos.line, rawInt pos.col, .ref c'])) c' (.ext (codeE c' (X.env.qual ++ "<lambda>")))) h'.objs.size (.ext (lamO h'.objs.size c' (X.env.qual ++ "<lambda>") params body scope)) = H1 at at_ne at_P at_c at_f
    have oldne : ∀ b u, H b = some u → b ≠ c' ∧ b ≠ h'.objs.size := fun b u e => ⟨ne_of_none e (fresh _ hge), ne_of_none e (fresh _ hsz)⟩
    have un : Un (frs X.stack) [] H H1 s.heap h2 := by
      refine ⟨fun b o e n _ _ => kp b o (fun z => nPt (by rw [← z]; exact n)) e, fun b o e n _ _ => ⟨o.slots, kp b o (fun z => nPt (by rw [← z]; exact n)) e⟩, fun b o e n _ => ?_, fun b o e _ => ?_, fun b xs e => ?_, fun b o u e => ?_, fun b ps e => ?_⟩
      · have hb := Heap.lt_size e
        rw [at_ne b (fun z => nPt (by rw [← z]; exact n)) (Nat.ne_of_lt (Nat.lt_of_lt_of_le hb hge)) (Nat.ne_of_lt (Nat.lt_of_lt_of_le hb hsz))]
        exact n
      · by_cases hb : b = Pt
        · rw [hb]; exact ⟨_, hp2⟩
        · exact ⟨o, kp b o hb e⟩
      · have := oldne b _ e
        rw [at_ne b (ne_of e hT (by intro z; cases z)) this.1 this.2]
        exact e
      · have := oldne b _ e
        rw [at_ne b (ne_of e hT (by intro z; cases z)) this.1 this.2]
        exact e
      · by_cases hb : b = Pt
        · rw [hb, hT] at e
          cases e
          exact ⟨#[rawInt pos.line, rawInt pos.col, .ref c'], by rw [hb, at_P]; simp⟩
        · have := oldne b _ e
          exact ⟨#[], by rw [at_ne b hb this.1 this.2, e]; simp⟩
    have hok : HOk X.prog X.w H1 h2 := by
      intro a o e
      by_cases e1 : a = h'.objs.size
      · subst e1
        rw [at_f] at e
        cases e
        exact lamO_ok hlF
      · by_cases e2 : a = c'
        · subst e2
          rw [at_c] at e
          cases e
          exact codeE_ok hcF
        · by_cases e3 : a = Pt
          · subst e3
            rw [at_P] at e
            cases e
            exact hp2
          · rw [at_ne a e3 e2 e1] at e
            refine (I.hok a o e).stay (fun b u hb eb => kp b u ?_ eb) (fun b eb => ?_) fun b xs eb => un.tups b xs eb
            · rcases hb with rfl | hb
              · exact e3
              · exact ne_of hb hT (by intro z; cases z)
            · have := oldne b _ eb
              rw [at_ne b (ne_of eb hT (by intro z; cases z)) this.1 this.2]
              exact eb
    refine ⟨.ref h'.objs.size, H1, I.call (h' := h2) (g' := s.gens) (d' := s.drawn) (t' := tk) (ch := []) un hok I.bare (fun b z => absurd z (by simp)), rfl, hQ _ c' H1 (fresh _ hsz) (fun b o e n => ?_) (.inr ⟨c', at_P, at_c⟩) at_f at_c⟩
    have := oldne b _ e
    rw [at_ne b n this.1 this.2]
    exact e
  · -- its code is there
    have hf : codeAmong pos (#[rawInt pos.line, rawInt pos.col, Value.ref c1] : Array Value).toList = some (.ref c1) := by
      have := codeAmong_snoc (pos := pos) (c := .ref c1) [] True.intro rfl
      exact this
    refine PySem.W.kla_makeFunctionHit (cv := .ref c1) hcl I.ok.glob hns hcode hCd (gPt _ hT) True.intro hf hbm fun ctv h' tk hk hsz => ?_
    have fr : H h'.objs.size = none := I.hok.fresh hsz
    refine ⟨.ref h'.objs.size, _, I.laid (a := h'.objs.size) (o := .ext (lamO h'.objs.size c1 (X.env.qual ++ "<lambda>") params body scope)) (t' := tk) (fun b u e => Heap.get?_push_of_some _ (hk b u e)) hsz (lamO_ok ⟨_, _, Heap.get?_push_size _ rfl⟩), rfl, ?_⟩
    have sm := Same.upd (o := .ext (lamO h'.objs.size c1 (X.env.qual ++ "<lambda>") params body scope)) fr
    exact hQ _ c1 _ fr (Same.p sm) (LamTab.keep sm (.inr ⟨c1, hT, hc1⟩)) upd_same (sm _ _ hc1)
end
end L2

set_option Elab.async false
set_option linter.all false
set_option maxRecDepth 100000
set_option maxHeartbeats 4000000
namespace L2
open PySem PySem.Spec PyProof.Rows
def CallKR (X : Cx) (f : Value) (ks : List Str) (r : List V → List V → Hp → VK → Prop) : Prop :=
  ∀ (pins : List (Addr × Obj)) (s : Shared) (σ : St) (H : Hp) (vs : List V) (us : List Value) (zs : List V) (ws : List Value) (Q : VK), Inv X pins σ H s → Vals vs us → Vals zs ws → r vs zs H Q →
    wpAny (model X.prog X.w) X.A (call f us (ks.zip ws)) (EP X pins σ Q) X.xe s
def tCBK (r : List V → List V → Hp → VK → Prop) (t tk : TA) : TE := fun σ H Q => t σ H fun vs H1 => tk σ H1 fun zs H2 => r vs zs H2 Q
section
variable {X : Cx} {x : Str} {p pos : Pos} {e : Expr} {es : List Expr} {kws : List Keyword} {t tk : TA} {id : String} {ks : List Str} {r : List V → List V → Hp → VK → Prop}
theorem pe_callBK (hc : CallKR X (.builtin id) ks r) (hg : Gl X x) (hm : X.mg x = none) (hv : bootBuiltins x = some (.builtin id)) (ha : PA X (e :: es) t) (hkw : PK X kws tk) (hn : x ≠ "__name__" := by decide) (hdb : (x == ("__debug__" : Str)) = false := by decide)
    (hks : (backToKw pos (keywordEach kws X.env)).filterMap (·.1) = ks := by rfl)
    (he : backTo pos (starEach (e :: es) X.env) = (false, eval e X.env) :: backTo pos (starEach es X.env) := by rfl) (hpl : (backTo pos (starEach (e :: es) X.env)).any (·.1) = false := by rfl)
    (hall : (backToKw pos (keywordEach kws X.env)).all (·.1.isSome) = true := by rfl) (hnn : (backToKw pos (keywordEach kws X.env)).any (·.1.isNone) = false := by rfl) : PE X (.Call (.Name x p) (e :: es) kws pos) (tCBK r t tk) := by
  intro pins s σ H Q I h
  refine wpAny_Call_Name_kw (ld_blt I hg hm hv ?_ hn hdb)
  refine PyProof.Rows.callWith_kw (thn (ha pos pins s σ H _ I h) fun us s1 ⟨vs, H1, I1, r1, q1⟩ => ?_) he hpl hall hnn
  refine thn (hkw pos pins s1 σ H1 _ I1 q1) fun ws s2 ⟨zs, H2, I2, rz, q2⟩ => ?_
  rw [hks]
  exact hc pins s2 σ H2 vs us zs ws Q I2 r1 rz q2
end
def kz (x : Bool × Int) : List Int := [HT.b2z x.1, x.2]
theorem lex_irr (a : Bool × Int) : HT.lexLt (kz a) (kz a) = false := by simp [kz, HT.lexLt]
theorem lex_two (a b c d : Int) : HT.lexLt [a, b] [c, d] = if a = c then decide (b < d) else decide (a < c) := by
  rw [HT.lexLt_cons, HT.lexLt_cons, HT.lexLt_nil_nil]
  by_cases h : a = c
  · rw [if_pos h, if_pos h]
    by_cases h2 : b = d
    · rw [if_pos h2, decide_eq_false (by omega)]
    · rw [if_neg h2]
  · rw [if_neg h, if_neg h]
theorem lex_trans {a b c : Bool × Int} (h1 : HT.lexLt (kz a) (kz b) = true) (h2 : HT.lexLt (kz c) (kz b) = false) : HT.lexLt (kz c) (kz a) = false := by
  unfold kz at *
  rw [lex_two] at *
  generalize HT.b2z a.1 = a1 at *
  generalize HT.b2z b.1 = b1 at *
  generalize HT.b2z c.1 = c1 at *
  split at h1 <;> split at h2 <;> split <;> simp only [decide_eq_true_eq, decide_eq_false_iff_not] at * <;> omega
def rMinKey (K : PySem.W.Frag) (q : Str) (params : Arguments) (body : Expr) (scope : Scope) (N : List Str) (te : TE) : List V → List V → Hp → VK → Prop := fun vs zs H Q => ∃ (p : Addr) (xs : List V) (f c : Addr) (kb : Nat → Bool × Int), vs = [.ref p] ∧ zs = [.ref f, .non] ∧ SqL K H p xs ∧
  H f = some (.ext (lamO f c q params body scope)) ∧ H c = some (.ext (codeE c q)) ∧
  (∀ (i : Nat) (v : V) (Hj : Hp), xs[i]? = some v → Same H Hj → te (start N [v]) Hj fun r H2 => ∃ t, r = .ref t ∧ H2 t = some (.tup [.bl (kb i).1, .int (kb i).2]) ∧ Same Hj H2) ∧
  (xs = [] → Q .non H) ∧ ∀ (i : Nat) (v : V) (H' : Hp), xs[i]? = some v → (∀ j, j < xs.length → HT.lexLt (kz (kb j)) (kz (kb i)) = false) → Same H H' → Q v H'
theorem args_min2 (a v d : Value) : argsOk "min" ⟨[a], [(Str.ofString "key", v), (Str.ofString "default", d)]⟩ := by unfold argsOk; kernel_rfl
section
variable {X : Cx}
theorem FpOk.call {pins : List (Addr × Obj)} {H H' : Hp} {h h' : Heap} {b : Addr} {o : Obj} (x : FpOk X pins H b) (e : h.get? b = some o) (un : Un (frs X.stack) [] H H' h h') (I : ∀ b ∈ frs X.stack, b ∈ X.env.locals :: X.fs) : FpOk X pins H' b ∧ h'.get? b = some o := by
  refine ⟨⟨un.free b o e x.1 (by simp), x.2⟩, un.keep b o e x.1 (fun z => ?_) (by simp)⟩
  rcases List.mem_cons.mp (I b z) with z | z
  · exact x.2.1 z
  · exact x.2.2.1 z
theorem call_minKey {params : Arguments} {body : Expr} {scope : Scope} {N : List Str} {a : Str} {q : Str} {te : TE} {k : Nat} (S : FnScope N [a] scope) (hr : Room (k + 2) X.A) (hcalm : X.calm = true)
    (hb : ∀ (c : Addr) (u pm ctv : Value), bindArgs (PySem.W.kla_fn "<lambda>" q params body scope [] pm (.ref c) ctv) ⟨[u], []⟩ = pure [(a, u)])
    (ht : ∀ (f c : Addr) (A : Around) (outer : List Env) (s : Shared) (H : Hp) (E : XK), PE (cxOf CX0 X.prog X.w X.K X.mg X.base N q scope f (.ref c) A outer s H E) body te) :
    CallKR X (.builtin "min") ["key", "default"] (rMinKey X.K q params body scope N te) := by
  intro pins s σ H vs us zs ws Q I rv rz h
  obtain ⟨p, xs, f, c, kb, rfl, rfl, hS, hf, hc, turn, q0, q1⟩ := h
  obtain ⟨u, rfl, ru⟩ := vals1 rv
  cases (show u = Value.ref p from ru)
  obtain ⟨u1, u2, rfl, r1, r2⟩ := vals2 rz
  cases (show u1 = Value.ref f from r1)
  cases (show u2 = Value.none from r2)
  have hh : X.A.handled = none := I.ok.hd hcalm
  have hname : (toString "min" ++ toString ".loop" : String) = "min.loop" := by decide
  -- one call of the key
  have one : ∀ (i : Nat) (x : V) (v : Value) (H1 : Hp) (s1 : Shared), xs[i]? = some x → RelV x v → Same H H1 → Inv X pins σ H1 s1 →
      wpAny (model X.prog X.w) X.A.in1 (call (.ref f) [v]) (fun u s2 => ∃ (t : Addr) (H2 : Hp), u = .ref t ∧ Inv X pins σ H2 s2 ∧ H2 t = some (.tup [.bl (kb i).1, .int (kb i).2]) ∧ Same H1 H2 ∧ Un (frs X.stack) [] H1 H2 s1.heap s2.heap) (fun _ _ => False) s1 := by
    intro i x v H1 s1 hx rx sm I1
    have hlam : lamO f c q params body scope s1.heap := (I1.hok f _ (sm _ _ hf)).1
    have hcod : codeE c q s1.heap := (I1.hok c _ (sm _ _ hc)).1
    refine wpAny_call (codeAny_mono (lam_run (k := k) (us := [v]) (vs := [x]) (E := E0) S (hr.in1) I1.env0.in1 hlam hcod (fun pm ctv => hb c v pm ctv) rfl (.cons rx .nil) (ht f c _ _ _ _ _) (turn i x H1 hx sm)) fun r s2 hq => ?_)
    cases r with
    | error e => exact hq
    | ok fl =>
      cases fl with
      | ret u =>
        have hq' : CE X.stack X.prog X.w H1 s1 (fun r H2 => ∃ t, r = .ref t ∧ H2 t = some (.tup [.bl (kb i).1, .int (kb i).2]) ∧ Same H1 H2) u s2 := hq
        obtain ⟨v', H', os, bare, un, hok, rr, t, e1, e2, e3⟩ := hq'
        subst e1
        exact ⟨t, H', rr, I1.call' os un hok bare (fun b z => absurd z (by simp)), e2, e3, un⟩
      | next => exact False.elim hq
      | brk => exact False.elim hq
      | cont => exact False.elim hq
  have pair_of : ∀ {H1 : Hp} {s1 : Shared} {t : Addr} {b : Bool} {z : Int}, Inv X pins σ H1 s1 → H1 t = some (.tup [.bl b, .int z]) → ∃ tk, IsTup s1.heap t #[.bool b, .int z tk] := by
    intro H1 s1 t b z I1 e
    obtain ⟨its, rt, tt, _⟩ := I1.tuple (SqT.of (K := X.K) e)
    cases rt with
    | cons ra rr =>
      cases rr with
      | cons rb r0 =>
        cases r0
        obtain ⟨tk, rfl⟩ := (show ∃ t, _ = Value.int z t from rb)
        cases (show _ = Value.bool b from ra)
        exact ⟨tk, tt⟩
  have unit1 : X.A.in1.units < cLine := by have := hr.un; show X.A.units + 1 < cLine; omega
  -- the loop
  have loop : ∀ (r j i : Nat) (Ia Sa t : Addr) (H1 : Hp) (s1 : Shared) (vb : Value) (cn : Nat), xs.length - (j + 1) = r → j + 1 ≤ xs.length → i ≤ j → Inv X pins σ H1 s1 → Same H H1 → s1.heap.IsListIter Ia p (j + 1) → Ia ≠ Sa → p ≠ Ia →
      FpOk X pins H1 Ia → FpOk X pins H1 Sa → s1.heap.get? Sa = some (seqObj "list" #[vb, .ref t] cn) → (∃ x, xs[i]? = some x ∧ RelV x vb) → H1 t = some (.tup [.bl (kb i).1, .int (kb i).2]) → (∀ j', j' ≤ j → HT.lexLt (kz (kb j')) (kz (kb i)) = false) →
      codeAny (model X.prog X.w) X.A (.builtin "min.loop" ⟨[.ref Ia, .ref f, .ref Sa], [(Str.ofString "default", .none)]⟩) (fun r s' => match r with | .ok (.ret v) => EP X pins σ Q v s' | .ok _ => False | .error e => X.xe e s') s1 := by
    intro r
    induction r with
    | zero =>
      intro j i Ia Sa t H1 s1 vb cn hr0 hj hij I1 sm hit hIS hpI fI fS hSa hvb htt hbest
      obtain ⟨its, rv', pl, hz⟩ := I1.list (sm.seq hS)
      have hlen := rv'.length
      have W := Walks.list (prog := X.prog) (w := X.w) (A := X.A.in1) hh Ia p hpI its.toArray
      refine codeAny_builtin PySem.F.entry_min_loop ?_
      rw [Around.under_plainId PySem.F.plain_min_loop _]
      show wpAny _ X.A.in1 (seqItems? (.ref Sa) >>= _) _ _ _
      refine wpAny_bind (wpAny_seqItems hSa rfl ?_)
      show wpAny _ X.A.in1 (tryCatch (pyNext (.ref Ia)) _ >>= _) _ _ _
      refine wpAny_bind (wpAny_tryCatch (W.done _ _ _ ⟨by rw [List.size_toArray, ← hlen, show xs.length = j + 1 by omega]; exact hit, pl.isList⟩ fun h' tk' hk' => ?_))
      have I2 : Inv X pins σ H1 { s1 with heap := h', toks := tk' } := I1.turned (it := Ia) (fun b o hb e => hk' b o (by simpa using hb) e) fI.1 fI.2.1 fI.2.2.2.1 fI.2.2.2.2.1 fI.2.2.2.2.2
      have hS2 : h'.get? Sa = some (seqObj "list" #[vb, .ref t] cn) := hk' Sa _ (by simpa using hIS.symm) hSa
      have s3 := Heap.SameBut.update h' Sa (Obj.mapSeq fun _ => (#[] : Array Value))
      show wpAny _ X.A.in1 (updateSeq Sa (fun _ => #[]) >>= _) _ _ _
      refine wpAny_bind ?_
      refine wpAny_updateSeq hS2 rfl (wpAny_bind (wpAny_letGo (wpAny_pure ?_)))
      have I3 : Inv X pins σ H1 { s1 with heap := h'.update Sa (Obj.mapSeq fun _ => (#[] : Array Value)), toks := tk' } := Inv.turned (s := { s1 with heap := h', toks := tk' }) (it := Sa) I2 (fun b o hb e => (s3.2 b hb).trans e) fS.1 fS.2.1 fS.2.2.2.1 fS.2.2.2.2.1 fS.2.2.2.2.2
      obtain ⟨x, hx, rx⟩ := hvb
      exact ⟨x, H1, I3, rx, q1 i x H1 hx (fun j' hj' => hbest j' (by omega)) sm⟩
    | succ r ih =>
      intro j i Ia Sa t H1 s1 vb cn hr0 hj hij I1 sm hit hIS hpI fI fS hSa hvb htt hbest
      obtain ⟨its, rv', pl, hz⟩ := I1.list (sm.seq hS)
      have hlen := rv'.length
      have W := Walks.list (prog := X.prog) (w := X.w) (A := X.A.in1) hh Ia p hpI its.toArray
      refine codeAny_builtin PySem.F.entry_min_loop ?_
      rw [Around.under_plainId PySem.F.plain_min_loop _]
      show wpAny _ X.A.in1 (seqItems? (.ref Sa) >>= _) _ _ _
      refine wpAny_bind (wpAny_seqItems hSa rfl ?_)
      show wpAny _ X.A.in1 (tryCatch (pyNext (.ref Ia)) _ >>= _) _ _ _
      refine wpAny_bind (wpAny_tryCatch (W.item (j + 1) _ _ _ (by rw [List.size_toArray]; omega) ⟨hit, pl.isList⟩ fun v h' tk' hP hst' hk' => ?_))
      have hv : its[j + 1]? = some v := by simpa using hP
      have hxj : ∃ x, xs[j + 1]? = some x := ⟨_, List.getElem?_eq_getElem (by omega)⟩
      obtain ⟨x, hx⟩ := hxj
      obtain ⟨v', hv', rxv⟩ := rv'.get hx
      rw [hv] at hv'
      cases hv'
      have I2 : Inv X pins σ H1 { s1 with heap := h', toks := tk' } := I1.turned (it := Ia) (fun b o hb e => hk' b o (by simpa using hb) e) fI.1 fI.2.1 fI.2.2.2.1 fI.2.2.2.2.1 fI.2.2.2.2.2
      have hS2 : h'.get? Sa = some (seqObj "list" #[vb, .ref t] cn) := hk' Sa _ (by simpa using hIS.symm) hSa
      obtain ⟨oI, hoI, hoc, hod⟩ := id hst'.1
      show wpAny _ X.A.in1 (tryCatch (holding [v] (call (.ref f) [v])) _ >>= _) _ _ _
      refine wpAny_bind (wpAny_tryCatch (wpAny_holding (wpAny_mono (one (j + 1) x v H1 _ hx rxv sm I2) (fun u s2 he => ?_) fun _ _ hF => hF.elim)))
      obtain ⟨t2, H2, rfl, I3, ht2, sm2, un⟩ := he
      obtain ⟨fI2, hI2⟩ := fI.call hoI un I1.stkSub
      obtain ⟨fS2, hS3⟩ := fS.call hS2 un I1.stkSub
      have hit2 : s2.heap.IsListIter Ia p (j + 1 + 1) := ⟨oI, hI2, hoc, hod⟩
      have sm12 := sm.trans sm2
      obtain ⟨k1, tup1⟩ := pair_of I3 ht2
      obtain ⟨k2, tup2⟩ := pair_of I3 (sm2 _ _ htt)
      show wpAny _ X.A.in1 (tryCatch (holding [v, .ref t2] (richCompare .Lt (.ref t2) (.ref t) >>= _)) _ >>= _) _ _ _
      refine wpAny_bind (wpAny_tryCatch (wpAny_holding (wpAny_bind (HT.lt_tupTwo tup1 tup2 (HT.Two.bool _ _ (HT.Two.int _ _ _ _ HT.Two.nil)) unit1 ?_))))
      refine wpAny_bind (wpAny_holding (wpAny_truthy_bool ?_))
      refine wpAny_bind (wpAny_letGo (wpAny_pure ?_))
      have ekz : HT.lexLt [HT.b2z (kb (j + 1)).1, (kb (j + 1)).2] [HT.b2z (kb i).1, (kb i).2] = HT.lexLt (kz (kb (j + 1))) (kz (kb i)) := rfl
      rw [ekz]
      cases hb' : HT.lexLt (kz (kb (j + 1))) (kz (kb i)) with
      | true =>
        have s3 := Heap.SameBut.update s2.heap Sa (Obj.mapSeq fun _ => #[v, .ref t2])
        obtain ⟨c2, hc2⟩ : ∃ c2, (s2.heap.update Sa (Obj.mapSeq fun _ => #[v, .ref t2])).get? Sa = some (seqObj "list" #[v, .ref t2] c2) := ⟨_, get?_update_seq hS3 fun _ => #[v, .ref t2]⟩
        simp only [if_true]
        refine wpAny_bind ?_
        refine wpAny_updateSeq hS3 rfl (wpAny_bind (wpAny_letGo ?_))
        rw [hname]
        have I4 : Inv X pins σ H2 { s2 with heap := s2.heap.update Sa (Obj.mapSeq fun _ => #[v, .ref t2]), toks := s2.toks } := I3.turned (it := Sa) (t' := s2.toks) (fun b o hb e => (s3.2 b hb).trans e) fS2.1 fS2.2.1 fS2.2.2.2.1 fS2.2.2.2.2.1 fS2.2.2.2.2.2
        refine wpAny_pure ⟨plainId_quiet PySem.F.plain_min_loop _, ih (j + 1) (j + 1) Ia Sa t2 H2 _ v c2 (by omega) (by omega) (Nat.le_refl _) I4 sm12 ⟨oI, (s3.2 Ia hIS).trans hI2, hoc, hod⟩ hIS hpI fI2 fS2 hc2 ⟨x, hx, rxv⟩ ht2 fun j' hj' => ?_⟩
        by_cases e : j' = j + 1
        · subst e; exact lex_irr _
        · exact lex_trans hb' (hbest j' (by omega))
      | false =>
        simp only [Bool.false_eq_true, if_false]
        refine wpAny_bind (wpAny_letGo ?_)
        rw [hname]
        refine wpAny_pure ⟨plainId_quiet PySem.F.plain_min_loop _, ih (j + 1) i Ia Sa t H2 _ vb cn (by omega) (by omega) (by omega) I3 sm12 hit2 hIS hpI fI2 fS2 hS3 hvb (sm2 _ _ htt) fun j' hj' => ?_⟩
        by_cases e : j' = j + 1
        · subst e; exact hb'
        · exact hbest j' (by omega)
  -- the beginning
  obtain ⟨its, rv', pl, hz⟩ := I.list hS
  have hlen := rv'.length
  refine PyProof.Rows.kmk_tree PySem.F.kind_min PySem.F.plain_min PySem.F.entry_min (args_min2 _ _ _) ?_
  show wpAny _ X.A.in1 (Builtin.Builtins.bindParams "min" ["key", "default"] 0 ⟨[], [(Str.ofString "key", .ref f), (Str.ofString "default", .none)]⟩ >>= _) _ _ s
  refine wpAny_bind (wpAny_of_eq (show Builtin.Builtins.bindParams "min" ["key", "default"] 0 ⟨[], [(Str.ofString "key", .ref f), (Str.ofString "default", .none)]⟩ = pure [some (.ref f), some .none] from rfl) ?_)
  refine wpAny_bind (wpAny_pure ?_)
  refine wpAny_bind (wpAny_pyIter_list pl.isList ?_)
  refine wpAny_bind (wpAny_newList ?_ (Nat.zero_le _))
  rw [hname]
  refine wpAny_pure ⟨plainId_quiet PySem.F.plain_min_loop _, ?_⟩
  have hS1 : (s.heap.push { cls := .type "list_iterator", data := .fields #[.ref p, .int 0 0] }).objs.size = s.heap.objs.size + 1 := size_push' ..
  have kp : ∀ b o, s.heap.get? b = some o → ((s.heap.push { cls := .type "list_iterator", data := .fields #[.ref p, .int 0 0] }).push (seqObj "list" #[] 0)).get? b = some o := fun b o e => Heap.get?_push_of_some _ (Heap.get?_push_of_some _ e)
  have gI : ((s.heap.push { cls := .type "list_iterator", data := .fields #[.ref p, .int 0 0] }).push (seqObj "list" #[] 0)).get? s.heap.objs.size = some { cls := .type "list_iterator", data := .fields #[.ref p, .int 0 0] } := Heap.get?_push_of_some _ (Heap.get?_push_size _ rfl)
  have gS : ((s.heap.push { cls := .type "list_iterator", data := .fields #[.ref p, .int 0 0] }).push (seqObj "list" #[] 0)).get? (s.heap.push { cls := .type "list_iterator", data := .fields #[.ref p, .int 0 0] }).objs.size = some (seqObj "list" #[] 0) := Heap.get?_push_size _ rfl
  rw [hS1] at gS ⊢
  have hpl : p < s.heap.objs.size := let ⟨o, ho, _⟩ := pl.isList; Heap.lt_size ho
  have fI : FpOk X pins H s.heap.objs.size := I.fpOk (Nat.le_refl _) (I.hok.fresh (Nat.le_refl _))
  have fS : FpOk X pins H (s.heap.objs.size + 1) := I.fpOk (Nat.le_succ _) (I.hok.fresh (Nat.le_succ _))
  have hIS : s.heap.objs.size ≠ s.heap.objs.size + 1 := Nat.ne_of_lt (Nat.lt_succ_self _)
  have hpI : p ≠ s.heap.objs.size := Nat.ne_of_lt hpl
  have I0 : Inv X pins σ H { s with heap := (s.heap.push { cls := .type "list_iterator", data := .fields #[.ref p, .int 0 0] }).push (seqObj "list" #[] 0), toks := s.toks } := I.kept (t' := s.toks) kp
  generalize (s.heap.push { cls := .type "list_iterator", data := .fields #[.ref p, .int 0 0] }).push (seqObj "list" #[] 0) = hp0 at kp gI gS I0 ⊢
  generalize s.heap.objs.size = Ia at gI gS fI fS hIS hpI ⊢
  obtain ⟨its0, rv0, pl0, _⟩ := I0.list hS
  have hlen0 := rv0.length
  have W := Walks.list (prog := X.prog) (w := X.w) (A := X.A.in1) hh Ia p hpI its0.toArray
  refine codeAny_builtin PySem.F.entry_min_loop ?_
  rw [Around.under_plainId PySem.F.plain_min_loop _]
  show wpAny _ X.A.in1 (seqItems? (.ref _) >>= _) _ _ _
  refine wpAny_bind (wpAny_seqItems gS rfl ?_)
  show wpAny _ X.A.in1 (tryCatch (pyNext (.ref Ia)) _ >>= _) _ _ _
  by_cases hne : xs.length = 0
  · refine wpAny_bind (wpAny_tryCatch (W.done _ _ _ ⟨by rw [List.size_toArray, ← hlen0, hne]; exact ⟨_, gI, rfl, rfl⟩, pl0.isList⟩ fun h' tk' hk' => ?_))
    have I2 : Inv X pins σ H { s with heap := h', toks := tk' } := Inv.turned (s := { s with heap := hp0, toks := s.toks }) (it := Ia) I0 (fun b o hb e => hk' b o (by simpa using hb) e) fI.1 fI.2.1 fI.2.2.2.1 fI.2.2.2.2.1 fI.2.2.2.2.2
    show wpAny _ X.A.in1 (rule _ >>= _) _ _ _
    refine wpAny_bind (wpAny_rule (wpAny_pure ?_))
    exact ⟨.non, H, I2, rfl, q0 (List.length_eq_zero_iff.mp hne)⟩
  · refine wpAny_bind (wpAny_tryCatch (W.item 0 _ _ _ (by rw [List.size_toArray]; omega) ⟨⟨_, gI, rfl, rfl⟩, pl0.isList⟩ fun v h' tk' hP hst' hk' => ?_))
    have hv : its0[0]? = some v := by simpa using hP
    obtain ⟨x, hx⟩ : ∃ x, xs[0]? = some x := ⟨_, List.getElem?_eq_getElem (by omega)⟩
    obtain ⟨v', hv', rxv⟩ := rv0.get hx
    rw [hv] at hv'
    cases hv'
    have I2 : Inv X pins σ H { s with heap := h', toks := tk' } := Inv.turned (s := { s with heap := hp0, toks := s.toks }) (it := Ia) I0 (fun b o hb e => hk' b o (by simpa using hb) e) fI.1 fI.2.1 fI.2.2.2.1 fI.2.2.2.2.1 fI.2.2.2.2.2
    have hS2 : h'.get? (Ia + 1) = some (seqObj "list" #[] 0) := hk' _ _ (by simpa using hIS.symm) gS
    obtain ⟨oI, hoI, hoc, hod⟩ := id hst'.1
    show wpAny _ X.A.in1 (tryCatch (holding [v] (call (.ref f) [v])) _ >>= _) _ _ _
    refine wpAny_bind (wpAny_tryCatch (wpAny_holding (wpAny_mono (one 0 x v H _ hx rxv (Same.refl _) I2) (fun u s2 he => ?_) fun _ _ hF => hF.elim)))
    obtain ⟨t2, H2, rfl, I3, ht2, sm2, un⟩ := he
    obtain ⟨fI2, hI2⟩ := fI.call hoI un I.stkSub
    obtain ⟨fS2, hS3⟩ := fS.call hS2 un I.stkSub
    have s3 := Heap.SameBut.update s2.heap (Ia + 1) (Obj.mapSeq fun _ => #[v, .ref t2])
    obtain ⟨c2, hc2⟩ : ∃ c2, (s2.heap.update (Ia + 1) (Obj.mapSeq fun _ => #[v, .ref t2])).get? (Ia + 1) = some (seqObj "list" #[v, .ref t2] c2) := ⟨_, get?_update_seq hS3 fun _ => #[v, .ref t2]⟩
    show wpAny _ X.A.in1 (updateSeq (Ia + 1) (fun _ => #[v, .ref t2]) >>= _) _ _ _
    refine wpAny_bind ?_
    refine wpAny_updateSeq hS3 rfl ?_
    rw [hname]
    have I4 : Inv X pins σ H2 { s2 with heap := s2.heap.update (Ia + 1) (Obj.mapSeq fun _ => #[v, .ref t2]), toks := s2.toks } := I3.turned (it := Ia + 1) (t' := s2.toks) (fun b o hb e => (s3.2 b hb).trans e) fS2.1 fS2.2.1 fS2.2.2.2.1 fS2.2.2.2.2.1 fS2.2.2.2.2.2
    refine wpAny_pure ⟨plainId_quiet PySem.F.plain_min_loop _, loop _ 0 0 Ia (Ia + 1) t2 H2 _ v c2 rfl (by omega) (Nat.le_refl _) I4 sm2 ⟨oI, (s3.2 Ia hIS).trans hI2, hoc, hod⟩ hIS hpI fI2 fS2 hc2 ⟨x, hx, rxv⟩ ht2 fun j' hj' => ?_⟩
    have e : j' = 0 := by omega
    subst e
    exact lex_irr _
end
end L2

set_option Elab.async false
set_option linter.all false
set_option maxRecDepth 100000
set_option maxHeartbeats 4000000
namespace HT
open PySem PySem.SeqAt PySem.MeetsSeq PySem.MeetsSeq2 PySem.MeetsSeq3 PySem.SeqRoads2
open PySem.AutoSeq1 (wpAny_loadPart')
theorem remove_at (l : Addr) (items : Array Value) (n : Nat) (x : Value) (e : Value → Bool) (j : Nat) (hj : j < items.size) (hit : e items[j] = true) (k : Nat) (hs1 : items.size ≤ sizeLine) :
    ∀ i : Nat, j - i = k → i ≤ j → (∀ m (hm : m < items.size), i ≤ m → m < j → e items[m] = false) → Meets (Builtin.«list.remove.loop» ⟨[.ref l, x, rawInt i], []⟩)
      (fun A R s => s.heap.get? l = some { cls := .type "list", dict := none, data := .seq items n, slots := #[] } ∧ (∀ y, y ∈ items → EqAt A.in1 s y x (e y)) ∧ R (.ok (.ret .none)) { s with heap := s.heap.update l (Obj.mapSeq fun xs => xs.eraseIdxIfInBounds j) }) := by
  induction k with
  | zero =>
    intro i hk hij hno prog w A R s h
    obtain ⟨hp, g, d, tk, os⟩ := s
    obtain ⟨hl, he, h⟩ := h
    have hij' : i = j := by omega
    subst hij'
    wp_walk using wpAny_loadPart' hl
    have hi : items[((i : Nat) : Int).toNat]? = some items[i] := by simp [hj]
    rw [hi]
    refine wpAny_bind (he _ (Array.getElem_mem hj) prog w _ _ ?_)
    rw [hit]
    have hz' : (items.eraseIdxIfInBounds i).size ≤ sizeLine + 1 := Nat.le_trans (size_erased items _) (Nat.le_succ_of_le hs1)
    wp_walk using (wpAny_updateSeq hl rfl (hz := hs1) (_hz' := hz')), wpAny_loadPart' hl
    simpa using h
  | succ k ih =>
    intro i hk hij hno prog w A R s h
    obtain ⟨hp, g, d, tk, os⟩ := s
    obtain ⟨hl, he, h⟩ := h
    have hlt : i < items.size := by omega
    wp_walk using wpAny_loadPart' hl
    have hi : items[((i : Nat) : Int).toNat]? = some items[i] := by simp [hlt]
    have hc : ((i : Int) + 1) = ((i + 1 : Nat) : Int) := by push_cast; rfl
    rw [hi]
    refine wpAny_bind (he _ (Array.getElem_mem hlt) prog w _ _ ?_)
    rw [hno i hlt (Nat.le_refl _) (by omega)]
    wp_walk
    rw [hc]
    exact ⟨plainId_quiet plain_remove_loop _, codeAny_builtin entry_remove_loop (by
      rw [Around.under_plainId plain_remove_loop _]
      exact ih (i + 1) (by omega) (by omega) (fun m hm h1 h2 => hno m hm (by omega) h2) prog w A R _ ⟨hl, he, h⟩)⟩
theorem remove_data (l : Addr) (items : Array Value) (n : Nat) (x : Value) (e : Value → Bool) (j : Nat) (hj : j < items.size) (hit : e items[j] = true) (hno : ∀ m (hm : m < items.size), m < j → e items[m] = false) (hs1 : items.size ≤ sizeLine) :
    Meets (Builtin.«list.remove» ⟨[.ref l, x], []⟩)
      (fun A R s => s.heap.get? l = some { cls := .type "list", dict := none, data := .seq items n, slots := #[] } ∧ (∀ y, y ∈ items → EqAt A.in1 s y x (e y)) ∧ R (.ok (.ret .none)) { s with heap := s.heap.update l (Obj.mapSeq fun xs => xs.eraseIdxIfInBounds j) }) := by
  intro prog w A R s h
  obtain ⟨hp, g, d, tk, os⟩ := s
  obtain ⟨hl, he, h⟩ := h
  wp_walk using wpAny_loadPart' hl
  exact ⟨plainId_quiet plain_remove_loop _, codeAny_builtin entry_remove_loop (by
    rw [Around.under_plainId plain_remove_loop _]
    exact remove_at l items n x e j hj hit _ hs1 0 rfl (Nat.zero_le _) (fun m hm _ h2 => hno m hm h2) prog w A R _ ⟨hl, he, h⟩)⟩
end HT
namespace L2
open PySem PySem.Spec PyProof.Rows
section
variable {X : Cx}
def rRem (K : PySem.W.Frag) : V → List V → Hp → VK → Prop := fun x vs H Q => ∃ (l : Addr) (xs : List V) (y : V) (ds : List PyData) (d : PyData) (j : Nat) (e : PyData), x = .ref l ∧ vs = [y] ∧ H l = some (.lst xs) ∧ IsAll K H ds xs ∧ Is K H d y ∧ Cmp (.list ds) ∧ Cmp d ∧
  ds[j]? = some e ∧ same e d = true ∧ (∀ i, i < j → ∀ e', ds[i]? = some e' → same e' d = false) ∧ Q .non (upd H l (.lst (xs.eraseIdx j)))
theorem mt_remove (hu : X.A.units + 100 < cLine) : MtM X "list.remove" (rRem X.K) := by
  intro pins s σ H x vs v us Q I rx rv h
  obtain ⟨l, xs, y, ds, d, j, e, rfl, rfl, hH, hA, hd, c1, c2, hj, hs, hno, q⟩ := h
  cases rx
  obtain ⟨u, rfl, ru⟩ := rv.one
  obtain ⟨z, its, n, r, hl, eH⟩ := I.lstM hH
  obtain ⟨as, ra⟩ := IsAll.reads I ds xs its hA r
  obtain ⟨bs, rb⟩ := Is.reads I d y u hd ru
  have hn := c1.2
  simp only [noBl] at hn
  have hcl : PyData.canLayAll0 ds = true := SeqAt.canLay_of_shaped c1.1
  have hcd : d.canLay0 = true := SeqAt.canLay_of_shaped c2.1
  have hm := SeqAt.readsAll_map ds its as hcl ra
  have at_ : ∀ (i : Nat) (hi : i < its.toArray.size) (e' : PyData), ds[i]? = some e' → PyData.eqv (SeqAt.readOf s.heap its.toArray[i]) d = same e' d := by
    intro i hi e' he'
    have h1 : SeqAt.readOf s.heap its.toArray[i] = e' := by
      rw [← hm, List.getElem?_map] at he'
      have : its[i]? = some its.toArray[i] := by simp
      rw [this] at he'
      exact Option.some.inj he'
    rw [h1, ← SeqAt.same_eq_eqv e' d (noMix_of e' d (noBls_mem hn e' (List.mem_of_getElem? he')) c2.2)]
  have hlen : its.length = ds.length := by rw [← hm, List.length_map]
  have hjl : j < ds.length := by
    rcases Nat.lt_or_ge j ds.length with h | h
    · exact h
    · rw [List.getElem?_eq_none h] at hj; cases hj
  have hsz : its.toArray.size ≤ sizeLine := by rw [List.size_toArray]; omega
  refine call_meets F.slot_list_remove ⟨_, eH, rfl⟩ F.entry_list_remove (F.args_list_remove_2 _ _)
    (HT.remove_data l its.toArray n u (fun y => PyData.eqv (SeqAt.readOf s.heap y) d) j (by rw [List.size_toArray]; omega) (by rw [at_ j (by rw [List.size_toArray]; omega) e hj]; exact hs)
      (fun m hm' hlt => by
        have : m < ds.length := by rw [List.size_toArray] at hm'; omega
        rw [at_ m hm' ds[m] (List.getElem?_eq_getElem this)]
        exact hno m hlt _ (List.getElem?_eq_getElem this)) hsz) ⟨eH, ?_, ?_⟩
  · exact SeqAt.items_eqAt (vs := its.toArray) (by simpa using ra) rb hcl hcd (room_in_shaped (A := X.A) c2.1 (by omega))
  · refine ⟨.non, _, I.lset (its' := its.eraseIdx j) hH eH ?_ (r.eraseIdx j) ?_, rfl, q⟩
    · show its.toArray.eraseIdxIfInBounds j = (its.eraseIdx j).toArray
      rw [List.eraseIdxIfInBounds_toArray]
    · have := len_erase xs j
      omega
end
end L2

set_option Elab.async false
set_option linter.all false
set_option maxRecDepth 100000
set_option maxHeartbeats 4000000
namespace HT
open PySem PySem.SeqAt PySem.MeetsSeq PySem.MeetsSeq2 PySem.MeetsSeq3 PySem.SeqRoads2
open PySem.AutoSeq1 (wpAny_loadPart')
section
variable {prog : Program} {w : World} {A : Around} {E : Value → Shared → Prop} {s : Shared}
theorem nextOf_tup {j t : Addr} {i : Nat} {ys : Array Value} {x : Value} {Q : Value → Shared → Prop} (ji : s.heap.IsTupleIter j t i) (ht : s.heap.IsTuple t ys) (hx : ys[i]? = some x)
    (hQ : ∀ h', h'.IsTupleIter j t (i + 1) → Heap.SameBut j s.heap h' → Q x { s with heap := h' }) : wpAny (model prog w) A (Builtin.SmallTypes.nextOf (.ref j)) Q E s := by
  obtain ⟨o, o1, o2, o3⟩ := id ji
  obtain ⟨p, p1, _, pn, p3⟩ := ht
  unfold Builtin.SmallTypes.nextOf
  refine wpAny_bind (wpAny_callSpecial?_slot (name := Str.ofString "__next__") ji.typeIs F.slot_tuple_iterator_next (wpAny_call_entry F.slot_tuple_iterator_next ji.typeIs F.entry_tuple_iterator_next ?_ (F.args_tuple_iterator_next_1 _)))
  show wpAny _ _ (field (.ref j) 0 >>= _) _ _ s
  refine wpAny_bind (wpAny_field o1 o3 (x := .ref t) rfl ?_)
  show wpAny _ _ (if (Value.ref t == Value.none) = true then _ else _) _ _ s; rw [if_neg (show ¬ ((Value.ref t == Value.none) = true) from Bool.false_ne_true)]
  show wpAny _ _ (field (.ref j) 1 >>= _) _ _ s
  refine wpAny_bind (wpAny_field o1 o3 (x := .int i 0) rfl ?_)
  show wpAny _ _ (seqItems? (.ref t) >>= _) _ _ s; refine wpAny_bind (wpAny_seqItems p1 p3 ?_)
  simp only [Int.toNat_natCast, hx]
  refine wpAny_bind (wpAny_setField o1 o3 (by simp) (wpAny_pure ⟨x, rfl, wpAny_pure (hQ _ ?_ (Heap.SameBut.update ..))⟩))
  exact ⟨_, Heap.get?_update_self _ o1 (Obj.isFreed_of_fields (Obj.data_mapFields o3 _)), (Obj.cls_mapFields ..).trans o2, by rw [Obj.data_mapFields o3]; simp [rawInt]⟩
theorem nextOf_tup_end {j t : Addr} {i : Nat} {ys : Array Value} {Q : Value → Shared → Prop} (hh : A.handled = none) (ji : s.heap.IsTupleIter j t i) (ht : s.heap.IsTuple t ys) (hx : ys[i]? = none)
    (hE : ∀ h' e, Heap.ExtBut j s.heap h' → (∃ o, h'.get? e = some o ∧ o.cls = .type "StopIteration") → E (.ref e) { s with heap := h' }) : wpAny (model prog w) A (Builtin.SmallTypes.nextOf (.ref j)) Q E s := by
  obtain ⟨o, o1, o2, o3⟩ := id ji
  obtain ⟨p, p1, _, pn, p3⟩ := ht
  unfold Builtin.SmallTypes.nextOf
  refine wpAny_bind (wpAny_callSpecial?_slot (name := Str.ofString "__next__") ji.typeIs F.slot_tuple_iterator_next (wpAny_call_entry F.slot_tuple_iterator_next ji.typeIs F.entry_tuple_iterator_next ?_ (F.args_tuple_iterator_next_1 _)))
  show wpAny _ _ (field (.ref j) 0 >>= _) _ _ s
  refine wpAny_bind (wpAny_field o1 o3 (x := .ref t) rfl ?_)
  show wpAny _ _ (if (Value.ref t == Value.none) = true then _ else _) _ _ s; rw [if_neg (show ¬ ((Value.ref t == Value.none) = true) from Bool.false_ne_true)]
  show wpAny _ _ (field (.ref j) 1 >>= _) _ _ s
  refine wpAny_bind (wpAny_field o1 o3 (x := .int i 0) rfl ?_)
  show wpAny _ _ (seqItems? (.ref t) >>= _) _ _ s; refine wpAny_bind (wpAny_seqItems p1 p3 ?_)
  simp only [Int.toNat_natCast, hx]
  refine wpAny_bind (wpAny_rule (wpAny_bind (wpAny_setField o1 o3 (by simp) ?_)))
  show wpAny _ _ (newExc (.type "StopIteration") [] >>= _) _ _ _; refine wpAny_bind ?_
  simp only [newExc, newTuple]
  refine wpAny_bind (wpAny_newObj_type ?_ (by size_fits)); refine wpAny_bind (m := firstArgMember _ _) (wpAny_of_eq (a := Value.none) (by first | rfl | (simp only [firstArgMember]; rfl)) ?_)
  refine wpAny_newObj_type ?_ (by size_fits); simp only [raiseNew]
  refine wpAny_bind (wpAny_handled ?_); first | rw [show A.in1.handled = none from hh] | rw [hh]
  refine wpAny_bind (wpAny_pure (wpAny_throw ?_)); exact hE _ _ (((Heap.SameBut.update ..).extBut.push _).push _) ⟨_, Heap.get?_push_size _ rfl, rfl⟩
end
theorem draws_tup {prog : Program} {w : World} {A : Around} (hh : A.handled = none) (j t : Addr) (hne : t ≠ j) (ys : Array Value) :
    Draws prog w A j [j, t] ys.size (fun i v => ys[i]? = some v) (fun i h => h.IsTupleIter j t i ∧ h.IsTuple t ys) where
  live := fun _ _ st => let ⟨o, ho, _⟩ := st.1; ⟨o, ho⟩
  frame := fun _ _ _ st hk => ⟨st.1.at fun o e => hk j (by simp) o e, let ⟨o, e, r⟩ := st.2; ⟨o, hk t (by simp) o e, r⟩⟩
  item := fun i s Q E hi st hQ => nextOf_tup st.1 st.2 (x := ys[i]) (by simp [hi]) fun h' i' s' => hQ _ h' s.toks (by simp [hi]) ⟨i', st.2.extBut s'.extBut hne⟩ s'
  done := fun s Q E st hE => nextOf_tup_end hh st.1 st.2 (by simp) hE
theorem enum_newT (t : Addr) (ys : Array Value) (n : Nat) (dc : Option Addr) (sl : Array (Option Value)) :
    Meets (Builtin.«enumerate.__new__» ⟨[.type "enumerate", .ref t], []⟩) (fun _ R s => s.heap.get? t = some { cls := .type "tuple", dict := dc, data := .seq ys n, slots := sl } ∧
      R (.ok (.ret (.ref (s.heap.push { cls := .type "tuple_iterator", data := .fields #[.ref t, .int 0 0] }).objs.size)))
        { s with heap := (s.heap.push { cls := .type "tuple_iterator", data := .fields #[.ref t, .int 0 0] }).push { cls := .type "enumerate", data := .fields #[.none, .bool false, .ref s.heap.objs.size, rawInt 0, .none, .none] } }) :=
  .of_wp fun prog w A R s h => by
    obtain ⟨hp, g, d, tk, os⟩ := s
    obtain ⟨hl, h⟩ := h
    have hsub := sub_enumerate
    have hL : Heap.IsTuple (Shared.heap ⟨hp, g, d, tk, os⟩) t ys := ⟨_, hl, rfl, n, rfl⟩
    wp_walk using wpAny_loadPart' hl
    refine wpAny_stack_any fun st => wpAny_pure ?_
    split
    · rename_i c _ _ _ _ _
      cases (c == Value.type "enumerate")
      · wp_walk using wpAny_loadPart' hl, wpAny_pyIter_tuple hL
        exact ⟨_, rfl, h⟩
      · wp_walk using wpAny_loadPart' hl, wpAny_pyIter_tuple hL
        exact ⟨_, rfl, h⟩
    · wp_walk using wpAny_loadPart' hl, wpAny_pyIter_tuple hL
      exact ⟨_, rfl, h⟩
section
variable {prog : Program} {w : World} {A : Around} {E : Value → Shared → Prop} {s : Shared}
theorem call_enumT {t : Addr} {ys : Array Value} {Q : Value → Shared → Prop} (hL : s.heap.IsTuple t ys)
    (h : ∀ h', IsEnum h' (s.heap.objs.size + 1) s.heap.objs.size 0 .none → h'.IsTupleIter s.heap.objs.size t 0 → (∀ b o, s.heap.get? b = some o → h'.get? b = some o) → Q (.ref (s.heap.objs.size + 1)) { s with heap := h' }) :
    wpAny (model prog w) A (call (.type "enumerate") [.ref t]) Q E s := by
  obtain ⟨⟨c, dct, dt, sl⟩, hl, hc, n, hd⟩ := hL
  replace hc : c = .type "tuple" := hc
  replace hd : dt = .seq ys n := hd
  subst hc hd
  refine callType_new F.called_enumerate (by decide) (F.typeCall_enumerate_1 _) (F.newCall_enumerate_1 _) (fun obj => F.args_object_init_2 obj _) F.entry_enumerate_new (enum_newT t ys n dct sl) ⟨hl, ?_⟩
  have hz : (s.heap.push { cls := .type "tuple_iterator", data := .fields #[.ref t, .int 0 0] }).objs.size = s.heap.objs.size + 1 := Heap.size_push ..
  show _ ∧ _
  rw [hz]
  have he : IsEnum ((s.heap.push { cls := .type "tuple_iterator", data := .fields #[.ref t, .int 0 0] }).push { cls := .type "enumerate", data := .fields #[.none, .bool false, .ref s.heap.objs.size, rawInt 0, .none, .none] }) (s.heap.objs.size + 1) s.heap.objs.size 0 .none := by
    have q := Heap.get?_push_size (s.heap.push { cls := .type "tuple_iterator", data := .fields #[.ref t, .int 0 0] }) (o := { cls := .type "enumerate", data := .fields #[.none, .bool false, .ref s.heap.objs.size, rawInt 0, .none, .none] }) rfl
    rw [hz] at q
    exact q
  exact ⟨⟨_, he, rfl⟩, h _ he ⟨_, Heap.get?_push_of_some _ (Heap.get?_push_size _ rfl), rfl, rfl⟩ fun b o x => Heap.get?_push_of_some _ (Heap.get?_push_of_some _ x)⟩
theorem enum_endT {e j t : Addr} {i : Nat} {k : Int} {ys : Array Value} {old : Value} {Q : Option Value → Shared → Prop} (hh : A.handled = none) (he : IsEnum s.heap e j k old) (ji : s.heap.IsTupleIter j t i) (ht : s.heap.IsTuple t ys) (hx : ys[i]? = none)
    (hQ : ∀ h', Heap.ExtBut j s.heap h' → Q none { s with heap := h' }) : wpAny (model prog w) A (pyNext (.ref e)) Q E s := by
  have tE : s.TypeIs (.ref e) "enumerate" := ⟨_, he, rfl⟩
  unfold pyNext
  refine wpAny_bind (wpAny_attempt (wpAny_callSpecial?_slot (name := Str.ofString "__next__") tE F.slot_enumerate_next (wpAny_call_entry F.slot_enumerate_next tE F.entry_enumerate_next ?_ (F.args_enumerate_next_1 _))))
  show wpAny _ _ (field (.ref e) 2 >>= _) _ _ _; refine wpAny_bind (wpAny_field he rfl (x := .ref j) rfl ?_)
  refine wpAny_bind (nextOf_tup_end (A := A.in1) hh ji ht hx fun h' x eb hx' => ?_)
  obtain ⟨o, o1, o2⟩ := hx'
  refine wpAny_bind (wpAny_isInstance (T := "StopIteration") (b := true) ⟨o, o1, o2⟩ isSubtype_stop (wpAny_pure (hQ _ eb)))
end
end HT
namespace L2
open PySem PySem.Spec PyProof.Rows
def IteT (K : PySem.W.Frag) (a : Addr) : It :=
  ⟨fun i H => ∃ xs x, SqT K H a xs ∧ xs[i]? = some x, fun i H x H' => ∃ t, x = .ref t ∧ H t = none ∧ ∀ xs y, SqT K H a xs → xs[i]? = some y → H' = upd H t (.tup [.int i, y]), fun i H => ∃ xs, SqT K H a xs ∧ xs.length ≤ i⟩
theorem turn_enumT {P : Program} {w : World} {K : PySem.W.Frag} {elts : List Expr} {x1 : Nat} {tpos : Pos} (a e it : Addr) (hei : e ≠ it) : Turn P w K (.Tuple elts x1 tpos) (IteT K a) [e, it] e (fun i h => (∃ old, IsEnum h e it ((i : Nat) : Int) old) ∧ h.IsTupleIter it a i) where
  mem := by simp
  obj := fun i h ⟨⟨old, he⟩, st⟩ b hb => by
    rcases List.mem_cons.mp hb with rfl | hb
    · exact ⟨_, he, fun v z => by cases (show Data.fields _ = Data.cell v from z)⟩
    · rw [List.mem_singleton.mp hb]
      obtain ⟨o, e, c, d⟩ := st
      exact ⟨o, e, fun v z => by rw [d] at z; cases z⟩
  keep := fun i h h' ⟨⟨old, he⟩, st⟩ k => ⟨⟨old, k e (by simp) _ he⟩, st.at fun o q => k it (by simp) o q⟩
  item := by
    intro X hP hw hK hc i pins s σ H E I hf st hg
    subst hP hw hK
    obtain ⟨⟨old, he⟩, st⟩ := st
    obtain ⟨xs, x, hq, hx⟩ := hg
    obtain ⟨its, rv, p, hz⟩ := I.tuple hq
    have pT : s.heap.IsTuple a its.toArray := p
    obtain ⟨u, hu, ru⟩ := rv.get hx
    have g1 := hf e (by simp)
    have g2 := hf it (by simp)
    have hsz : sizeLine = 16777216 := sizeLine_eq
    have hai : a ≠ it := fun z => by
      obtain ⟨o, q1, q2, _⟩ := pT
      obtain ⟨o', q3, q4, _⟩ := st
      rw [z, q3] at q1
      cases q1
      rw [q4] at q2
      exact absurd q2 (by decide)
    have hae : e ∉ [it, a] := fun z => by
      rcases List.mem_cons.mp z with z | z
      · exact hei z
      · obtain ⟨o, q1, q2, _⟩ := pT
        rw [← List.mem_singleton.mp z, he] at q1
        cases q1
        exact absurd (show Value.type "enumerate" = Value.type "tuple" from q2) (by decide)
    have hlt : i < its.toArray.size := by
      rcases Nat.lt_or_ge i its.length with h | h
      · simpa using h
      · rw [List.getElem?_eq_none h] at hu; cases hu
    refine wpAny_pyNext_enum_itemD (HT.draws_tup (A := X.A.in1) (I.ok.hd hc) it a hai its.toArray) he ⟨st, pT⟩ hlt hei hae fun y h' tk hy heo hit' ht' hz' k' => ?_
    have hyu : y = u := by
      have : its[i]? = some y := by simpa using hy
      rw [hu] at this
      exact (Option.some.inj this).symm
    subst hyu
    refine ⟨_, rfl, wpAny_letOwnedTupleGo_enum heo fun h2 he2 hs2 => ?_⟩
    have hlt : e < s.heap.objs.size := Heap.lt_size he
    have k2 : ∀ b o, b ≠ e → b ≠ it → s.heap.get? b = some o → h2.get? b = some o := fun b o b1 b2 q => hs2.extBut b o b1 (k' b o b1 b2 q)
    have ht2 : h2.get? s.heap.objs.size = some { cls := .type "tuple", data := .seq #[.int i tk, y] } := hs2.extBut _ _ (Nat.ne_of_gt hlt) ht'
    have hfr := I.hok.fresh (Nat.le_refl s.heap.objs.size)
    have I2 : Inv X pins σ (upd H s.heap.objs.size (.tup [.int i, x])) { s with heap := h2, toks := tk + 1 } :=
      I.turned2 k2 g1 g2 (Nat.le_refl _) (show ObjOk X.prog X.w _ h2 _ (.tup [.int i, x]) from ⟨by show 2 ≤ sizeLine; omega, [.int i tk, y], .cons ⟨_, rfl⟩ (.cons ru .nil), ⟨_, ht2, rfl, _, rfl⟩⟩)
    have hcast : ((i + 1 : Nat) : Int) = (i : Int) + 1 := by push_cast; rfl
    refine ⟨.ref s.heap.objs.size, _, I2, rfl, ⟨_, rfl, hfr, fun ys y hy hyi => ?_⟩, ⟨⟨y, hcast ▸ he2⟩, hit'.1.extBut hs2.extBut (Ne.symm hei)⟩, fun b hb => ?_⟩
    · rw [I.tuple_inj hy hq, hx] at hyi
      rw [Option.some.inj hyi]
    · have hb' : b < s.heap.objs.size := by
        rcases List.mem_cons.mp hb with rfl | hb
        · exact hlt
        · rw [List.mem_singleton.mp hb]
          obtain ⟨o, q, _⟩ := st
          exact Heap.lt_size q
      rw [upd_ne (Nat.ne_of_lt hb')]
      exact (hf b hb).1
  done := by
    intro X hP hw hK hc i pins s σ H E I hf st hg
    subst hP hw hK
    obtain ⟨⟨old, he⟩, st⟩ := st
    obtain ⟨xs, hq, hx⟩ := hg
    obtain ⟨its, rv, p, hz⟩ := I.tuple hq
    have pT : s.heap.IsTuple a its.toArray := p
    obtain ⟨f0, f1, f2, f3, f4, f5⟩ := hf it (by simp)
    have hl := rv.length
    have hai : a ≠ it := fun z => by
      obtain ⟨o, q1, q2, _⟩ := pT
      obtain ⟨o', q3, q4, _⟩ := st
      rw [z, q3] at q1
      cases q1
      rw [q4] at q2
      exact absurd q2 (by decide)
    have nx : its.toArray[i]? = none := by simp; omega
    exact HT.enum_endT (I.ok.hd hc) he st pT nx fun h' eb => ⟨rfl, I.turned (t' := s.toks) (fun b o hb e => eb b o hb e) f0 f1 f3 f4 f5⟩
  self := fun _ _ _ _ _ ⟨⟨_, he⟩, _⟩ h => wpAny_pyIter_enum he h
def iEnumT (K : PySem.W.Frag) (ta : TA) : TI := fun σ H R => ta σ H fun vs H1 => ∃ a, vs = [.ref a] ∧ (∃ xs, SqT K H1 a xs) ∧ R (IteT K a) H1
section
variable {X : Cx}
theorem pi_enumT {a : Expr} {ta : TA} {p pos tpos : Pos} {elts : List Expr} {x1 : Nat} (hg : Gl X "enumerate") (hm : X.mg "enumerate" = none) (ha : PA X [a] ta) (hs : starEach [a] X.env = [(false, eval a X.env)] := by rfl) :
    PI X (.Tuple elts x1 tpos) (.Call (.Name "enumerate" p) [a] [] pos) (iEnumT X.K ta) := by
  intro pins s σ H R I h
  refine Call_ (ld_blt I hg hm boot_enumerate (PyProof.Rows.callWith_type1 (thn (ha pos pins s σ H _ I h) fun us s1 ⟨vs, H1, I1, r1, q1⟩ => ?_) hs rfl))
  obtain ⟨l, e, ⟨xs, hq⟩, q⟩ := q1
  subst e
  cases r1 with
  | cons r rr =>
    cases rr
    cases r
    obtain ⟨its, rv, pl, hz⟩ := I1.tuple hq
    refine HT.call_enumT (show s1.heap.IsTuple l its.toArray from pl) fun h' he hit kp => ?_
    refine wpAny_pyIter_enum (s := { s1 with heap := h' }) he ⟨s1.heap.objs.size + 1, [s1.heap.objs.size + 1, s1.heap.objs.size], _, _, H1, rfl, I1.kept (t' := s1.toks) kp, turn_enumT l _ _ (Nat.succ_ne_self _), ⟨⟨_, he⟩, hit⟩, fun b hb => ?_, q⟩
    rcases List.mem_cons.mp hb with rfl | hb
    · exact I1.fpOk (Nat.le_succ _) (I1.hok.fresh (Nat.le_succ _))
    · rw [List.mem_singleton.mp hb]
      exact I1.fpOk (Nat.le_refl _) (I1.hok.fresh (Nat.le_refl _))
theorem for_enumT {K : PySem.W.Frag} {a : Addr} {xs : List V} {g : TG} {tb : TS} {D : Ends} {σ : St} {H : Hp} (Pv : Nat → St → Hp → Prop) (h0 : Pv 0 σ H) (hl : ∀ i σ H, i ≤ xs.length → Pv i σ H → SqT K H a xs)
    (hs : ∀ i x t σ H, xs[i]? = some x → Pv i σ H → H t = none → g (.ref t) σ (upd H t (.tup [.int i, x])) fun σ2 H2 => tb { D with nx := Pv (i + 1), ct := Pv (i + 1), bk := D.nx } σ2 H2) (hd : ∀ σ H, Pv xs.length σ H → D.nx σ H) :
    ∃ W : Nat → Nat → St → Hp → Prop, (∃ m, W 0 m σ H) ∧ ∀ i m σ H, W i m σ H →
      ((IteT K a).stop i H ∧ D.nx σ H) ∨ ((IteT K a).go i H ∧ ∃ N : St → Hp → Prop, (∀ σ' H', N σ' H' → ∃ m', m' < m ∧ W (i + 1) m' σ' H') ∧ ∀ x H', (IteT K a).yld i H x H' → g x σ H' fun σ2 H2 => tb { D with nx := N, ct := N, bk := D.nx } σ2 H2) := by
  refine ⟨fun i m σ H => m = xs.length - i ∧ i ≤ xs.length ∧ Pv i σ H, ⟨xs.length, by simp, Nat.zero_le _, h0⟩, ?_⟩
  rintro i m σ H ⟨rfl, hi, p⟩
  have hq := hl i σ H hi p
  by_cases hlt : i < xs.length
  · refine .inr ⟨⟨xs, xs[i], hq, List.getElem?_eq_getElem hlt⟩, fun σ' H' => Pv (i + 1) σ' H', fun σ' H' p' => ⟨xs.length - (i + 1), by omega, rfl, by omega, p'⟩, ?_⟩
    rintro x H' ⟨t, rfl, ht, hH⟩
    rw [hH xs _ hq (List.getElem?_eq_getElem hlt)]
    exact hs i _ t σ H (List.getElem?_eq_getElem hlt) p ht
  · have e : i = xs.length := by omega
    subst e
    exact .inl ⟨⟨xs, hq, Nat.le_refl _⟩, hd σ H p⟩
end
end L2

set_option Elab.async false
set_option linter.all false
set_option maxRecDepth 100000
set_option maxHeartbeats 4000000
namespace L2
open PySem PySem.Spec PyProof.Rows
def Mv (H H' : Hp) : Prop := ∀ b o, H b = some o → (∀ ps, o ≠ .tbl ps) → H' b = some o
theorem Mv.refl (H : Hp) : Mv H H := fun _ _ h _ => h
theorem Mv.trans {H H1 H2 : Hp} (a : Mv H H1) (b : Mv H1 H2) : Mv H H2 := fun c o h n => b c o (a c o h n) n
theorem Same.mv {H H' : Hp} (a : Same H H') : Mv H H' := fun c o h _ => a c o h
theorem SameP.mv {Pt : Addr} {pos : Pos} {q : Str} {H H' : Hp} (hT : LamTab Pt pos q H) (a : SameP Pt H H') : Mv H H' := fun c o h n => a c o h fun z => by
  subst z
  rcases hT with e | ⟨_, e, _⟩ <;> rw [e] at h <;> exact n _ (Option.some.inj h).symm
theorem Mv.lst {H H' : Hp} (m : Mv H H') {a : Addr} {xs : List V} (h : H a = some (.lst xs)) : H' a = some (.lst xs) := m _ _ h fun _ z => by cases z
theorem Mv.tups {H H' : Hp} (m : Mv H H') {a : Addr} {xs : List V} (h : H a = some (.tup xs)) : H' a = some (.tup xs) := m _ _ h fun _ z => by cases z
theorem Mv.seq {K : PySem.W.Frag} {H H' : Hp} {a : Addr} {xs : List V} (m : Mv H H') (h : SqL K H a xs) : SqL K H' a xs := by
  rcases h with (h | ⟨o, h⟩) | h
  · exact .inl (.inl (m _ _ h fun _ z => by cases z))
  · exact .inl (.inr ⟨o, m _ _ h fun _ z => by cases z⟩)
  · exact .inr h
theorem Mv.tup {K : PySem.W.Frag} {H H' : Hp} {a : Addr} {xs : List V} (m : Mv H H') (h : SqT K H a xs) : SqT K H' a xs := by
  rcases h with (h | ⟨o, h⟩) | h
  · exact .inl (.inl (m _ _ h fun _ z => by cases z))
  · exact .inl (.inr ⟨o, m _ _ h fun _ z => by cases z⟩)
  · exact .inr h
theorem KeyAt.mv {K : PySem.W.Frag} {H H' : Hp} {k : NK} {a : Addr} (m : Mv H H') (h : KeyAt K H k a) : KeyAt K H' k a := h.moved (fun b ys e => m.tups e) fun b o u e => m _ _ e fun _ z => by cases z
theorem NDict.mv {P : Program} {w : World} {K : PySem.W.Frag} {H H' : Hp} {d : Addr} {ks : List NK} (m : Mv H H') (h : NDict P w K H d ks) : NDict P w K H' d ks := by
  obtain ⟨xs, h1, h2, h3, h4⟩ := h
  exact ⟨xs, (m _ _ h1 fun _ z => by cases z), h2, fun x hx => (h3 x hx).mv m, h4⟩
theorem LamTab.upd {Pt : Addr} {pos : Pos} {q : Str} {H : Hp} {a : Addr} {o u : HO} (h : LamTab Pt pos q H) (ha : H a = some o) (n1 : ∀ ps, o ≠ .tbl ps) (n2 : ∀ φ, o ≠ .ext φ) : LamTab Pt pos q (upd H a u) := by
  rcases h with h | ⟨c, h1, h2⟩
  · refine .inl ?_
    rw [upd_ne (ne_of h ha fun z => n1 _ z.symm)]
    exact h
  · refine .inr ⟨c, ?_, ?_⟩
    · rw [upd_ne (ne_of h1 ha fun z => n1 _ z.symm)]
      exact h1
    · rw [upd_ne (ne_of h2 ha fun z => n2 _ z.symm)]
      exact h2
structure FunC (K : PySem.W.Frag) (x qual : Str) (st : Stmt) (f : Addr) (fd : FuncData) (c : Addr) : Prop where
  ex : ∃ (oc : Value) (od : Option Addr) (kV doc pm : Value) (an : Option Addr) (ct : Value) (osl : Array (Option Value)),
    fd = PySem.W.fnOf x qual (defArgs st) (defBody st) (defScope st) .none kV doc pm an (.ref c) ct ∧ K.lookup f = some ⟨oc, od, .func fd, osl⟩ ∧ PySem.W.codeIn K (.ref c) qual = true
  kp : PySem.W.keepIn K (.ref f) = true
theorem FunC.fn {K : PySem.W.Frag} {x qual : Str} {st : Stmt} {f : Addr} {fd : FuncData} {c : Addr} (F : FunC K x qual st f fd c) : Fun K x qual st f fd :=
  ⟨let ⟨oc, od, kV, doc, pm, an, ct, osl, e, l, h⟩ := F.ex; ⟨oc, od, kV, doc, pm, an, .ref c, ct, osl, e, l, h⟩, F.kp⟩
section
variable {P : Program} {w : World} {K : PySem.W.Frag} {mg : Str → Option Value} {base : Heap}
theorem FunC.ok {x qual : Str} {st : Stmt} {f : Addr} {fd : FuncData} {c : Addr} {N ps : List Str} {k : Nat} {sp : Sp} (F : FunC K x qual st f fd c) (S : FnScope N ps (defScope st)) (len : ∀ vs H Q E, sp vs H Q E → vs.length = ps.length)
    (hbody : ∀ (A : Around) (outer : List Env) (s : Shared) (H : Hp) (vs : List V) (Q : VK) (E : XK), Room k (A.deeper (envOfC qual (defScope st) s.heap.objs.size f (.ref c))) → sp vs H Q E →
      ∃ t, PSs (cxOf CX0 P w K mg base N qual (defScope st) f (.ref c) A outer s H E).nox (defBody st) t ∧ t { nx := fun _ H' => Q .non H', rt := Q } (start N vs) H) : FnOk P w K mg base CX0 (k + 1) f fd ps sp := by
  obtain ⟨oc, od, kV, doc, pm, an, ct, osl, rfl, lk, hcd⟩ := F.ex
  refine fn_of lk hcd S len fun A outer s H vs Q E hr hsp => ?_
  obtain ⟨t, h, q⟩ := hbody A outer s H vs Q E hr hsp
  exact ⟨t, h.nox, q⟩
theorem funC_mk {x qual : Str} {st : Stmt} {f c : Addr} {oc : Value} {od an : Option Addr} {osl : Array (Option Value)} {kV doc pm ct : Value} (l : K.lookup f = some ⟨oc, od, .func (PySem.W.fnOf x qual (defArgs st) (defBody st) (defScope st) .none kV doc pm an (.ref c) ct), osl⟩)
    (h : PySem.W.codeIn K (.ref c) qual = true) (k : PySem.W.keepIn K (.ref f) = true) : FunC K x qual st f (PySem.W.fnOf x qual (defArgs st) (defBody st) (defScope st) .none kV doc pm an (.ref c) ct) c := ⟨⟨oc, od, kV, doc, pm, an, ct, osl, rfl, l, h⟩, k⟩
end
theorem law_callP {P : Program} {w : World} {K : PySem.W.Frag} {mg mb : Str → Option Value} {CX : CXT} {k : Nat} {fa a : Addr} {fd : FuncData} {x : Str} {sp : Sp} {s₁ : Shared} {vs : List Value} {ns : List Int} {c Pt : Addr}
    (KX : K.In s₁.heap) (hns : s₁.heap.Ns mainGlobals mg) (hb : s₁.heap.Ns builtinsNs mb) (hbb : ∀ x : Str, x ≠ "__name__" → mb x = bootBuiltins x) (hlim : s₁.heap.NoLimit) (hg : s₁.gens = #[])
    (hT : s₁.heap.TableAt c Pt #[]) (hPK : K.lookup Pt = none) (hbm : ∃ bm ob, mg "__builtins__" = some (.ref bm) ∧ bm ≠ builtinsNs ∧ s₁.heap.get? bm = some ob ∧ ob.cls = .type "module" ∧ ob.dict = some builtinsNs ∧ ob.data = .plain)
    (ha : s₁.heap.get? a = some { cls := .type "list", data := .seq vs.toArray }) (hi : IntsAre vs ns) (hl : ns.length ≤ sizeLine) (hr : Room k callerA)
    (F : ∀ base : Heap, K.In base → base.Ns mainGlobals mg → BAt mg base → FnOk P w K mg base CX k fa fd [x] sp) (hbind : ∀ (s : Shared) (u : Value), BindsTo s fd ⟨[u], []⟩ [(x, u)])
    (hsp : ∀ H : Hp, H Pt = some (.tbl #[]) → SqL K H a (ns.map V.int) → sp [.ref a] H (fun v _ => v = .bl true) fun _ _ _ => False)
    (hCX : ∀ H e s', CX [] H s₁ (fun _ _ _ => False) e s' → False) :
    codeAny (model P w) callerA (.call (.ref fa) ⟨[.ref a], []⟩) (fun r s' => r = .ok (.ret (.bool true)) ∧ OldK s₁.heap s'.heap ∧ s'.os = s₁.os ∧ AllBare s'.gens) s₁ := by
  have rv := vals_ints hi
  have lenV := hi.length
  have oP : s₁.heap.get? Pt = some { cls := .none, data := .fields #[] } := hT.2
  have neP : Pt ≠ a := fun z => by
    rw [z, ha] at oP
    cases oP
  have core : ∀ H : Hp, H Pt = some (.tbl #[]) → (∀ b, b ≠ Pt → H b = none ∨ ∃ o xs, H b = some (.frz o (.lst xs))) → SqL K H a (ns.map V.int) → HOk P w H s₁.heap → (∀ b, H b ≠ none → b = a ∨ b = Pt) → (H a ≠ none → K.lookup a = none) →
      codeAny (model P w) callerA (.call (.ref fa) ⟨[.ref a], []⟩) (fun r s' => r = .ok (.ret (.bool true)) ∧ OldK s₁.heap s'.heap ∧ s'.os = s₁.os ∧ AllBare s'.gens) s₁ := by
    intro H hP hO hS hok hA hK
    have base_of : ∀ {b : Addr} {o : Obj}, s₁.heap.get? b = some o → H b = none → (hidT s₁.heap H).get? b = some o := fun e n => hidT_get e n
    have noA : ∀ {b : Addr} {o : Obj}, s₁.heap.get? b = some o → (∀ xs n, o.data ≠ .seq xs n) → (∀ xs, o.data ≠ .fields xs) → H b = none := fun {b o} e d1 d2 => by
      cases q : H b with
      | none => rfl
      | some u =>
        rcases hA b (by rw [q]; simp) with e' | e'
        · subst e'
          rw [ha] at e; cases e
          exact absurd rfl (d1 _ _)
        · subst e'
          rw [oP] at e; cases e
          exact absurd rfl (d2 _)
    have nsK : ∀ {b : Addr} {m : Str → Option Value}, s₁.heap.Ns b m → (hidT s₁.heap H).Ns b m := fun {b m} ⟨o, es, ep, e, d, r⟩ => ⟨o, es, ep, base_of e (noA e (fun xs n z => by rw [d] at z; cases z) fun xs z => by rw [d] at z; cases z), d, r⟩
    have hKb : K.In (hidT s₁.heap H) := fun b o e => base_of (KX b o e) (by
      cases q : H b with
      | none => rfl
      | some u =>
        rcases hA b (by rw [q]; simp) with e' | e'
        · subst e'
          rw [hK (by rw [q]; simp)] at e; cases e
        · subst e'
          rw [hPK] at e; cases e)
    have hM : Mod K mg (hidT s₁.heap H) := ⟨hKb, nsK hns, ⟨mb, nsK hb, hbb⟩, let ⟨mc, h1, h2⟩ := hlim; ⟨mc, nsK h1, h2⟩⟩
    have hB : BAt mg (hidT s₁.heap H) := by
      obtain ⟨bm, ob, b1, b2, b3, b4, b5, b6⟩ := hbm
      refine ⟨bm, ob, b1, b2, fun z => ?_, base_of b3 (noA b3 (fun xs n z => by rw [b6] at z; cases z) fun xs z => by rw [b6] at z; cases z), b4, b5, b6⟩
      obtain ⟨o, es, ep, e, d, _⟩ := hns
      rw [← z, b3] at e
      cases e
      rw [b6] at d
      cases d
    have e0 : Env0 P w K mg (hidT s₁.heap H) callerA [] s₁ H := ⟨rfl, hM, fun b o e => of_hidT e, Nat.le_of_eq (hidT_size _ _), trivial, fun b hb => absurd (show b ∈ ([] : List Addr) from hb) (by simp), hok, .of_eq hg⟩
    refine codeAny_mono ((F _ hKb (nsK hns) hB).run callerA [] s₁ H ⟨[.ref a], []⟩ [.ref a] [.ref a] _ _ hr e0 (hbind s₁ (.ref a)) (.cons rfl .nil) (hsp H hP hS)) fun r s' h => ?_
    cases r with
    | error e => exact (hCX H e s' h).elim
    | ok fl =>
      cases fl with
      | next => exact False.elim h
      | brk => exact False.elim h
      | cont => exact False.elim h
      | ret u =>
        obtain ⟨v, H', os, bare, un, hok', r', q⟩ := h
        have q' : v = .bl true := q
        subst q'
        obtain rfl : u = Value.bool true := r'
        obtain ⟨more, hm⟩ := un.tbls Pt _ hP
        have oP' : s'.heap.get? Pt = some { cls := .none, data := .fields (#[] ++ more) } := hok' Pt _ hm
        have kp : ∀ b o, b ≠ Pt → s₁.heap.get? b = some o → s'.heap.get? b = some o := fun b o hb e => by
          cases q : H b with
          | none => exact un.keep b o e q (by intro z; exact absurd (show b ∈ ([] : List Addr) from z) (by simp)) (by simp)
          | some u =>
            rcases hO b hb with z | ⟨ob, xs, z⟩
            · rw [q] at z; cases z
            · have z2 := un.frzs b ob _ z
              obtain ⟨e1, _⟩ := hok b _ z
              obtain ⟨e2, _⟩ := hok' b _ z2
              rw [e] at e1; cases e1
              exact e2
        refine ⟨rfl, ⟨fun b o e => ?_, fun b o e => ?_⟩, os, bare⟩
        · by_cases hb : b = Pt
          · subst hb
            rw [oP] at e
            cases e
            exact .inr (.inl ⟨hT.isCodeTable, rfl, #[], more, rfl, oP'⟩)
          · exact .inl (kp b o hb e)
        · by_cases hb : b = Pt
          · exact ⟨_, hb ▸ oP'⟩
          · exact ⟨o, kp b o hb e⟩
  cases hk : K.lookup a with
  | some o =>
    have e := KX a o hk
    rw [ha] at e
    cases e
    refine core (fun b => if b = Pt then some (.tbl #[]) else none) (if_pos rfl) (fun b hb => .inl (if_neg hb)) (.inr ⟨_, vs.toArray, _, hk, rfl, rfl, rfl, by rw [List.size_toArray, lenV]; exact hl, by simpa using rv⟩) (fun b u z => ?_) (fun b z => ?_) fun z => absurd (if_neg (Ne.symm neP)) z
    · by_cases hb : b = Pt
      · have z' := (if_pos hb).symm.trans z
        cases z'
        subst hb
        exact oP
      · have z' := (if_neg hb).symm.trans z
        cases z'
    · by_cases hb : b = Pt
      · exact .inr hb
      · exact absurd (if_neg hb) z
  | none =>
    refine core (fun b => if b = Pt then some (.tbl #[]) else if b = a then some (.frz { cls := .type "list", data := .seq vs.toArray } (.lst (ns.map V.int))) else none) (if_pos rfl) (fun b hb => ?_) (.inl (.inr ⟨{ cls := .type "list", data := .seq vs.toArray }, (if_neg (Ne.symm neP)).trans (if_pos rfl)⟩)) (fun b u z => ?_) (fun b z => ?_) fun _ => hk
    · by_cases hb2 : b = a
      · exact .inr ⟨_, _, (if_neg hb).trans (if_pos hb2)⟩
      · exact .inl ((if_neg hb).trans (if_neg hb2))
    · by_cases hb : b = Pt
      · have z' := (if_pos hb).symm.trans z
        cases z'
        subst hb
        exact oP
      · by_cases hb2 : b = a
        · have z' := ((if_neg hb).trans (if_pos hb2)).symm.trans z
          cases z'
          subst hb2
          exact ⟨ha, by rw [List.length_map]; exact hl, vs, _, rv, ha⟩
        · have z' := ((if_neg hb).trans (if_neg hb2)).symm.trans z
          cases z'
    · by_cases hb : b = Pt
      · exact .inr hb
      · by_cases hb2 : b = a
        · exact .inl hb2
        · exact absurd ((if_neg hb).trans (if_neg hb2)) z
theorem walk_ofP {l : PySem.W.OpenLaw} {n k : Nat} {q : Program} {loose : List Str} {XP : (Str → Option Value) → Heap → Prop} {YP : World → Heap → Prop} {d : DefRec} {K : Params → PySem.W.Frag} {CX : World → CXT} {sp : World → Addr → Sp} {x lam : Str}
    (hn : l.most = some n) (hn2 : n ≤ sizeLine) (hdf : d.params.defaults = []) (hr : Room k callerA)
    (hY : ∀ (w : World) (h : Heap), YP w h → (K w.params).In h) (hrec : ∃ dl ∈ recsOf q, dl.name = lam)
    (F : ∀ (w : World) (mg : Str → Option Value) (fa : Addr) (h : Heap), (K w.params).In h → h.Ns mainGlobals mg → mg d.name = some (.ref fa) →
      ∃ (fd : FuncData) (f c Pt : Addr) (o : Obj) (fl : FuncData), (∀ (s : Shared) (u : Value), BindsTo s fd ⟨[u], []⟩ [(x, u)]) ∧ mg lam = some (.ref f) ∧ (K w.params).lookup f = some o ∧ o.data = .func fl ∧ fl.code = .ref c ∧ PySem.W.codeHdIn (K w.params) c Pt = true ∧ (K w.params).lookup Pt = none ∧
        ∀ base : Heap, (K w.params).In base → base.Ns mainGlobals mg → BAt mg base → FnOk l.prog w (K w.params) mg base (CX w) k fa fd [x] (sp w Pt))
    (hsp : ∀ (w : World) (Pt : Addr) (H : Hp) (a : Addr) (ns : List Int), ns.length ≤ n → H Pt = some (.tbl #[]) → SqL (K w.params) H a (ns.map V.int) → sp w Pt [.ref a] H (fun v _ => v = .bl true) fun _ _ _ => False)
    (hCX : ∀ (w : World) (H : Hp) (s : Shared) (e : Value) (s' : Shared), CX w [] H s (fun _ _ _ => False) e s' → False) :
    PySem.W.WalkO q loose XP YP l.row.toRowW d [] (fun f vs => PySem.call f vs) := by
  refine Att.attach_call hn hdf fun w s₀ s₁ mg mb fa o pm cd doc a vs ns G Y ho hd hcd hmg hobj hints hlen hg => ?_
  have KX := hY w _ Y
  obtain ⟨fd, f, c, Pt, ol, fl, hb, m1, k1, d1, c1, hC, hPK, hF⟩ := F w mg fa _ KX G.T.g hmg
  obtain ⟨dl, hdl, hnm⟩ := hrec
  obtain ⟨a', o', fd', c', P', t1, t2, t3, t4, _, t6⟩ := G.T.tab dl hdl
  rw [hnm, m1] at t1
  cases t1
  have e1 := KX _ _ k1
  rw [t2] at e1
  cases e1
  rw [t3] at d1
  cases d1
  rw [t4] at c1
  cases c1
  have eP : P' = Pt := by
    obtain ⟨⟨oc, vc, g1, _, g3, g4⟩, _⟩ := t6
    have hh := PySem.W.codeHd_of_K KX hC
    unfold PySem.W.codeHdIn at hC
    split at hC
    · rename_i ws _ hk
      have e2 := KX _ _ hk
      rw [g1] at e2
      cases e2
      cases g3
      rw [g4] at hC
      simp only [Bool.and_eq_true, beq_iff_eq] at hC
      exact hC.1.1.1.1.1
    · cases hC
  subst eP
  exact law_callP KX G.T.g G.T.b G.T.builtins G.T.nolimit hg t6 hPK G.T.bmain hobj hints (Nat.le_trans hlen hn2) hr hF hb (fun H hO hS => hsp w _ H a ns hlen hO hS) fun H e s' => hCX w H s₁ e s'
end L2

set_option Elab.async false
set_option linter.all false
set_option maxRecDepth 100000
set_option maxHeartbeats 4000000
namespace L2
open PySem PySem.Spec PyProof.Rows
theorem lc_listZ {α : Type} {K : PySem.W.Frag} {a : Addr} {zs : List (V × α)} {idx : List Nat} {tt : TT} {te : TE} {σ : St} {H : Hp} {Q : VK} (p : V × α → Bool) (f : V × α → V) (hq : SqL K H a (zs.map (·.1))) (hl : zs.length ≤ sizeLine)
    (ht : ∀ z ∈ zs, ∀ D ys (R : Bool → Hp → Prop), H D = none → R (p z) (upd H D (.lst ys)) → tt (some z.1 :: cap σ idx) (upd H D (.lst ys)) R)
    (he : ∀ z ∈ zs, p z = true → ∀ D ys (R : VK), H D = none → R (f z) (upd H D (.lst ys)) → te (some z.1 :: cap σ idx) (upd H D (.lst ys)) R)
    (hQ : ∀ D, H D = none → Q (.ref D) (upd H D (.lst ((zs.filter p).map f)))) : LCW idx (Itl K a) (gName 0) tt te Q σ H := by
  intro D hD
  refine ⟨fun i m ys ρ H' => m = zs.length - i ∧ i ≤ zs.length ∧ ys = ((zs.take i).filter p).map f ∧ (∃ y0, ρ = y0 :: cap σ idx) ∧ H' = upd H D (.lst ys), ⟨zs.length, by simp, Nat.zero_le _, by simp, ⟨none, rfl⟩, rfl⟩, ?_⟩
  rintro i m ys ρ H' ⟨rfl, hi, hys, ⟨y0, rfl⟩, rfl⟩
  refine ⟨upd_same, ?_⟩
  have hqD : ∀ us, SqL K (upd H D (.lst us)) a (zs.map (·.1)) := fun us => Same.seq (Same.upd hD) hq
  by_cases hlt : i < zs.length
  · have hz : zs[i]? = some zs[i] := List.getElem?_eq_getElem hlt
    have hx1 : (zs.map (·.1))[i]? = some zs[i].1 := by rw [List.getElem?_map, hz]; rfl
    refine .inr ⟨⟨_, _, hqD ys, hx1⟩, ?_, fun x H' y => ?_⟩
    · rw [hys, List.length_map]
      have h1 := List.length_filter_le p (zs.take i)
      have h2 : (zs.take i).length = i := by rw [List.length_take]; omega
      omega
    · obtain ⟨e, y⟩ := y
      subst e
      have hx := y _ (hqD ys)
      rw [hx1] at hx
      cases hx
      have hmem : zs[i] ∈ zs := List.getElem_mem hlt
      have htk : zs.take (i + 1) = zs.take i ++ [zs[i]] := by rw [List.take_add_one, hz]; rfl
      show tt (some zs[i].1 :: cap σ idx) (upd H D (.lst ys)) _
      refine ht _ hmem D ys _ hD ?_
      cases hp : p zs[i] with
      | true =>
        rw [if_pos rfl]
        refine he _ hmem hp D ys _ hD ⟨upd_same, zs.length - (i + 1), by omega, rfl, hlt, ?_, ⟨_, rfl⟩, upd_upd⟩
        rw [htk, List.filter_append, List.map_append, hys]
        simp [hp]
      | false =>
        rw [if_neg Bool.false_ne_true]
        refine ⟨zs.length - (i + 1), by omega, rfl, hlt, ?_, ⟨_, rfl⟩, rfl⟩
        rw [htk, List.filter_append, List.map_append, hys]
        simp [hp]
  · have e : i = zs.length := by omega
    subst e
    refine .inl ⟨⟨_, hqD ys, by rw [List.length_map]; exact Nat.le_refl _⟩, ?_⟩
    rw [hys, List.take_length]
    exact hQ D hD
def hpn (o : Obj) : Nat → Heap
  | 0 => { }
  | n + 1 => (hpn o n).push o
theorem hpn_size (o : Obj) : ∀ n, (hpn o n).objs.size = n
  | 0 => rfl
  | n + 1 => by
    show ((hpn o n).push o).objs.size = _
    rw [Heap.size_push, hpn_size o n]
theorem code_no_dict {P : Program} {w : World} {c : Addr} {q : Str} {xs : List (NK × Addr × Value)} : codeE c q ≠ ndObj P w c xs := fun z => by
  have e : (hpn { cls := .type "code", data := .fields #[.none, .str q 0] } (c + 1)).get? c = some { cls := .type "code", data := .fields #[.none, .str q 0] } := by
    have := Heap.get?_push_size (hpn { cls := .type "code", data := .fields #[.none, .str q 0] } c) (o := { cls := .type "code", data := .fields #[.none, .str q 0] }) rfl
    rw [hpn_size] at this
    exact this
  have h1 : codeE c q (hpn { cls := .type "code", data := .fields #[.none, .str q 0] } (c + 1)) := ⟨_, _, 0, e, rfl, rfl⟩
  rw [z] at h1
  obtain ⟨_, o, es, ep, h2, _, h3, _⟩ := h1
  rw [e] at h2
  cases h2
  cases h3
theorem LamTab.updN {P : Program} {w : World} {K : PySem.W.Frag} {Pt : Addr} {pos : Pos} {q : Str} {H : Hp} {d : Addr} {ks : List NK} {u : HO} (h : LamTab Pt pos q H) (hN : NDict P w K H d ks) : LamTab Pt pos q (L2.upd H d u) := by
  obtain ⟨xs, h1, _⟩ := hN
  rcases h with h | ⟨c, h2, h3⟩
  · refine .inl ?_
    rw [upd_ne (ne_of h h1 fun z => by cases z)]
    exact h
  · refine .inr ⟨c, ?_, ?_⟩
    · rw [upd_ne (ne_of h2 h1 fun z => by cases z)]
      exact h2
    · have hcd : c ≠ d := fun z => by
        subst z
        rw [h3] at h1
        exact code_no_dict (HO.ext.inj (Option.some.inj h1))
      rw [upd_ne hcd]
      exact h3
end L2

set_option Elab.async false
set_option linter.all false
set_option maxRecDepth 100000
set_option maxHeartbeats 4000000
namespace L2
open PySem PySem.Spec PyProof.Rows
section
variable {X : Cx}
theorem is_bools {prog : Program} {w : World} {A : Around} {E : Value → Shared → Prop} {s : Shared} {b c : Bool} {Q : Value → Shared → Prop} (h : Q (.bool (decide (b = c))) s) : wpAny (model prog w) A (compareOp .Is (.bool b) (.bool c)) Q E s := by
  cases b <;> cases c <;> exact wpAny_pure h
theorem op_isB : OpR X (compareOp .Is) (fun x y H Q => ∃ b c : Bool, x = .bl b ∧ y = .bl c ∧ Q (.bl (decide (b = c))) H) := by
  intro pins s σ H x y v u Q I rx ry h
  obtain ⟨b, c, rfl, rfl, q⟩ := h
  cases rx
  cases ry
  exact is_bools (fin_bl I q rfl)
end
def lamOkB (K : PySem.W.Frag) (c : Addr) : Bool := match K.lookup c with
  | some o => (match o.data with
    | .fields vs => (match (vs[11]? : Option Value) with
      | some (.ref P) => PySem.W.codeHdIn K c P && (K.lookup P).isNone
      | _ => false)
    | _ => false)
  | none => false
theorem lamOk_of {K : PySem.W.Frag} {c : Addr} (h : lamOkB K c = true) : ∃ Pt, PySem.W.codeHdIn K c Pt = true ∧ K.lookup Pt = none := by
  unfold lamOkB at h
  split at h
  · split at h
    · split at h
      · rename_i P _
        rw [Bool.and_eq_true, Option.isNone_iff_eq_none] at h
        exact ⟨P, h.1, h.2⟩
      · cases h
    · cases h
  · cases h
end L2

set_option Elab.async false
set_option linter.all false
set_option maxRecDepth 100000
namespace HD
open PySem PySem.W PySem.Calls PyProof.Rows

section
variable (d : Addr) (a : Addr) (h : Int) (es : Array DictEntry)
def asked (tells few : Bool) : List Nat → Option Nat → Sem (Option Nat)
  | [], hit => pure hit
  | i :: r, hit => match es[i]? with
    | none => asked tells few r hit
    | some e => dictEpoch d none >>= fun b => eqBool e.key (.ref a) >>= fun same => dictEpoch d none >>= fun b' =>
      if (b' != b) = true then .unsupported "dict.changed-during-lookup"
      else if same = true then
        (if hit.isSome = true then .unsupported "dict.find:order-among-keys-of-one-hash" else rule "dict.find.hit" >>= fun _ => if few = true then pure (some i) else asked tells few r (some i))
      else rule "dict.find.same-hash-other-key" >>= fun _ => if (tells && !(decide (0 ≤ h) && decide (h < 32))) = true then .unsupported "dict.find:asked-again-or-not-hangs-on-the-table" else asked tells few r hit
def keysAt (pl : List Nat) : List Value := pl.filterMap fun i => es[i]?.map (·.key)
def behind (pl : List Nat) : Sem (Option Nat) :=
  if (es.any fun e => e.key == .ref a && e.hash != h) = true then .unsupported "dict.find:a-stored-key-whose-hash-has-changed"
  else (if (keysAt es pl == [.ref a]) = true then pure false else tableMayTell (.ref a) (keysAt es pl)) >>= fun tells =>
    if (tells && decide ((keysAt es pl).length ≥ 2)) = true then .unsupported "dict.find:order-among-keys-of-one-hash" else asked d a h es tells (decide ((keysAt es pl).length < 2)) pl none
end

theorem asked_of (d a : Addr) (h : Int) (es : Array DictEntry) (tells : Bool) (n : Nat) (F : Nat → Option (Option Nat) × Option Nat → Sem (ForInStep (Option (Option Nat) × Option Nat))) (post : Option (Option Nat) × Option Nat → Sem (Option Nat)) (p1 : ∀ x, post (none, x) = pure x) (p2 : ∀ r x, post (some r, x) = pure r)
    (hF : ∀ i hit, F i (none, hit) = match es[i]? with
      | some e => if (e.hash == h) = true then (dictEpoch d none >>= fun b => eqBool e.key (.ref a) >>= fun same => dictEpoch d none >>= fun b' =>
          if (b' != b) = true then .unsupported "dict.changed-during-lookup"
          else if same = true then
            (if hit.isSome = true then .unsupported "dict.find:order-among-keys-of-one-hash" else rule "dict.find.hit" >>= fun _ => if n < 2 then pure (ForInStep.done (some (some i), hit)) else pure (ForInStep.yield (none, some i)))
          else rule "dict.find.same-hash-other-key" >>= fun _ => if (tells && !(decide (0 ≤ h) && decide (h < 32))) = true then .unsupported "dict.find:asked-again-or-not-hangs-on-the-table" else pure (ForInStep.yield (none, hit)))
        else pure (ForInStep.yield (none, hit))
      | none => pure (ForInStep.yield (none, hit))) :
    ∀ (pl : List Nat) (hit : Option Nat), (∀ i ∈ pl, ∀ e, es[i]? = some e → (e.hash == h) = true) →
      (forIn pl ((none : Option (Option Nat)), hit) F >>= post) = asked d a h es tells (decide (n < 2)) pl hit
  | [], hit, _ => p1 hit
  | i :: r, hit, ha => by
    have ih := asked_of d a h es tells n F post p1 p2 hF r
    have hr : ∀ j ∈ r, ∀ e, es[j]? = some e → (e.hash == h) = true := fun j hj => ha j (List.mem_cons_of_mem _ hj)
    rw [List.forIn_cons, hF i hit]
    unfold asked
    cases he : es[i]? with
    | none => exact ih hit hr
    | some e =>
      simp only [ha i (List.mem_cons_self ..) e he, if_true, bind_assoc]
      refine congrArg _ (funext fun b => congrArg _ (funext fun same => congrArg _ (funext fun b' => ?_)))
      by_cases h1 : (b' != b) = true
      · simp only [h1, if_true]; rfl
      · simp only [h1]
        cases same with
        | true =>
          cases hh : hit.isSome with
          | true => rfl
          | false =>
            by_cases hn : n < 2
            · simp only [hn]
              simp only [Bool.false_eq_true, if_false, if_true, bind_assoc, pure_bind, decide_true, p2]
            · simp only [hn]
              simp only [Bool.false_eq_true, if_false, if_true, bind_assoc, pure_bind, decide_false]
              simp only [decide_eq_false hn] at ih
              exact congrArg _ (funext fun _ => ih _ hr)
        | false =>
          by_cases ht : (tells && !(decide (0 ≤ h) && decide (h < 32))) = true
          · simp only [ht, Bool.false_eq_true, if_false, if_true]; rfl
          · simp only [ht, Bool.false_eq_true, if_false, bind_assoc, pure_bind]
            exact congrArg _ (funext fun _ => ih _ hr)

theorem find_behind (d a : Addr) (h : Int) : dictFind d (.ref a) h = holding [.ref a] (dictEntries d none >>= fun es => behind d a h es (placesWithHash es.size (fun i => es[i]?.map (·.hash)) h)) := by
  refine congrArg (holding [Value.ref a]) (congrArg (dictEntries d none >>= ·) (funext fun es => ?_))
  have hp : ∀ i ∈ placesWithHash es.size (fun i => es[i]?.map (·.hash)) h, ∀ e, es[i]? = some e → (e.hash == h) = true := fun i hi e he => by
    unfold placesWithHash at hi
    have this : (es[i]?.map (·.hash) == some h) = true := (List.mem_filter.mp hi).2
    rw [he] at this
    exact this
  generalize placesWithHash es.size (fun i => es[i]?.map (·.hash)) h = pl at hp
  unfold behind
  show (if (Value.ref a :: keysAt es pl).all carriedByValue = true then _ else _) = _
  rw [if_neg (by simp [carriedByValue])]
  by_cases h0 : (es.any fun e => e.key == .ref a && e.hash != h) = true
  · simp only [h0, if_true]; rfl
  · simp only [h0]
    by_cases h2 : (keysAt es pl == [.ref a]) = true
    · refine Eq.trans (if_pos h2) (Eq.trans ?_ (congrArg (fun x : Sem Bool => x >>= _) (if_pos h2)).symm)
      refine congrArg (fun f => (pure false : Sem Bool) >>= f) (funext fun tells => ?_)
      by_cases h3 : (tells && decide ((keysAt es pl).length ≥ 2)) = true
      · refine (if_pos h3).trans (Eq.trans ?_ (if_pos h3).symm); rfl
      · refine (if_neg h3).trans (Eq.trans ?_ (if_neg h3).symm)
        refine asked_of d a h es tells (keysAt es pl).length _ _ (fun _ => rfl) (fun _ _ => rfl) ?_ pl none hp
        intro i hit
        show (match es[i]? with | some e => _ | _ => _) = _
        cases es[i]? <;> rfl
    · refine Eq.trans (if_neg h2) (Eq.trans ?_ (congrArg (fun x : Sem Bool => x >>= _) (if_neg h2)).symm)
      refine congrArg (fun f => tableMayTell (.ref a) (keysAt es pl) >>= f) (funext fun tells => ?_)
      by_cases h3 : (tells && decide ((keysAt es pl).length ≥ 2)) = true
      · refine (if_pos h3).trans (Eq.trans ?_ (if_pos h3).symm); rfl
      · refine (if_neg h3).trans (Eq.trans ?_ (if_neg h3).symm)
        refine asked_of d a h es tells (keysAt es pl).length _ _ (fun _ => rfl) (fun _ _ => rfl) ?_ pl none hp
        intro i hit
        show (match es[i]? with | some e => _ | _ => _) = _
        cases es[i]? <;> rfl

section
variable {tb : String → Option Builtin} {p : Program} {w : World} {n₀ : Nat} {ann : Option Value}
theorem segRun_up {b : Nat} (k : Nat) : ∀ (n : Nat) (s : Shared) (t : Thread) (r : Flow × Shared × Code × Pos), segRun tb p w n₀ ann b n s t = some r → segRun tb p w n₀ ann b (n + k) s t = some r
  | 0, _, _, _, e => by cases e
  | n + 1, s, t, r, e => by
    rw [Nat.add_right_comm]
    simp only [segRun] at e ⊢
    cases h1 : endAt b t with
    | some f => rw [h1] at e; exact e
    | none =>
      cases h2 : stepOk n₀ ann t with
      | false => rw [h1, h2] at e; cases e
      | true =>
        rw [h1, h2] at e
        cases h3 : step (denote tb) p w s t with
        | halt _ _ => rw [h3] at e; cases e
        | go s' t' => rw [h3] at e; exact segRun_up k n s' t' r e
def atRule (tag : String) (t : Thread) : Bool := match t.stack, t.cur with
  | [_], .rule g _ => g == tag
  | _, _ => false
def tillT (tb : String → Option Builtin) (p : Program) (w : World) (n₀ : Nat) (ann : Option Value) (tag : String) : Nat → SharedT → Thread → Option (SharedT × Thread)
  | 0, _, _ => none
  | n + 1, s, t => match atRule tag t with
    | true => some (s, t)
    | false => match endAt 1 t, stepOk n₀ ann t with
      | none, true => (stepT (denote tb) p w s t).bind fun x => tillT tb p w n₀ ann tag n x.1 x.2
      | _, _ => none
theorem till_seg {tag : String} : ∀ {n N : Nat} {s s' : SharedT} {t t' : Thread} {r : Flow × Shared × Code × Pos}, tillT tb p w n₀ ann tag n s t = some (s', t') → segRun tb p w n₀ ann 1 N s'.abs t' = some r →
    segRun tb p w n₀ ann 1 (n + N) s.abs t = some r
  | 0, _, _, _, _, _, _, e, _ => by cases e
  | n + 1, N, s, s', t, t', r, e, k => by
    unfold tillT at e
    cases h0 : atRule tag t with
    | true =>
      rw [h0] at e
      obtain ⟨rfl, rfl⟩ : s = s' ∧ t = t' := by simpa using e
      rw [Nat.add_comm]; exact segRun_up _ _ _ _ _ k
    | false =>
      rw [h0] at e
      rw [Nat.add_right_comm]
      simp only [segRun]
      cases h1 : endAt 1 t with
      | some f => rw [h1] at e; cases e
      | none =>
        cases h2 : stepOk n₀ ann t with
        | false => rw [h1, h2] at e; cases e
        | true =>
          rw [h1, h2] at e
          obtain ⟨⟨s2, t2⟩, h3, h4⟩ := Option.bind_eq_some_iff.mp e
          rw [stepT_spec h3]
          exact till_seg h4 k
theorem goT_seg {n N M : Nat} {s s' : SharedT} {t t' : Thread} {r : Flow × Shared × Code × Pos} (e : segGoT tb p w n₀ ann 1 n s t = some (s', t')) (k : segRun tb p w n₀ ann 1 N s'.abs t' = some r) (h : n + N = M) : segRun tb p w n₀ ann 1 M s.abs t = some r := by
  subst h; exact seg_go (segGo_of e) k
end

section
variable {α β : Type} {K : α → Sem β} {H : Value → Sem β} {gd : Bool → Bool} {lv : List Value → List Value}
theorem wrap_pure (a : α) : (pure a : Sem α).wrap K H gd lv = K a := rfl
theorem wrap_bind {γ : Type} (m : Sem γ) (f : γ → Sem α) : (m >>= f).wrap K H gd lv = m.wrap (fun a => (f a).wrap K H gd lv) H gd lv := by
  rw [Sem.bind_eq_wrap', Sem.wrap_wrap]; rfl
theorem wrap_keep (vs : List Value) (m : Sem α) : (m.keep vs).wrap K H gd lv = m.wrap K H gd (fun l => lv (vs ++ l)) := by
  rw [Sem.keep_eq_wrap, Sem.wrap_wrap]; rfl
end
def setAll (d : Addr) : List (Value × Value) → Sem Unit
  | [] => pure ()
  | x :: r => dictSet d x.1 x.2 >>= fun _ => setAll d r
theorem setAll_of (d : Addr) (F : Value × Value → PUnit → Sem (ForInStep PUnit)) (hF : ∀ x u, F x u = (dictSet d x.1 x.2 >>= fun _ => pure (ForInStep.yield PUnit.unit))) :
    ∀ vs : List (Value × Value), (forIn vs PUnit.unit F >>= fun _ => (pure () : Sem Unit)) = setAll d vs
  | [] => rfl
  | x :: r => by
    rw [List.forIn_cons, hF, setAll, bind_assoc, bind_assoc]
    refine congrArg _ (funext fun _ => ?_)
    rw [pure_bind]
    exact setAll_of d F hF r
def refsIn (vs : List (Value × Value)) : List Value := (vs.flatMap fun x => [x.1, x.2]).filter Value.isRef
theorem sub_form (pairs : List (Sem Value × Sem Value)) (hl : pairs.length ≤ 15) : subDict pairs =
    (alloc { cls := .type "dict", data := .dict #[] } >>= fun d => ((evalPairs pairs >>= fun vs => (setAll d vs).keep (refsIn vs)).keep [.ref d]) >>= fun _ => pure d) := by
  unfold subDict
  refine congrArg _ (funext fun d => ?_)
  rw [if_pos hl, holding_eq_keep]
  refine congrArg (fun m : Sem Unit => m >>= fun _ => pure d) ?_
  refine congrArg (Sem.keep [.ref d]) (congrArg _ (funext fun vs => ?_))
  rw [holding_eq_keep]
  exact congrArg _ (setAll_of d _ (fun _ _ => rfl) vs)
theorem stmt_form (env : Env) (x : Str) (pos' dpos pos : Pos) (ks : List (Option Expr)) (vs : List Expr) (pairs : List (Sem Value × Sem Value))
    (hs : swapsWith (.Dict ks vs dpos) (some (.Name x pos')) pos.line env = pure false) (hd : eval (.Dict ks vs dpos) env = (standAt dpos >>= fun _ => (subDict pairs >>= fun d => pure (Value.ref d)))) (hl : pairs.length ≤ 15)
    (K : Flow → Sem Fin) (H : Value → Sem Fin) :
    (exec (.Assign [.Name x pos'] (.Dict ks vs dpos) pos) env).wrap K H id id =
      (standAt pos >>= fun _ => standAt dpos >>= fun _ => alloc { cls := .type "dict", data := .dict #[] }).wrap (fun d => (evalPairs pairs).wrap (fun vs =>
        (setAll d vs).wrap (fun _ => (standAt pos' >>= fun _ => bindName env x (.ref d) >>= fun _ => pure Flow.next).wrap K H id id) H id (fun l => [.ref d] ++ (refsIn vs ++ l))) H id (fun l => [.ref d] ++ l)) H id id := by
  rw [exec_Assign_Name env x pos' _ pos hs, hd, sub_form pairs hl]
  simp only [wrap_bind, wrap_keep, wrap_pure, id]
theorem set_form (d a : Addr) (v : Value) (hv : v.isRef = false) : ∃ G : Int → Option Nat → Sem Unit, (∀ h, G h none = (rule "dict.set.new-key-at-the-end" >>= fun _ => updateDictKeys d (·.push ⟨h, .ref a, v⟩) none)) ∧
    ∀ {β : Type} (K : Unit → Sem β) (H : Value → Sem β) (gd : Bool → Bool) (lv : List Value → List Value), (dictSet d (.ref a) v).wrap K H gd lv =
      (pyHash (.ref a)).wrap (fun h => (dictEntries d none).wrap (fun es => (behind d a h es (placesWithHash es.size (fun i => es[i]?.map (·.hash)) h)).wrap
        (fun r => (G h r).wrap K H gd (fun l => lv ([.ref a] ++ ([.ref a] ++ l)))) H gd (fun l => lv ([.ref a] ++ ([.ref a] ++ ([.ref a] ++ l))))) H gd (fun l => lv ([.ref a] ++ ([.ref a] ++ ([.ref a] ++ l))))) H gd (fun l => lv ([.ref a] ++ l)) := by
  have hf : ([Value.ref a, v].filter Value.isRef) = [.ref a] := by cases v <;> first | rfl | cases hv
  refine ⟨?G, ?g1, ?g2⟩
  case g2 =>
    intro β K H gd lv
    unfold dictSet
    rw [holding_eq_keep, hf, wrap_keep, wrap_bind]
    refine Sem.wrap_congr _ _ _ (fun h => ?_) fun _ => rfl
    unfold dictSetHashed
    rw [holding_eq_keep, hf, wrap_keep, wrap_bind, find_behind, holding_eq_keep, show ([Value.ref a].filter Value.isRef) = [.ref a] from rfl, wrap_keep, wrap_bind]
  case g1 => intro h; rfl
theorem range_acc (acc : Nat) (h : acc < 2 ^ 64) (r : Int) (e : r = if (acc == 2 ^ 64 - 1) = true then 1546275796 else if acc < 2 ^ 63 then (acc : Int) else (acc : Int) - ((2 ^ 64 : Nat) : Int)) :
    (decide (-(2 ^ 63 : Int) ≤ r) && decide (r < 2 ^ 63)) = true := by
  simp only [Bool.and_eq_true, decide_eq_true_eq]
  subst e
  split
  · exact ⟨by decide, by decide⟩
  · split <;> omega
theorem hash_range (l : List Int) : (decide (-(2 ^ 63 : Int) ≤ Builtin.Tuple.tupleHashOf l) && decide (Builtin.Tuple.tupleHashOf l < 2 ^ 63)) = true := range_acc _ (Nat.mod_lt _ (by decide)) _ rfl
theorem reduced_of (l : List Int) : pyHashByItsType.reduced (Builtin.Tuple.tupleHashOf l) = pure (reduceHash (Builtin.Tuple.tupleHashOf l)) := by
  have e := hash_range l
  unfold pyHashByItsType.reduced reduceHash
  generalize Builtin.Tuple.tupleHashOf l = i at e
  rw [if_pos e, if_pos e]
def hashB (hf : List Int → Int) : Builtin := fun args => slotArgs "__hash__" 0 args >>= fun x => Builtin.Tuple.tupleItemsOf x.1 >>= fun xs => forIn xs #[] (fun y hs => pyHash y >>= fun h => pure (.yield (hs.push h))) >>= fun hs => retInt (hf hs.toList)
noncomputable def tbH (hf : List Int → Int) : String → Option Builtin := fun id => if id = "tuple.__hash__" then some (hashB hf) else treeTable id
theorem tbH_eq : tbH Builtin.Tuple.tupleHashOf = treeTable := funext fun id => by
  unfold tbH
  by_cases h : id = "tuple.__hash__"
  · rw [if_pos h, h]; kernel_rfl
  · rw [if_neg h]
def hsh (P : Params) (x : String) : Int := if (PySem.Str.ofString x).cps.isEmpty then 0 else reduceHash (P.strHash (PySem.Str.ofString x).cps)
abbrev fol (b : Bool) (w : World) : World := w.withFollow "special-get-raises" b
def pl (bs : List Bool) : List Nat := (List.range bs.length).filter fun i => (bs[i]?).getD false
def ent (i : Nat) (v : Value) (h : Int) : DictEntry := ⟨h, .ref i, v⟩
def hP (P : Params) (x y : String) : Int := reduceHash (Builtin.Tuple.tupleHashOf [hsh P x, hsh P y])
end HD

set_option Elab.async false
set_option linter.all false
set_option maxRecDepth 100000
namespace HD
open PySem PySem.W PySem.Calls PyProof.Rows
theorem left_mid {p q : Program} {loose : List Str} {Xt : Shared → Bool} {α : Type} {Yf : Shared → α} {Ya : World → α} {N : Nat} {g0 : Bool} {H₀ : Params → Heap} {gs₀ : Array GenState} {d₀ : Drawn} {k₀ m₀ M n : Nat} {ann : Option Value}
    {T : World → OsState → SharedT} {rest : List Stmt} {env : Env} {c : Code} {pos pos' fp : Pos}
    (open_ : ∀ w : World, (fencedOpening treeTable p w N).map (fun s => (s.heap, s.gens, s.drawn, s.toks)) = some (H₀ w.params, gs₀, d₀, k₀))
    (size : ∀ w : World, ((H₀ w.params).isNs mainGlobals && gs₀.size == 0, (H₀ w.params).objs.size, (H₀ w.params).nsMap mainGlobals "__annotations__") = (true, m₀, ann))
    (run : ∀ (w : World) (os : OsState) (N' : Nat) (r : Shared), topRun treeTable p w m₀ ann N' (T w os).abs (restOf rest env c pos [topFrame fp]) = some r → topRun treeTable p w m₀ ann (M + N') ⟨H₀ w.params, gs₀, d₀, k₀, os⟩ (topStub p) = some r)
    (fin : ∀ (w : World) (s : Shared), topRun treeTable p w m₀ ann 2 s ⟨doneF .next, c, pos', [topFrame fp]⟩ = some s)
    (suf : ∀ (w : World) (os : OsState), (segRunT treeTable p w m₀ ann 1 n (T w os) (piecesOf rest env c pos [topFrame fp])).map (fun x => (x.1, x.2.2,
        (staticsOk (importedModules p.main.body) (H₀ w.params) x.2.1.abs.heap && namesBound p x.2.1.abs.heap && gensDone x.2.1.abs && laidKept (H₀ w.params) x.2.1.abs.heap), openSeen q loose (importedModules p.main.body) Xt g0 x.2.1.abs, Yf x.2.1.abs)) =
      some (.next, (c, pos'), true, openGood q loose, Ya w))
    (le : Nat.ble (M + (n + 2)) N = true) : LeftO p q loose Xt Yf Ya N g0 := fun w => by
  obtain ⟨⟨h, gs, d, k, os⟩, e1, e2⟩ := Option.map_eq_some_iff.mp (open_ w)
  obtain ⟨rfl, rfl, rfl, rfl⟩ : h = H₀ w.params ∧ gs = gs₀ ∧ d = d₀ ∧ k = k₀ := by simpa only [Prod.mk.injEq] using e2
  obtain ⟨z1, z2, z3⟩ : _ ∧ _ ∧ _ := by simpa only [Prod.mk.injEq] using size w
  obtain ⟨⟨f, s1, c1, q1⟩, e3, e4⟩ := Option.map_eq_some_iff.mp (suf w os)
  obtain ⟨rfl, ⟨rfl, rfl⟩, l1, l2, l3⟩ : f = .next ∧ (c1 = c ∧ q1 = pos') ∧ _ ∧ _ ∧ _ := by simpa only [Prod.mk.injEq] using e4
  have r1 : topRun treeTable p w m₀ ann (n + 2) (T w os).abs (restOf (rest ++ []) env c1 pos [topFrame fp]) = some s1.abs := piece_app (segRun_of e3) (piece_nil (fin w s1.abs))
  rw [List.append_nil] at r1
  have r2 := topRun_mono (N - (M + (n + 2))) _ _ _ _ (run w os _ _ r1)
  rw [Nat.add_sub_of_le (Nat.le_of_ble_eq_true le)] at r2
  have t : topFrom treeTable p w N ⟨H₀ w.params, gs, d, k, os⟩ = some s1.abs := by
    simp only [topFrom, z1, z2, z3, r2, Option.bind_some]
    rw [l1]
  show ((fencedOpening treeTable p w N).bind (topFrom treeTable p w N)).map _ = _
  rw [e1, Option.bind_some, t]
  exact congrArg some (Prod.ext l2 l3)
end HD

set_option Elab.async false
set_option linter.all false
set_option maxRecDepth 100000
set_option maxHeartbeats 0
namespace HD
open PySem PySem.W PySem.Calls PyProof.Rows
noncomputable abbrev pR : Program := PySem.Challenge.rw_callorder_k06_whole_kept_by_a_lock.prog
def pA : Program := { PySem.Challenge.rw_callorder_k06_whole_kept_by_a_lock.prog with main := { PySem.Challenge.rw_callorder_k06_whole_kept_by_a_lock.prog.main with body := PySem.Challenge.rw_callorder_k06_whole_kept_by_a_lock.prog.main.body.take 6 } }
open_shared sh for pA leaving 0
def twoOf : Option Expr → Option Expr
  | some (.Tuple [_, e] _ _) => some e
  | k => k
def fourOf : Option Expr → Expr → Expr
  | some (.Tuple [e1, e2] c p), v => .Tuple [e1, e2, v, v] c p
  | _, v => v
def otherStmt : Stmt → Stmt
  | .Assign [.Name x p1] (.Dict ks vs p2) p3 => .Assign [.Name x p1] (.Dict (ks.map twoOf) (List.zipWith fourOf ks vs) p2) p3
  | s => s
def pZ : Program := { PySem.Challenge.rw_callorder_k06_whole_kept_by_a_lock.prog with main := { PySem.Challenge.rw_callorder_k06_whole_kept_by_a_lock.prog.main with body := PySem.Challenge.rw_callorder_k06_whole_kept_by_a_lock.prog.main.body.take 6 ++ (((PySem.Challenge.rw_callorder_k06_whole_kept_by_a_lock.prog.main.body.drop 6).take 1).map otherStmt ++ PySem.Challenge.rw_callorder_k06_whole_kept_by_a_lock.prog.main.body.drop 7) } }
open_shared shZ for pZ leaving 0
noncomputable def stmtAt (i : Nat) : Stmt := (pR.main.body[i]?).getD (.Pass default)
structure DictStmt where
  x : PySem.Str
  posN : Pos
  ks : List (Option Expr)
  vs : List Expr
  dpos : Pos
  pos : Pos
noncomputable def dictStmt : Stmt → Option DictStmt
  | .Assign [.Name x p1] (.Dict ks vs p2) p3 => some ⟨x, p1, ks, vs, p2, p3⟩
  | _ => none
noncomputable def ds : DictStmt := (dictStmt (stmtAt 6)).getD ⟨"", default, [], [], default, default⟩
theorem st6 : stmtAt 6 = .Assign [.Name ds.x ds.posN] (.Dict ds.ks ds.vs ds.dpos) ds.pos := by kernel_rfl
noncomputable def cE : Code := .body (behindTheImports pR) sh.env_1
def pos0 : Pos := { line := 0, col := 0, endLine := 0, endCol := 0 }
def posB : Pos := { line := 0, col := 0, endLine := 0, endCol := 0 }
def posK : Pos := { line := 9, col := 0, endLine := 9, endCol := 6 }
def posZ : Pos := { line := 238, col := 0, endLine := 252, endCol := 77 }
noncomputable abbrev B0 : List Frame := [topFrame pos0]
abbrev ann0 : Option Value := some (.ref 6)
noncomputable def pairs : List (Sem Value × Sem Value) := ((ds.ks.filterMap id).map fun k => eval k sh.env_1).zip (ds.vs.map fun v => (do let x ← eval v sh.env_1; standAt ds.dpos; pure x))
noncomputable def SA (w : World) (os : OsState) : SharedT := { tree := sh.tree_53 w.params, n := 54, life := { }, gens := { toList := [] }, drawn := { }, toks := 247, os := os }
theorem noSwap : swapsWith (.Dict ds.ks ds.vs ds.dpos) (some (.Name ds.x ds.posN)) ds.pos.line sh.env_1 = pure false := by kernel_rfl
theorem pairs_len : pairs.length = 6 := by kernel_rfl
theorem disp : eval (.Dict ds.ks ds.vs ds.dpos) sh.env_1 = (standAt ds.dpos >>= fun _ => (subDict pairs >>= fun d => pure (Value.ref d))) := by
  have hl := pairs_len
  rw [show (subDict pairs >>= fun d => pure (Value.ref d)) = dictDisplay (pairs.map fun p => (some p.1, p.2)) from (dictDisplay_pairs pairs (by intro e; rw [e] at hl; cases hl) (by omega)).symm]
  kernel_rfl
def tup (x y : String) (t : Nat) : Obj := ⟨.type "tuple", none, .seq #[.str (PySem.Str.ofString x) t, .str (PySem.Str.ofString y) (t + 1)] 0, #[]⟩
def dictAt (es : List DictEntry) : Obj := ⟨.type "dict", none, .dict es.toArray es.length, #[]⟩
noncomputable def tree1 (P : Params) : BT := (((((((sh.tree_53 P).ins 54 (dictAt [])).ins 55 (tup "row" "put" 247)).ins 56 (tup "row" "take" 250)).ins 57 (tup "row" "look" 253)).ins 58 (tup "number" "set" 256)).ins 59 (tup "number" "add" 259)).ins 60 (tup "number" "look" 262)
def vs0 : List (Value × Value) := [(.ref 55, .int 3 249), (.ref 56, .int 2 252), (.ref 57, .int 2 255), (.ref 58, .int 3 258), (.ref 59, .int 3 261), (.ref 60, .int 2 264)]
noncomputable def S (P : Params) (os : OsState) (es : List DictEntry) (toks : Nat) : SharedT := { tree := (tree1 P).set 54 (fun _ => dictAt es), n := 61, life := { }, gens := { toList := [] }, drawn := { }, toks := toks, os := os }
theorem go1 (w : World) (os : OsState) (K : Addr → Unit → Sem Fin) (H : Value → Sem Fin) :
    segGoT treeTable pR w 11 ann0 1 39 (SA w os) ⟨(standAt ds.pos >>= fun _ => standAt ds.dpos >>= fun _ => alloc { cls := .type "dict", data := .dict #[] }).wrap (fun d => (evalPairs pairs).wrap (fun vs =>
        (setAll d vs).wrap (K d) H id (fun l => [.ref d] ++ (refsIn vs ++ l))) H id (fun l => [.ref d] ++ l)) H id id, cE, posK, B0⟩ =
      some (S w.params os [] 265, ⟨(setAll 54 vs0).wrap (K 54) H id (fun l => [.ref 54] ++ (refsIn vs0 ++ l)), cE, ds.dpos, B0⟩) := by kernel_rfl
def gOf (h : Int) (a : Addr) (v : Value) (G : Nat → Sem Unit) : Option Nat → Sem Unit
  | none => rule "dict.set.new-key-at-the-end" >>= fun _ => updateDictKeys 54 (·.push ⟨h, .ref a, v⟩) none
  | some i => G i
section
variable {W : World} {s0 s1 s2 : SharedT} {a : Addr} {v : Value} {l : List Int} {es : Array DictEntry} {K : Unit → Sem Fin} {H : Value → Sem Fin} {lv : List Value → List Value} {r : Flow × Shared × Code × Pos} {N : Nat}
theorem put_run (hv : v.isRef = false)
    (h1 : ∀ (K : Int → Sem Fin) lv, segGoT treeTable pR W 11 ann0 1 25 s0 ⟨(pyHash (.ref a)).wrap K H id lv, cE, ds.dpos, B0⟩ = some (s1, ⟨(pyHashByItsType.reduced (Builtin.Tuple.tupleHashOf l)).wrap K H id lv, cE, ds.dpos, B0⟩))
    (h2 : ∀ (K : Array DictEntry → Sem Fin) lv, segGoT treeTable pR W 11 ann0 1 1 s1 ⟨(dictEntries 54 none).wrap K H id lv, cE, ds.dpos, B0⟩ = some (s1, ⟨K es, cE, ds.dpos, B0⟩))
    (h3 : ∀ (h : Int) G (K : Unit → Sem Fin) lv lv', tillT treeTable pR W 11 ann0 "dict.set.new-key-at-the-end" 500 s1 ⟨(behind 54 a h es (placesWithHash es.size (fun i => es[i]?.map (·.hash)) h)).wrap (fun r => (gOf h a v G r).wrap K H id lv') H id lv, cE, ds.dpos, B0⟩ =
      some (s1, ⟨(gOf h a v G none).wrap K H id lv', cE, ds.dpos, B0⟩))
    (h4 : ∀ G (K : Unit → Sem Fin) lv, segGoT treeTable pR W 11 ann0 1 4 s1 ⟨(gOf (reduceHash (Builtin.Tuple.tupleHashOf l)) a v G none).wrap K H id lv, cE, ds.dpos, B0⟩ = some (s2, ⟨K (), cE, ds.dpos, B0⟩))
    (k : segRun treeTable pR W 11 ann0 1 N s2.abs ⟨K (), cE, ds.dpos, B0⟩ = some r) :
    segRun treeTable pR W 11 ann0 1 (530 + N) s0.abs ⟨(dictSet 54 (.ref a) v).wrap K H id lv, cE, ds.dpos, B0⟩ = some r := by
  obtain ⟨G, g1, g2⟩ := set_form 54 a v hv
  rw [g2 K H id lv]
  refine goT_seg (h1 _ _) (N := 505 + N) ?_ (by omega)
  rw [reduced_of, wrap_pure]
  refine goT_seg (h2 _ _) (N := 504 + N) ?_ (by omega)
  generalize hh : reduceHash (Builtin.Tuple.tupleHashOf l) = h at *
  rw [show (fun r => (G h r).wrap K H id (fun l => lv ([.ref a] ++ ([.ref a] ++ l)))) = (fun r => (gOf h a v (fun i => G h (some i)) r).wrap K H id (fun l => lv ([.ref a] ++ ([.ref a] ++ l)))) from funext fun r => by
    cases r with
    | none => rw [g1 h]; rfl
    | some i => rfl]
  rw [show 504 + N = 500 + (4 + N) by omega]
  refine till_seg (h3 _ _ _ _ _) ?_
  exact goT_seg (h4 _ _ _) k rfl
end
section
variable (hf : List Int → Int) (b : Bool) (w : World) (os : OsState) (H : Value → Sem Fin) (es : List DictEntry)
theorem hash55 (tk : Nat) (K : Int → Sem Fin) (lv : List Value → List Value) : segGoT (tbH hf) pR (fol b w) 11 ann0 1 25 (S w.params os es tk) ⟨(pyHash (.ref 55)).wrap K H id lv, cE, ds.dpos, B0⟩ =
    some (S w.params os es (tk + 3), ⟨(pyHashByItsType.reduced (hf [hsh w.params "row", hsh w.params "put"])).wrap K H id lv, cE, ds.dpos, B0⟩) := by cases b <;> kernel_rfl
theorem hash56 (tk : Nat) (K : Int → Sem Fin) (lv : List Value → List Value) : segGoT (tbH hf) pR (fol b w) 11 ann0 1 25 (S w.params os es tk) ⟨(pyHash (.ref 56)).wrap K H id lv, cE, ds.dpos, B0⟩ =
    some (S w.params os es (tk + 3), ⟨(pyHashByItsType.reduced (hf [hsh w.params "row", hsh w.params "take"])).wrap K H id lv, cE, ds.dpos, B0⟩) := by cases b <;> kernel_rfl
theorem hash57 (tk : Nat) (K : Int → Sem Fin) (lv : List Value → List Value) : segGoT (tbH hf) pR (fol b w) 11 ann0 1 25 (S w.params os es tk) ⟨(pyHash (.ref 57)).wrap K H id lv, cE, ds.dpos, B0⟩ =
    some (S w.params os es (tk + 3), ⟨(pyHashByItsType.reduced (hf [hsh w.params "row", hsh w.params "look"])).wrap K H id lv, cE, ds.dpos, B0⟩) := by cases b <;> kernel_rfl
theorem hash58 (tk : Nat) (K : Int → Sem Fin) (lv : List Value → List Value) : segGoT (tbH hf) pR (fol b w) 11 ann0 1 25 (S w.params os es tk) ⟨(pyHash (.ref 58)).wrap K H id lv, cE, ds.dpos, B0⟩ =
    some (S w.params os es (tk + 3), ⟨(pyHashByItsType.reduced (hf [hsh w.params "number", hsh w.params "set"])).wrap K H id lv, cE, ds.dpos, B0⟩) := by cases b <;> kernel_rfl
theorem hash59 (tk : Nat) (K : Int → Sem Fin) (lv : List Value → List Value) : segGoT (tbH hf) pR (fol b w) 11 ann0 1 25 (S w.params os es tk) ⟨(pyHash (.ref 59)).wrap K H id lv, cE, ds.dpos, B0⟩ =
    some (S w.params os es (tk + 3), ⟨(pyHashByItsType.reduced (hf [hsh w.params "number", hsh w.params "add"])).wrap K H id lv, cE, ds.dpos, B0⟩) := by cases b <;> kernel_rfl
theorem hash60 (tk : Nat) (K : Int → Sem Fin) (lv : List Value → List Value) : segGoT (tbH hf) pR (fol b w) 11 ann0 1 25 (S w.params os es tk) ⟨(pyHash (.ref 60)).wrap K H id lv, cE, ds.dpos, B0⟩ =
    some (S w.params os es (tk + 3), ⟨(pyHashByItsType.reduced (hf [hsh w.params "number", hsh w.params "look"])).wrap K H id lv, cE, ds.dpos, B0⟩) := by cases b <;> kernel_rfl
theorem load0 (tk : Nat) (K : Array DictEntry → Sem Fin) (lv : List Value → List Value) : segGoT treeTable pR (fol b w) 11 ann0 1 1 (S w.params os [] tk) ⟨(dictEntries 54 none).wrap K H id lv, cE, ds.dpos, B0⟩ =
    some (S w.params os [] tk, ⟨K #[], cE, ds.dpos, B0⟩) := by kernel_rfl
theorem upd0 (h0 : Int) (tk : Nat) (G : Nat → Sem Unit) (K : Unit → Sem Fin) (lv : List Value → List Value) : segGoT treeTable pR (fol b w) 11 ann0 1 4 (S w.params os [] tk) ⟨(gOf h0 55 (.int 3 249) G none).wrap K H id lv, cE, ds.dpos, B0⟩ =
    some (S w.params os [ent 55 (.int 3 249) h0] tk, ⟨K (), cE, ds.dpos, B0⟩) := by kernel_rfl
theorem findB0 (h : Int) (tk : Nat) (G : Nat → Sem Unit) (K : Unit → Sem Fin) (lv lv' : List Value → List Value) : tillT treeTable pR (fol b w) 11 ann0 "dict.set.new-key-at-the-end" 500 (S w.params os [] tk)
    ⟨(behind 54 55 h #[] (pl [])).wrap (fun r => (gOf h 55 (.int 3 249) G r).wrap K H id lv') H id lv, cE, ds.dpos, B0⟩ =
    some (S w.params os [] tk, ⟨(gOf h 55 (.int 3 249) G none).wrap K H id lv', cE, ds.dpos, B0⟩) := by cases b <;> kernel_rfl
theorem places0 (h : Int) : placesWithHash (#[] : Array DictEntry).size (fun i => (#[] : Array DictEntry)[i]?.map (·.hash)) h = pl [] := by kernel_rfl
theorem load1 (h0 : Int) (tk : Nat) (K : Array DictEntry → Sem Fin) (lv : List Value → List Value) : segGoT treeTable pR (fol b w) 11 ann0 1 1 (S w.params os [ent 55 (.int 3 249) h0] tk) ⟨(dictEntries 54 none).wrap K H id lv, cE, ds.dpos, B0⟩ =
    some (S w.params os [ent 55 (.int 3 249) h0] tk, ⟨K #[ent 55 (.int 3 249) h0], cE, ds.dpos, B0⟩) := by kernel_rfl
theorem upd1 (h0 : Int) (h1 : Int) (tk : Nat) (G : Nat → Sem Unit) (K : Unit → Sem Fin) (lv : List Value → List Value) : segGoT treeTable pR (fol b w) 11 ann0 1 4 (S w.params os [ent 55 (.int 3 249) h0] tk) ⟨(gOf h1 56 (.int 2 252) G none).wrap K H id lv, cE, ds.dpos, B0⟩ =
    some (S w.params os [ent 55 (.int 3 249) h0, ent 56 (.int 2 252) h1] tk, ⟨K (), cE, ds.dpos, B0⟩) := by kernel_rfl
theorem findB1 (h0 : Int) (b0 : Bool) (h : Int) (tk : Nat) (G : Nat → Sem Unit) (K : Unit → Sem Fin) (lv lv' : List Value → List Value) : tillT treeTable pR (fol b w) 11 ann0 "dict.set.new-key-at-the-end" 500 (S w.params os [ent 55 (.int 3 249) h0] tk)
    ⟨(behind 54 56 h #[ent 55 (.int 3 249) h0] (pl [b0])).wrap (fun r => (gOf h 56 (.int 2 252) G r).wrap K H id lv') H id lv, cE, ds.dpos, B0⟩ =
    some (S w.params os [ent 55 (.int 3 249) h0] tk, ⟨(gOf h 56 (.int 2 252) G none).wrap K H id lv', cE, ds.dpos, B0⟩) := by cases b <;> cases b0 <;> kernel_rfl
theorem places1 (h0 h : Int) : placesWithHash (#[ent 55 (.int 3 249) h0] : Array DictEntry).size (fun i => (#[ent 55 (.int 3 249) h0] : Array DictEntry)[i]?.map (·.hash)) h = pl [h0 == h] := by kernel_rfl
theorem load2 (h0 h1 : Int) (tk : Nat) (K : Array DictEntry → Sem Fin) (lv : List Value → List Value) : segGoT treeTable pR (fol b w) 11 ann0 1 1 (S w.params os [ent 55 (.int 3 249) h0, ent 56 (.int 2 252) h1] tk) ⟨(dictEntries 54 none).wrap K H id lv, cE, ds.dpos, B0⟩ =
    some (S w.params os [ent 55 (.int 3 249) h0, ent 56 (.int 2 252) h1] tk, ⟨K #[ent 55 (.int 3 249) h0, ent 56 (.int 2 252) h1], cE, ds.dpos, B0⟩) := by kernel_rfl
theorem upd2 (h0 h1 : Int) (h2 : Int) (tk : Nat) (G : Nat → Sem Unit) (K : Unit → Sem Fin) (lv : List Value → List Value) : segGoT treeTable pR (fol b w) 11 ann0 1 4 (S w.params os [ent 55 (.int 3 249) h0, ent 56 (.int 2 252) h1] tk) ⟨(gOf h2 57 (.int 2 255) G none).wrap K H id lv, cE, ds.dpos, B0⟩ =
    some (S w.params os [ent 55 (.int 3 249) h0, ent 56 (.int 2 252) h1, ent 57 (.int 2 255) h2] tk, ⟨K (), cE, ds.dpos, B0⟩) := by kernel_rfl
theorem findB2 (h0 h1 : Int) (b0 b1 : Bool) (h : Int) (tk : Nat) (G : Nat → Sem Unit) (K : Unit → Sem Fin) (lv lv' : List Value → List Value) : tillT treeTable pR (fol b w) 11 ann0 "dict.set.new-key-at-the-end" 500 (S w.params os [ent 55 (.int 3 249) h0, ent 56 (.int 2 252) h1] tk)
    ⟨(behind 54 57 h #[ent 55 (.int 3 249) h0, ent 56 (.int 2 252) h1] (pl [b0, b1])).wrap (fun r => (gOf h 57 (.int 2 255) G r).wrap K H id lv') H id lv, cE, ds.dpos, B0⟩ =
    some (S w.params os [ent 55 (.int 3 249) h0, ent 56 (.int 2 252) h1] tk, ⟨(gOf h 57 (.int 2 255) G none).wrap K H id lv', cE, ds.dpos, B0⟩) := by cases b <;> cases b0 <;> cases b1 <;> kernel_rfl
theorem places2 (h0 h1 h : Int) : placesWithHash (#[ent 55 (.int 3 249) h0, ent 56 (.int 2 252) h1] : Array DictEntry).size (fun i => (#[ent 55 (.int 3 249) h0, ent 56 (.int 2 252) h1] : Array DictEntry)[i]?.map (·.hash)) h = pl [h0 == h, h1 == h] := by kernel_rfl
theorem load3 (h0 h1 h2 : Int) (tk : Nat) (K : Array DictEntry → Sem Fin) (lv : List Value → List Value) : segGoT treeTable pR (fol b w) 11 ann0 1 1 (S w.params os [ent 55 (.int 3 249) h0, ent 56 (.int 2 252) h1, ent 57 (.int 2 255) h2] tk) ⟨(dictEntries 54 none).wrap K H id lv, cE, ds.dpos, B0⟩ =
    some (S w.params os [ent 55 (.int 3 249) h0, ent 56 (.int 2 252) h1, ent 57 (.int 2 255) h2] tk, ⟨K #[ent 55 (.int 3 249) h0, ent 56 (.int 2 252) h1, ent 57 (.int 2 255) h2], cE, ds.dpos, B0⟩) := by kernel_rfl
theorem upd3 (h0 h1 h2 : Int) (h3 : Int) (tk : Nat) (G : Nat → Sem Unit) (K : Unit → Sem Fin) (lv : List Value → List Value) : segGoT treeTable pR (fol b w) 11 ann0 1 4 (S w.params os [ent 55 (.int 3 249) h0, ent 56 (.int 2 252) h1, ent 57 (.int 2 255) h2] tk) ⟨(gOf h3 58 (.int 3 258) G none).wrap K H id lv, cE, ds.dpos, B0⟩ =
    some (S w.params os [ent 55 (.int 3 249) h0, ent 56 (.int 2 252) h1, ent 57 (.int 2 255) h2, ent 58 (.int 3 258) h3] tk, ⟨K (), cE, ds.dpos, B0⟩) := by kernel_rfl
theorem findB3 (h0 h1 h2 : Int) (b0 b1 b2 : Bool) (h : Int) (tk : Nat) (G : Nat → Sem Unit) (K : Unit → Sem Fin) (lv lv' : List Value → List Value) : tillT treeTable pR (fol b w) 11 ann0 "dict.set.new-key-at-the-end" 500 (S w.params os [ent 55 (.int 3 249) h0, ent 56 (.int 2 252) h1, ent 57 (.int 2 255) h2] tk)
    ⟨(behind 54 58 h #[ent 55 (.int 3 249) h0, ent 56 (.int 2 252) h1, ent 57 (.int 2 255) h2] (pl [b0, b1, b2])).wrap (fun r => (gOf h 58 (.int 3 258) G r).wrap K H id lv') H id lv, cE, ds.dpos, B0⟩ =
    some (S w.params os [ent 55 (.int 3 249) h0, ent 56 (.int 2 252) h1, ent 57 (.int 2 255) h2] tk, ⟨(gOf h 58 (.int 3 258) G none).wrap K H id lv', cE, ds.dpos, B0⟩) := by cases b <;> cases b0 <;> cases b1 <;> cases b2 <;> kernel_rfl
theorem places3 (h0 h1 h2 h : Int) : placesWithHash (#[ent 55 (.int 3 249) h0, ent 56 (.int 2 252) h1, ent 57 (.int 2 255) h2] : Array DictEntry).size (fun i => (#[ent 55 (.int 3 249) h0, ent 56 (.int 2 252) h1, ent 57 (.int 2 255) h2] : Array DictEntry)[i]?.map (·.hash)) h = pl [h0 == h, h1 == h, h2 == h] := by kernel_rfl
theorem load4 (h0 h1 h2 h3 : Int) (tk : Nat) (K : Array DictEntry → Sem Fin) (lv : List Value → List Value) : segGoT treeTable pR (fol b w) 11 ann0 1 1 (S w.params os [ent 55 (.int 3 249) h0, ent 56 (.int 2 252) h1, ent 57 (.int 2 255) h2, ent 58 (.int 3 258) h3] tk) ⟨(dictEntries 54 none).wrap K H id lv, cE, ds.dpos, B0⟩ =
    some (S w.params os [ent 55 (.int 3 249) h0, ent 56 (.int 2 252) h1, ent 57 (.int 2 255) h2, ent 58 (.int 3 258) h3] tk, ⟨K #[ent 55 (.int 3 249) h0, ent 56 (.int 2 252) h1, ent 57 (.int 2 255) h2, ent 58 (.int 3 258) h3], cE, ds.dpos, B0⟩) := by kernel_rfl
theorem upd4 (h0 h1 h2 h3 : Int) (h4 : Int) (tk : Nat) (G : Nat → Sem Unit) (K : Unit → Sem Fin) (lv : List Value → List Value) : segGoT treeTable pR (fol b w) 11 ann0 1 4 (S w.params os [ent 55 (.int 3 249) h0, ent 56 (.int 2 252) h1, ent 57 (.int 2 255) h2, ent 58 (.int 3 258) h3] tk) ⟨(gOf h4 59 (.int 3 261) G none).wrap K H id lv, cE, ds.dpos, B0⟩ =
    some (S w.params os [ent 55 (.int 3 249) h0, ent 56 (.int 2 252) h1, ent 57 (.int 2 255) h2, ent 58 (.int 3 258) h3, ent 59 (.int 3 261) h4] tk, ⟨K (), cE, ds.dpos, B0⟩) := by kernel_rfl
theorem findB4 (h0 h1 h2 h3 : Int) (b0 b1 b2 b3 : Bool) (h : Int) (tk : Nat) (G : Nat → Sem Unit) (K : Unit → Sem Fin) (lv lv' : List Value → List Value) : tillT treeTable pR (fol b w) 11 ann0 "dict.set.new-key-at-the-end" 500 (S w.params os [ent 55 (.int 3 249) h0, ent 56 (.int 2 252) h1, ent 57 (.int 2 255) h2, ent 58 (.int 3 258) h3] tk)
    ⟨(behind 54 59 h #[ent 55 (.int 3 249) h0, ent 56 (.int 2 252) h1, ent 57 (.int 2 255) h2, ent 58 (.int 3 258) h3] (pl [b0, b1, b2, b3])).wrap (fun r => (gOf h 59 (.int 3 261) G r).wrap K H id lv') H id lv, cE, ds.dpos, B0⟩ =
    some (S w.params os [ent 55 (.int 3 249) h0, ent 56 (.int 2 252) h1, ent 57 (.int 2 255) h2, ent 58 (.int 3 258) h3] tk, ⟨(gOf h 59 (.int 3 261) G none).wrap K H id lv', cE, ds.dpos, B0⟩) := by cases b <;> cases b0 <;> cases b1 <;> cases b2 <;> cases b3 <;> kernel_rfl
theorem places4 (h0 h1 h2 h3 h : Int) : placesWithHash (#[ent 55 (.int 3 249) h0, ent 56 (.int 2 252) h1, ent 57 (.int 2 255) h2, ent 58 (.int 3 258) h3] : Array DictEntry).size (fun i => (#[ent 55 (.int 3 249) h0, ent 56 (.int 2 252) h1, ent 57 (.int 2 255) h2, ent 58 (.int 3 258) h3] : Array DictEntry)[i]?.map (·.hash)) h = pl [h0 == h, h1 == h, h2 == h, h3 == h] := by kernel_rfl
theorem load5 (h0 h1 h2 h3 h4 : Int) (tk : Nat) (K : Array DictEntry → Sem Fin) (lv : List Value → List Value) : segGoT treeTable pR (fol b w) 11 ann0 1 1 (S w.params os [ent 55 (.int 3 249) h0, ent 56 (.int 2 252) h1, ent 57 (.int 2 255) h2, ent 58 (.int 3 258) h3, ent 59 (.int 3 261) h4] tk) ⟨(dictEntries 54 none).wrap K H id lv, cE, ds.dpos, B0⟩ =
    some (S w.params os [ent 55 (.int 3 249) h0, ent 56 (.int 2 252) h1, ent 57 (.int 2 255) h2, ent 58 (.int 3 258) h3, ent 59 (.int 3 261) h4] tk, ⟨K #[ent 55 (.int 3 249) h0, ent 56 (.int 2 252) h1, ent 57 (.int 2 255) h2, ent 58 (.int 3 258) h3, ent 59 (.int 3 261) h4], cE, ds.dpos, B0⟩) := by kernel_rfl
theorem upd5 (h0 h1 h2 h3 h4 : Int) (h5 : Int) (tk : Nat) (G : Nat → Sem Unit) (K : Unit → Sem Fin) (lv : List Value → List Value) : segGoT treeTable pR (fol b w) 11 ann0 1 4 (S w.params os [ent 55 (.int 3 249) h0, ent 56 (.int 2 252) h1, ent 57 (.int 2 255) h2, ent 58 (.int 3 258) h3, ent 59 (.int 3 261) h4] tk) ⟨(gOf h5 60 (.int 2 264) G none).wrap K H id lv, cE, ds.dpos, B0⟩ =
    some (S w.params os [ent 55 (.int 3 249) h0, ent 56 (.int 2 252) h1, ent 57 (.int 2 255) h2, ent 58 (.int 3 258) h3, ent 59 (.int 3 261) h4, ent 60 (.int 2 264) h5] tk, ⟨K (), cE, ds.dpos, B0⟩) := by kernel_rfl
theorem findB5 (h0 h1 h2 h3 h4 : Int) (b0 b1 b2 b3 b4 : Bool) (h : Int) (tk : Nat) (G : Nat → Sem Unit) (K : Unit → Sem Fin) (lv lv' : List Value → List Value) : tillT treeTable pR (fol b w) 11 ann0 "dict.set.new-key-at-the-end" 500 (S w.params os [ent 55 (.int 3 249) h0, ent 56 (.int 2 252) h1, ent 57 (.int 2 255) h2, ent 58 (.int 3 258) h3, ent 59 (.int 3 261) h4] tk)
    ⟨(behind 54 60 h #[ent 55 (.int 3 249) h0, ent 56 (.int 2 252) h1, ent 57 (.int 2 255) h2, ent 58 (.int 3 258) h3, ent 59 (.int 3 261) h4] (pl [b0, b1, b2, b3, b4])).wrap (fun r => (gOf h 60 (.int 2 264) G r).wrap K H id lv') H id lv, cE, ds.dpos, B0⟩ =
    some (S w.params os [ent 55 (.int 3 249) h0, ent 56 (.int 2 252) h1, ent 57 (.int 2 255) h2, ent 58 (.int 3 258) h3, ent 59 (.int 3 261) h4] tk, ⟨(gOf h 60 (.int 2 264) G none).wrap K H id lv', cE, ds.dpos, B0⟩) := by cases b <;> cases b0 <;> cases b1 <;> cases b2 <;> cases b3 <;> cases b4 <;> kernel_rfl
theorem places5 (h0 h1 h2 h3 h4 h : Int) : placesWithHash (#[ent 55 (.int 3 249) h0, ent 56 (.int 2 252) h1, ent 57 (.int 2 255) h2, ent 58 (.int 3 258) h3, ent 59 (.int 3 261) h4] : Array DictEntry).size (fun i => (#[ent 55 (.int 3 249) h0, ent 56 (.int 2 252) h1, ent 57 (.int 2 255) h2, ent 58 (.int 3 258) h3, ent 59 (.int 3 261) h4] : Array DictEntry)[i]?.map (·.hash)) h = pl [h0 == h, h1 == h, h2 == h, h3 == h, h4 == h] := by kernel_rfl
end
def parts (P : Params) : List DictEntry := [ent 55 (.int 3 249) (hP P "row" "put"), ent 56 (.int 2 252) (hP P "row" "take"), ent 57 (.int 2 255) (hP P "row" "look"), ent 58 (.int 3 258) (hP P "number" "set"), ent 59 (.int 3 261) (hP P "number" "add"), ent 60 (.int 2 264) (hP P "number" "look")]
noncomputable def SB (w : World) (os : OsState) : SharedT := { S w.params os (parts w.params) 284 with tree := ((tree1 w.params).set 54 (fun _ => dictAt (parts w.params))).set 3 (Obj.mapDictKeys (·.push ⟨PyData.keyHash w.params (PySem.Str.ofString "PARTS"), .str (PySem.Str.ofString "PARTS") 283, .ref 54⟩)) }
theorem S_fol (b : Bool) (w : World) (os : OsState) (es : List DictEntry) (tk : Nat) : S (fol b w).params os es tk = S w.params os es tk := by kernel_rfl
theorem last (b : Bool) (w : World) (os : OsState) (hs : List DictEntry) (e : hs = parts w.params) : segRunT treeTable pR (fol b w) 11 ann0 1 8 (S w.params os hs 283) ⟨(standAt ds.posN >>= fun _ => bindName sh.env_1 ds.x (.ref 54) >>= fun _ => pure Flow.next).wrap doneF deadEnd id id, cE, ds.dpos, B0⟩ =
    some (.next, { S w.params os hs 284 with tree := ((tree1 w.params).set 54 (fun _ => dictAt hs)).set 3 (Obj.mapDictKeys (·.push ⟨PyData.keyHash w.params (PySem.Str.ofString "PARTS"), .str (PySem.Str.ofString "PARTS") 283, .ref 54⟩)) }, cE, ds.posN) := by kernel_rfl
theorem mid (b : Bool) (w : World) (os : OsState) : segRun treeTable pR (fol b w) 11 ann0 1 (39 + (530 + (530 + (530 + (530 + (530 + (530 + 8))))))) (SA (fol b w) os).abs (pieceOf (stmtAt 6) sh.env_1 cE posK B0) = some (.next, (SB (fol b w) os).abs, cE, ds.posN) := by
  rw [st6]
  show segRun treeTable pR (fol b w) 11 ann0 1 _ (SA (fol b w) os).abs ⟨(exec (.Assign [.Name ds.x ds.posN] (.Dict ds.ks ds.vs ds.dpos) ds.pos) sh.env_1).wrap doneF deadEnd id id, cE, posK, B0⟩ = _
  rw [stmt_form sh.env_1 ds.x ds.posN ds.dpos ds.pos ds.ks ds.vs pairs noSwap disp (by rw [pairs_len]; decide) doneF deadEnd]
  refine goT_seg (go1 (fol b w) os (fun d _ => (standAt ds.posN >>= fun _ => bindName sh.env_1 ds.x (.ref d) >>= fun _ => pure Flow.next).wrap doneF deadEnd id id) deadEnd) ?_ rfl
  rw [S_fol]
  unfold vs0
  rw [setAll, wrap_bind]
  refine put_run (l := [hsh w.params "row", hsh w.params "put"]) (es := #[]) (s1 := S w.params os [] 268) (s2 := S w.params os [ent 55 (.int 3 249) (hP w.params "row" "put")] 268) rfl (fun K lv => tbH_eq ▸ hash55 Builtin.Tuple.tupleHashOf b w os deadEnd [] 265 K lv) (fun K lv => load0 b w os deadEnd  268 K lv)
    (fun h G K lv lv' => by rw [places0]; exact findB0 b w os deadEnd   h 268 G K lv lv') (fun G K lv => upd0 b w os deadEnd  _ 268 G K lv) ?_
  rw [setAll, wrap_bind]
  refine put_run (l := [hsh w.params "row", hsh w.params "take"]) (es := #[ent 55 (.int 3 249) (hP w.params "row" "put")]) (s1 := S w.params os [ent 55 (.int 3 249) (hP w.params "row" "put")] 271) (s2 := S w.params os [ent 55 (.int 3 249) (hP w.params "row" "put"), ent 56 (.int 2 252) (hP w.params "row" "take")] 271) rfl (fun K lv => tbH_eq ▸ hash56 Builtin.Tuple.tupleHashOf b w os deadEnd [ent 55 (.int 3 249) (hP w.params "row" "put")] 268 K lv) (fun K lv => load1 b w os deadEnd (hP w.params "row" "put") 271 K lv)
    (fun h G K lv lv' => by rw [places1]; exact findB1 b w os deadEnd (hP w.params "row" "put") _ h 271 G K lv lv') (fun G K lv => upd1 b w os deadEnd (hP w.params "row" "put") _ 271 G K lv) ?_
  rw [setAll, wrap_bind]
  refine put_run (l := [hsh w.params "row", hsh w.params "look"]) (es := #[ent 55 (.int 3 249) (hP w.params "row" "put"), ent 56 (.int 2 252) (hP w.params "row" "take")]) (s1 := S w.params os [ent 55 (.int 3 249) (hP w.params "row" "put"), ent 56 (.int 2 252) (hP w.params "row" "take")] 274) (s2 := S w.params os [ent 55 (.int 3 249) (hP w.params "row" "put"), ent 56 (.int 2 252) (hP w.params "row" "take"), ent 57 (.int 2 255) (hP w.params "row" "look")] 274) rfl (fun K lv => tbH_eq ▸ hash57 Builtin.Tuple.tupleHashOf b w os deadEnd [ent 55 (.int 3 249) (hP w.params "row" "put"), ent 56 (.int 2 252) (hP w.params "row" "take")] 271 K lv) (fun K lv => load2 b w os deadEnd (hP w.params "row" "put") (hP w.params "row" "take") 274 K lv)
    (fun h G K lv lv' => by rw [places2]; exact findB2 b w os deadEnd (hP w.params "row" "put") (hP w.params "row" "take") _ _ h 274 G K lv lv') (fun G K lv => upd2 b w os deadEnd (hP w.params "row" "put") (hP w.params "row" "take") _ 274 G K lv) ?_
  rw [setAll, wrap_bind]
  refine put_run (l := [hsh w.params "number", hsh w.params "set"]) (es := #[ent 55 (.int 3 249) (hP w.params "row" "put"), ent 56 (.int 2 252) (hP w.params "row" "take"), ent 57 (.int 2 255) (hP w.params "row" "look")]) (s1 := S w.params os [ent 55 (.int 3 249) (hP w.params "row" "put"), ent 56 (.int 2 252) (hP w.params "row" "take"), ent 57 (.int 2 255) (hP w.params "row" "look")] 277) (s2 := S w.params os [ent 55 (.int 3 249) (hP w.params "row" "put"), ent 56 (.int 2 252) (hP w.params "row" "take"), ent 57 (.int 2 255) (hP w.params "row" "look"), ent 58 (.int 3 258) (hP w.params "number" "set")] 277) rfl (fun K lv => tbH_eq ▸ hash58 Builtin.Tuple.tupleHashOf b w os deadEnd [ent 55 (.int 3 249) (hP w.params "row" "put"), ent 56 (.int 2 252) (hP w.params "row" "take"), ent 57 (.int 2 255) (hP w.params "row" "look")] 274 K lv) (fun K lv => load3 b w os deadEnd (hP w.params "row" "put") (hP w.params "row" "take") (hP w.params "row" "look") 277 K lv)
    (fun h G K lv lv' => by rw [places3]; exact findB3 b w os deadEnd (hP w.params "row" "put") (hP w.params "row" "take") (hP w.params "row" "look") _ _ _ h 277 G K lv lv') (fun G K lv => upd3 b w os deadEnd (hP w.params "row" "put") (hP w.params "row" "take") (hP w.params "row" "look") _ 277 G K lv) ?_
  rw [setAll, wrap_bind]
  refine put_run (l := [hsh w.params "number", hsh w.params "add"]) (es := #[ent 55 (.int 3 249) (hP w.params "row" "put"), ent 56 (.int 2 252) (hP w.params "row" "take"), ent 57 (.int 2 255) (hP w.params "row" "look"), ent 58 (.int 3 258) (hP w.params "number" "set")]) (s1 := S w.params os [ent 55 (.int 3 249) (hP w.params "row" "put"), ent 56 (.int 2 252) (hP w.params "row" "take"), ent 57 (.int 2 255) (hP w.params "row" "look"), ent 58 (.int 3 258) (hP w.params "number" "set")] 280) (s2 := S w.params os [ent 55 (.int 3 249) (hP w.params "row" "put"), ent 56 (.int 2 252) (hP w.params "row" "take"), ent 57 (.int 2 255) (hP w.params "row" "look"), ent 58 (.int 3 258) (hP w.params "number" "set"), ent 59 (.int 3 261) (hP w.params "number" "add")] 280) rfl (fun K lv => tbH_eq ▸ hash59 Builtin.Tuple.tupleHashOf b w os deadEnd [ent 55 (.int 3 249) (hP w.params "row" "put"), ent 56 (.int 2 252) (hP w.params "row" "take"), ent 57 (.int 2 255) (hP w.params "row" "look"), ent 58 (.int 3 258) (hP w.params "number" "set")] 277 K lv) (fun K lv => load4 b w os deadEnd (hP w.params "row" "put") (hP w.params "row" "take") (hP w.params "row" "look") (hP w.params "number" "set") 280 K lv)
    (fun h G K lv lv' => by rw [places4]; exact findB4 b w os deadEnd (hP w.params "row" "put") (hP w.params "row" "take") (hP w.params "row" "look") (hP w.params "number" "set") _ _ _ _ h 280 G K lv lv') (fun G K lv => upd4 b w os deadEnd (hP w.params "row" "put") (hP w.params "row" "take") (hP w.params "row" "look") (hP w.params "number" "set") _ 280 G K lv) ?_
  rw [setAll, wrap_bind]
  refine put_run (l := [hsh w.params "number", hsh w.params "look"]) (es := #[ent 55 (.int 3 249) (hP w.params "row" "put"), ent 56 (.int 2 252) (hP w.params "row" "take"), ent 57 (.int 2 255) (hP w.params "row" "look"), ent 58 (.int 3 258) (hP w.params "number" "set"), ent 59 (.int 3 261) (hP w.params "number" "add")]) (s1 := S w.params os [ent 55 (.int 3 249) (hP w.params "row" "put"), ent 56 (.int 2 252) (hP w.params "row" "take"), ent 57 (.int 2 255) (hP w.params "row" "look"), ent 58 (.int 3 258) (hP w.params "number" "set"), ent 59 (.int 3 261) (hP w.params "number" "add")] 283) (s2 := S w.params os [ent 55 (.int 3 249) (hP w.params "row" "put"), ent 56 (.int 2 252) (hP w.params "row" "take"), ent 57 (.int 2 255) (hP w.params "row" "look"), ent 58 (.int 3 258) (hP w.params "number" "set"), ent 59 (.int 3 261) (hP w.params "number" "add"), ent 60 (.int 2 264) (hP w.params "number" "look")] 283) rfl (fun K lv => tbH_eq ▸ hash60 Builtin.Tuple.tupleHashOf b w os deadEnd [ent 55 (.int 3 249) (hP w.params "row" "put"), ent 56 (.int 2 252) (hP w.params "row" "take"), ent 57 (.int 2 255) (hP w.params "row" "look"), ent 58 (.int 3 258) (hP w.params "number" "set"), ent 59 (.int 3 261) (hP w.params "number" "add")] 280 K lv) (fun K lv => load5 b w os deadEnd (hP w.params "row" "put") (hP w.params "row" "take") (hP w.params "row" "look") (hP w.params "number" "set") (hP w.params "number" "add") 283 K lv)
    (fun h G K lv lv' => by rw [places5]; exact findB5 b w os deadEnd (hP w.params "row" "put") (hP w.params "row" "take") (hP w.params "row" "look") (hP w.params "number" "set") (hP w.params "number" "add") _ _ _ _ _ h 283 G K lv lv') (fun G K lv => upd5 b w os deadEnd (hP w.params "row" "put") (hP w.params "row" "take") (hP w.params "row" "look") (hP w.params "number" "set") (hP w.params "number" "add") _ 283 G K lv) ?_
  exact segRun_of (last b w os _ rfl)
theorem mid_all (w : World) (os : OsState) : segRun treeTable pR w 11 ann0 1 3227 (SA w os).abs (pieceOf (stmtAt 6) sh.env_1 cE posK B0) = some (.next, (SB w os).abs, cE, ds.posN) :=
  byRow2 "special-get-raises" (P := fun w => segRun treeTable pR w 11 ann0 1 3227 (SA w os).abs (pieceOf (stmtAt 6) sh.env_1 cE posK B0) = some (.next, (SB w os).abs, cE, ds.posN)) (fun w => mid false w os) (fun w => mid true w os) w
noncomputable def KF (P : Params) : Frag := [(2, PySem.W.boot_o_2 P), (3, shZ.o_280 P), (15, shZ.o_7 P), (22, shZ.o_14 P), (23, shZ.o_15 P), (24, shZ.o_39 P), (25, shZ.o_17 P), (28, shZ.o_24 P), (35, shZ.o_31 P), (36, shZ.o_32 P), (37, shZ.o_33 P), (40, shZ.o_40 P), (47, shZ.o_47 P), (48, shZ.o_48 P), (49, shZ.o_49 P), (52, shZ.o_52 P), (53, shZ.o_53 P), (54, dictAt (parts P)), (55, tup "row" "put" 247), (56, tup "row" "take" 250), (57, tup "row" "look" 253), (58, tup "number" "set" 256), (59, tup "number" "add" 259), (60, tup "number" "look" 262), (61, shZ.o_66 P), (63, shZ.o_68 P), (64, shZ.o_69 P), (66, shZ.o_71 P), (67, shZ.o_72 P), (68, shZ.o_73 P), (70, shZ.o_75 P), (71, shZ.o_76 P), (73, shZ.o_78 P), (74, shZ.o_79 P), (75, shZ.o_80 P), (77, shZ.o_82 P), (78, shZ.o_83 P), (80, shZ.o_85 P), (81, shZ.o_86 P), (82, shZ.o_87 P), (84, shZ.o_89 P), (85, shZ.o_90 P), (87, shZ.o_92 P), (88, shZ.o_93 P), (89, shZ.o_94 P), (91, shZ.o_96 P), (92, shZ.o_97 P), (94, shZ.o_99 P), (95, shZ.o_100 P), (96, shZ.o_101 P), (98, shZ.o_103 P), (99, shZ.o_104 P), (101, shZ.o_106 P), (102, shZ.o_107 P), (103, shZ.o_108 P), (105, shZ.o_110 P), (106, shZ.o_111 P), (108, shZ.o_113 P), (109, shZ.o_114 P), (110, shZ.o_115 P), (112, shZ.o_117 P), (113, shZ.o_118 P), (115, shZ.o_120 P), (116, shZ.o_121 P), (117, shZ.o_127 P), (119, shZ.o_129 P), (120, shZ.o_130 P), (122, shZ.o_132 P), (123, shZ.o_133 P), (124, shZ.o_134 P), (126, shZ.o_136 P), (127, shZ.o_137 P), (129, shZ.o_139 P), (130, shZ.o_140 P), (131, shZ.o_141 P), (133, shZ.o_143 P), (134, shZ.o_144 P), (136, shZ.o_146 P), (137, shZ.o_147 P), (138, shZ.o_148 P), (140, shZ.o_150 P), (141, shZ.o_151 P), (143, shZ.o_153 P), (144, shZ.o_154 P), (145, shZ.o_155 P), (148, shZ.o_158 P), (149, shZ.o_159 P), (150, shZ.o_160 P), (152, shZ.o_162 P), (153, shZ.o_163 P), (155, shZ.o_165 P), (156, shZ.o_166 P), (157, shZ.o_167 P), (159, shZ.o_169 P), (160, shZ.o_170 P), (162, shZ.o_172 P), (163, shZ.o_173 P), (164, shZ.o_174 P), (167, shZ.o_177 P), (168, shZ.o_178 P), (169, shZ.o_179 P), (172, shZ.o_182 P), (173, shZ.o_183 P), (174, shZ.o_184 P), (176, shZ.o_186 P), (177, shZ.o_187 P), (179, shZ.o_189 P), (180, shZ.o_190 P), (181, shZ.o_191 P), (184, shZ.o_194 P), (185, shZ.o_195 P), (186, shZ.o_196 P), (189, shZ.o_199 P), (190, shZ.o_200 P), (191, shZ.o_204 P), (193, shZ.o_206 P), (194, shZ.o_207 P), (196, shZ.o_209 P), (197, shZ.o_210 P), (198, shZ.o_211 P), (200, shZ.o_213 P), (201, shZ.o_214 P), (203, shZ.o_216 P), (204, shZ.o_217 P), (205, shZ.o_218 P), (207, shZ.o_220 P), (208, shZ.o_221 P), (210, shZ.o_223 P), (211, shZ.o_224 P), (212, shZ.o_225 P), (214, shZ.o_227 P), (215, shZ.o_228 P), (217, shZ.o_230 P), (218, shZ.o_231 P), (219, shZ.o_232 P), (222, shZ.o_235 P), (223, shZ.o_236 P), (224, shZ.o_237 P), (226, shZ.o_239 P), (227, shZ.o_240 P), (229, shZ.o_242 P), (230, shZ.o_243 P), (231, shZ.o_244 P), (233, shZ.o_246 P), (234, shZ.o_247 P), (236, shZ.o_249 P), (237, shZ.o_250 P), (238, shZ.o_251 P), (240, shZ.o_253 P), (241, shZ.o_254 P), (243, shZ.o_256 P), (244, shZ.o_257 P), (245, shZ.o_258 P), (247, shZ.o_260 P), (248, shZ.o_261 P), (250, shZ.o_263 P), (251, shZ.o_264 P), (252, shZ.o_265 P), (254, shZ.o_267 P), (255, shZ.o_268 P), (257, shZ.o_270 P), (258, shZ.o_271 P), (259, shZ.o_272 P), (261, shZ.o_274 P), (262, shZ.o_275 P), (264, shZ.o_277 P), (265, shZ.o_278 P), (266, shZ.o_282 P), (268, shZ.o_284 P), (269, shZ.o_285 P), (271, shZ.o_287 P), (272, shZ.o_288 P), (273, shZ.o_289 P), (275, shZ.o_291 P), (276, shZ.o_292 P), (278, shZ.o_294 P), (279, shZ.o_295 P), (280, shZ.o_296 P), (282, shZ.o_298 P), (283, shZ.o_299 P), (285, shZ.o_301 P), (286, shZ.o_302 P), (287, shZ.o_303 P), (289, shZ.o_305 P), (290, shZ.o_306 P), (292, shZ.o_308 P), (293, shZ.o_309 P)]
def as0 : List Addr := [2, 3, 15, 22, 23, 24, 25, 28, 35, 36, 37, 40, 47, 48, 49, 52, 53, 54, 55, 56, 57, 58, 59, 60, 61, 63, 64, 66, 67, 68, 70, 71, 73, 74, 75, 77, 78, 80, 81, 82, 84, 85, 87, 88, 89, 91, 92, 94, 95, 96, 98, 99, 101, 102, 103, 105, 106, 108, 109, 110, 112, 113, 115, 116, 117, 119, 120, 122, 123, 124, 126, 127, 129, 130, 131, 133, 134, 136, 137, 138, 140, 141, 143, 144, 145, 148, 149, 150, 152, 153, 155, 156, 157, 159, 160, 162, 163, 164, 167, 168, 169, 172, 173, 174, 176, 177, 179, 180, 181, 184, 185, 186, 189, 190, 191, 193, 194, 196, 197, 198, 200, 201, 203, 204, 205, 207, 208, 210, 211, 212, 214, 215, 217, 218, 219, 222, 223, 224, 226, 227, 229, 230, 231, 233, 234, 236, 237, 238, 240, 241, 243, 244, 245, 247, 248, 250, 251, 252, 254, 255, 257, 258, 259, 261, 262, 264, 265, 266, 268, 269, 271, 272, 273, 275, 276, 278, 279, 280, 282, 283, 285, 286, 287, 289, 290, 292, 293]
noncomputable def q0 : Program := { PySem.Challenge.rw_callorder_k06_whole_kept_by_a_lock.prog with main := { PySem.Challenge.rw_callorder_k06_whole_kept_by_a_lock.prog.main with body := [stmtAt 1, stmtAt 2, stmtAt 3, stmtAt 5, stmtAt 6, stmtAt 7, stmtAt 8, stmtAt 9, stmtAt 10, stmtAt 11, stmtAt 12, stmtAt 13, stmtAt 14, stmtAt 15, stmtAt 16, stmtAt 18, stmtAt 19, stmtAt 20, stmtAt 22, stmtAt 23, stmtAt 24, stmtAt 25, stmtAt 26, stmtAt 28, stmtAt 29, stmtAt 30, stmtAt 31, stmtAt 32, stmtAt 33, stmtAt 34, stmtAt 35, stmtAt 37, stmtAt 38, stmtAt 39, stmtAt 40, stmtAt 41, stmtAt 42, stmtAt 43, stmtAt 44, stmtAt 45] } }
abbrev loose0 : List PySem.Str := [PySem.Str.ofString "STARTS", PySem.Str.ofString "PARTS"]
noncomputable def restS : List Stmt := (behindTheImports pR).drop 7
theorem body_eq : behindTheImports pR = sh.sts_4 ++ (sh.sts_21 ++ (sh.sts_37 ++ (stmtAt 6 :: restS))) := by kernel_rfl
theorem opens : ∀ w : World, (fencedOpening treeTable pR w 20000).map (fun s => (s.heap, s.gens, s.drawn, s.toks)) = some (boot_heap w.params, Array.mk [], boot_drawn, boot_toks) := boot_open (p := pR) (N := 20000) (by kernel_rfl) (by decide) (fun s => by kernel_rfl)
theorem pre0 (w : World) (os : OsState) : topGo treeTable pR w 11 ann0 12 ⟨boot_heap w.params, Array.mk [], boot_drawn, boot_toks, os⟩ (topStub pR) =
    some (({ tree := sh.tree_4 w.params, n := 15, life := { }, gens := { toList := [] }, drawn := { }, toks := 187, os := os } : SharedT).abs, ⟨denote treeTable cE, cE, posB, B0⟩) := by kernel_rfl
theorem block0 (w : World) (os : OsState) : segRun treeTable pR w 11 ann0 1 1 ({ tree := sh.tree_4 w.params, n := 15, life := { }, gens := { toList := [] }, drawn := { }, toks := 187, os := os } : SharedT).abs (blockOf (behindTheImports pR) sh.env_1 cE posB B0) =
    some (.next, ({ tree := sh.tree_4 w.params, n := 15, life := { }, gens := { toList := [] }, drawn := { }, toks := 187, os := os } : SharedT).abs, cE, posB) := by kernel_rfl
theorem run0 (w : World) (os : OsState) (N' : Nat) (r : Shared) (h : topRun treeTable pR w 11 ann0 N' (SB w os).abs (restOf restS sh.env_1 cE ds.posN B0) = some r) :
    topRun treeTable pR w 11 ann0 (12 + (1 + (196 + (214 + (264 + 3227)))) + N') ⟨boot_heap w.params, Array.mk [], boot_drawn, boot_toks, os⟩ (topStub pR) = some r := by
  have h1 := piece_cons (mid_all w os) h
  have h2 := sh.chain pR (behindTheImports pR) w os (stmtAt 6 :: restS) (3227 + N') r h1
  have h3 := piece_block (n := 1) (block0 w os) (b := behindTheImports pR) (r := r) (N := (Nat.add 196 (Nat.add 214 (Nat.add 264 (3227 + N'))))) (by rw [← body_eq] at h2; exact h2)
  have h4 := go_top (pre0 w os) h3
  rw [show 12 + (1 + (196 + (214 + (264 + 3227)))) + N' = 12 + (1 + (Nat.add 196 (Nat.add 214 (Nat.add 264 (3227 + N'))))) from by show _ = 12 + (1 + (196 + (214 + (264 + (3227 + N'))))); omega]
  exact h4
theorem fin0 (w : World) (s : Shared) : topRun treeTable pR w 11 ann0 2 s ⟨doneF .next, cE, posZ, B0⟩ = some s := by
  obtain ⟨h, g, d, k, o⟩ := s; kernel_rfl
noncomputable abbrev hk : Hook := kHook KF as0 (fun _ => by kernel_rfl)
noncomputable abbrev Xt0 : Shared → Bool := fun s => xlAt q0 [] s && recOk (RowW.records (OpenRow.toRowW PySem.Challenge.rw_callorder_k06_whole_kept_by_a_lock.row)) s
theorem suf0 (w : World) (os : OsState) : (segRunT treeTable pR w 11 ann0 1 1182 (SB w os) (piecesOf restS sh.env_1 cE ds.posN [topFrame pos0])).map (fun x => (x.1, x.2.2,
        (staticsOk (importedModules pR.main.body) (boot_heap w.params) x.2.1.abs.heap && namesBound pR x.2.1.abs.heap && gensDone x.2.1.abs && laidKept (boot_heap w.params) x.2.1.abs.heap),
        openSeen q0 loose0 (importedModules pR.main.body) Xt0 true x.2.1.abs, hk.obs x.2.1.abs)) =
      some (.next, (cE, posZ), true, openGood q0 loose0, hk.val w) := by kernel_rfl
theorem left0 : LeftO pR q0 loose0 Xt0 (Hook.obs hk) (Hook.val hk) 20000 := left_mid opens (fun w => by kernel_rfl) run0 fin0 suf0 (by decide)
end HD

set_option Elab.async false
set_option linter.all false
set_option maxRecDepth 100000
set_option maxHeartbeats 4000000
namespace My
open PySem L2
open PySem.Spec (same_self)
-- sc__law_keeps_time sc__law_holds sc_law
-- sc_ways_on sc_search_order sc_order_of sc__law_are_numbers sc__law_holds sc_law
def top (i : Nat) : Stmt := PySem.Challenge.pw_callorder_k06_whole_kept_by_a_lock.main.body.getD i (.Pass ⟨0, 0, 0, 0⟩)
abbrev s_check_kind : Stmt := top 7
abbrev nm_check_kind : List Str := ["kind"]
theorem sc_check_kind : FnScope nm_check_kind ["kind"] (defScope s_check_kind) := ⟨rfl, rfl, rfl, by decide +kernel, rfl, by decide +kernel, by decide +kernel⟩
abbrev s_start : Stmt := top 8
abbrev nm_start : List Str := ["kind"]
theorem sc_start : FnScope nm_start ["kind"] (defScope s_start) := ⟨rfl, rfl, rfl, by decide +kernel, rfl, by decide +kernel, by decide +kernel⟩
abbrev s_is_whole_number : Stmt := top 9
abbrev nm_is_whole_number : List Str := ["value"]
theorem sc_is_whole_number : FnScope nm_is_whole_number ["value"] (defScope s_is_whole_number) := ⟨rfl, rfl, rfl, by decide +kernel, rfl, by decide +kernel, by decide +kernel⟩
abbrev s_has_parts : Stmt := top 10
abbrev nm_has_parts : List Str := ["deed", "parts"]
theorem sc_has_parts : FnScope nm_has_parts ["deed", "parts"] (defScope s_has_parts) := ⟨rfl, rfl, rfl, by decide +kernel, rfl, by decide +kernel, by decide +kernel⟩
abbrev s_can_do : Stmt := top 11
abbrev nm_can_do : List Str := ["kind", "deed", "key"]
theorem sc_can_do : FnScope nm_can_do ["kind", "deed"] (defScope s_can_do) := ⟨rfl, rfl, rfl, by decide +kernel, rfl, by decide +kernel, by decide +kernel⟩
abbrev s_check_deed : Stmt := top 12
abbrev nm_check_deed : List Str := ["kind", "deed", "word"]
theorem sc_check_deed : FnScope nm_check_deed ["kind", "deed"] (defScope s_check_deed) := ⟨rfl, rfl, rfl, by decide +kernel, rfl, by decide +kernel, by decide +kernel⟩
abbrev s_do_row : Stmt := top 13
abbrev nm_do_row : List Str := ["row", "deed", "first"]
theorem sc_do_row : FnScope nm_do_row ["row", "deed"] (defScope s_do_row) := ⟨rfl, rfl, rfl, by decide +kernel, rfl, by decide +kernel, by decide +kernel⟩
abbrev s_do_number : Stmt := top 14
abbrev nm_do_number : List Str := ["number", "deed"]
theorem sc_do_number : FnScope nm_do_number ["number", "deed"] (defScope s_do_number) := ⟨rfl, rfl, rfl, by decide +kernel, rfl, by decide +kernel, by decide +kernel⟩
abbrev s_do_deed : Stmt := top 15
abbrev nm_do_deed : List Str := ["kind", "thing", "deed"]
theorem sc_do_deed : FnScope nm_do_deed ["kind", "thing", "deed"] (defScope s_do_deed) := ⟨rfl, rfl, rfl, by decide +kernel, rfl, by decide +kernel, by decide +kernel⟩
abbrev s_answers : Stmt := top 16
abbrev nm_answers : List Str := ["kind", "deeds", "thing", "given", "deed", "done"]
theorem sc_answers : FnScope nm_answers ["kind", "deeds"] (defScope s_answers) := ⟨rfl, rfl, rfl, by decide +kernel, rfl, by decide +kernel, by decide +kernel⟩
abbrev s_check_times : Stmt := top 18
abbrev nm_check_times : List Str := ["call"]
theorem sc_check_times : FnScope nm_check_times ["call"] (defScope s_check_times) := ⟨rfl, rfl, rfl, by decide +kernel, rfl, by decide +kernel, by decide +kernel⟩
abbrev s_ahead : Stmt := top 19
abbrev nm_ahead : List Str := ["one", "other"]
theorem sc_ahead : FnScope nm_ahead ["one", "other"] (defScope s_ahead) := ⟨rfl, rfl, rfl, by decide +kernel, rfl, by decide +kernel, by decide +kernel⟩
abbrev s_free_calls : Stmt := top 20
abbrev nm_free_calls : List Str := ["calls", "gone", "call", "left", "first_end"]
theorem sc_free_calls : FnScope nm_free_calls ["calls", "gone"] (defScope s_free_calls) := ⟨rfl, rfl, rfl, by decide +kernel, rfl, by decide +kernel, by decide +kernel⟩
abbrev s_check_calls : Stmt := top 22
abbrev nm_check_calls : List Str := ["kind", "calls", "call"]
theorem sc_check_calls : FnScope nm_check_calls ["kind", "calls"] (defScope s_check_calls) := ⟨rfl, rfl, rfl, by decide +kernel, rfl, by decide +kernel, by decide +kernel⟩
abbrev s_has_each_once : Stmt := top 23
abbrev nm_has_each_once : List Str := ["calls", "order"]
theorem sc_has_each_once : FnScope nm_has_each_once ["calls", "order"] (defScope s_has_each_once) := ⟨rfl, rfl, rfl, by decide +kernel, rfl, by decide +kernel, by decide +kernel⟩
abbrev s_keeps_time : Stmt := top 24
abbrev nm_keeps_time : List Str := ["calls", "order", "place", "number"]
theorem sc_keeps_time : FnScope nm_keeps_time ["calls", "order"] (defScope s_keeps_time) := ⟨rfl, rfl, rfl, by decide +kernel, rfl, by decide +kernel, by decide +kernel⟩
abbrev s_gives_the_answers : Stmt := top 25
abbrev nm_gives_the_answers : List Str := ["kind", "calls", "order"]
theorem sc_gives_the_answers : FnScope nm_gives_the_answers ["kind", "calls", "order"] (defScope s_gives_the_answers) := ⟨rfl, rfl, rfl, by decide +kernel, rfl, by decide +kernel, by decide +kernel⟩
abbrev s_is_order : Stmt := top 26
abbrev nm_is_order : List Str := ["kind", "calls", "order"]
theorem sc_is_order : FnScope nm_is_order ["kind", "calls", "order"] (defScope s_is_order) := ⟨rfl, rfl, rfl, by decide +kernel, rfl, by decide +kernel, by decide +kernel⟩
abbrev s_fitting_call : Stmt := top 28
abbrev nm_fitting_call : List Str := ["seeing", "value", "first_end", "fitting"]
theorem sc_fitting_call : FnScope nm_fitting_call ["seeing", "value"] (defScope s_fitting_call) := ⟨rfl, rfl, rfl, by decide +kernel, rfl, by decide +kernel, by decide +kernel⟩
abbrev s_can_come_out : Stmt := top 29
abbrev nm_can_come_out : List Str := ["row", "calls", "order", "left", "seeing", "call", "later", "place", "value"]
theorem sc_can_come_out : FnScope nm_can_come_out ["row", "calls", "order"] (defScope s_can_come_out) := ⟨rfl, rfl, rfl, by decide +kernel, rfl, by decide +kernel, by decide +kernel⟩
abbrev s_ways_on : Stmt := top 30
abbrev nm_ways_on : List Str := ["kind", "calls", "order", "thing", "ways", "number", "done"]
theorem sc_ways_on : FnScope nm_ways_on ["kind", "calls", "order", "thing"] (defScope s_ways_on) := ⟨rfl, rfl, rfl, by decide +kernel, rfl, by decide +kernel, by decide +kernel⟩
abbrev s_search_order : Stmt := top 31
abbrev nm_search_order : List Str := ["kind", "calls", "waiting", "seen", "way", "order", "thing", "key"]
theorem sc_search_order : FnScope nm_search_order ["kind", "calls"] (defScope s_search_order) := ⟨rfl, rfl, rfl, by decide +kernel, rfl, by decide +kernel, by decide +kernel⟩
abbrev s_order_of : Stmt := top 35
abbrev nm_order_of : List Str := ["kind", "calls", "order"]
theorem sc_order_of : FnScope nm_order_of ["kind", "calls"] (defScope s_order_of) := ⟨rfl, rfl, rfl, by decide +kernel, rfl, by decide +kernel, by decide +kernel⟩
abbrev s__law_whole : Stmt := top 37
abbrev nm__law_whole : List Str := ["_law_found"]
theorem sc__law_whole : FnScope nm__law_whole ["_law_found"] (defScope s__law_whole) := ⟨rfl, rfl, rfl, by decide +kernel, rfl, by decide +kernel, by decide +kernel⟩
abbrev s__law_at : Stmt := top 38
abbrev nm__law_at : List Str := ["_law_script", "_law_k"]
theorem sc__law_at : FnScope nm__law_at ["_law_script", "_law_k"] (defScope s__law_at) := ⟨rfl, rfl, rfl, by decide +kernel, rfl, by decide +kernel, by decide +kernel⟩
abbrev s__law_done : Stmt := top 39
abbrev nm__law_done : List Str := ["_law_kind", "_law_state", "_law_deed", "_law_first"]
theorem sc__law_done : FnScope nm__law_done ["_law_kind", "_law_state", "_law_deed"] (defScope s__law_done) := ⟨rfl, rfl, rfl, by decide +kernel, rfl, by decide +kernel, by decide +kernel⟩
abbrev s__law_deed_of : Stmt := top 40
abbrev nm__law_deed_of : List Str := ["_law_cell", "_law_kind", "_law_thing", "_law_wide", "_law_value", "_law_here", "_law_word"]
theorem sc__law_deed_of : FnScope nm__law_deed_of ["_law_cell", "_law_kind", "_law_thing"] (defScope s__law_deed_of) := ⟨rfl, rfl, rfl, by decide +kernel, rfl, by decide +kernel, by decide +kernel⟩
abbrev s__law_kept : Stmt := top 41
abbrev nm__law_kept : List Str := ["_law_cells", "_law_kind", "_law_thing", "_law_wide", "_law_calls", "_law_state", "_law_k", "_law_cell", "_law_begin", "_law_end", "_law_deed", "_law_answer", "_law_made", "_law_spot"]
theorem sc__law_kept : FnScope nm__law_kept ["_law_cells", "_law_kind", "_law_thing", "_law_wide"] (defScope s__law_kept) := ⟨rfl, rfl, rfl, by decide +kernel, rfl, by decide +kernel, by decide +kernel⟩
abbrev s__law_keeps_time : Stmt := top 42
abbrev nm__law_keeps_time : List Str := ["_law_calls", "_law_order", "_law_gone", "_law_k", "_law_j"]
theorem sc__law_keeps_time : FnScope nm__law_keeps_time ["_law_calls", "_law_order"] (defScope s__law_keeps_time) := ⟨rfl, rfl, rfl, by decide +kernel, rfl, by decide +kernel, by decide +kernel⟩
abbrev s__law_holds : Stmt := top 43
abbrev nm__law_holds : List Str := ["_law_kind", "_law_calls", "_law_order", "_law_state", "_law_k", "_law_answer"]
theorem sc__law_holds : FnScope nm__law_holds ["_law_kind", "_law_calls", "_law_order"] (defScope s__law_holds) := ⟨rfl, rfl, rfl, by decide +kernel, rfl, by decide +kernel, by decide +kernel⟩
abbrev s__law_are_numbers : Stmt := top 44
abbrev nm__law_are_numbers : List Str := ["_law_found", "_law_number"]
theorem sc__law_are_numbers : FnScope nm__law_are_numbers ["_law_found"] (defScope s__law_are_numbers) := ⟨rfl, rfl, rfl, by decide +kernel, rfl, by decide +kernel, by decide +kernel⟩
abbrev s_law : Stmt := top 45
abbrev nm_law : List Str := ["_law_script", "_law_kind", "_law_wide", "_law_base", "_law_calls", "_law_begin", "_law_end", "_law_deed", "_law_answer", "_law_found"]
theorem sc_law : FnScope nm_law ["_law_script"] (defScope s_law) := ⟨rfl, rfl, rfl, by decide +kernel, rfl, by decide +kernel, by decide +kernel⟩
structure Bl (mg : Str → Option Value) : Prop where
  any_ : mg "any" = none
  bool_ : mg "bool" = none
  enumerate_ : mg "enumerate" = none
  int_ : mg "int" = none
  isinstance_ : mg "isinstance" = none
  len_ : mg "len" = none
  list_ : mg "list" = none
  min_ : mg "min" = none
  range_ : mg "range" = none
  sorted_ : mg "sorted" = none
  str_ : mg "str" = none
  tuple_ : mg "tuple" = none

def rCatT' (K : PySem.W.Frag) : R2 := fun x y H Q => ∃ a b xs ys, x = .ref a ∧ y = .ref b ∧ SqT K H a xs ∧ SqT K H b ys ∧ ys ≠ [] ∧ xs.length + ys.length ≤ sizeLine ∧ (xs = [] → Q (.ref b) H) ∧ (xs ≠ [] → ∀ p, H p = none → Q (.ref p) (upd H p (.tup (xs ++ ys))))
theorem op_catT' {X : Cx} : OpR X (binaryOp .Add) (rCatT' X.K) := by
  intro pins s σ H x y v u Q I rx ry h
  obtain ⟨a, b, xs, ys, rfl, rfl, ha, hb, hy, hz, q1, q2⟩ := h
  by_cases hx : xs = []
  · cases rx
    cases ry
    obtain ⟨its, r1, p1, _⟩ := I.tuple ha
    obtain ⟨its2, r2, p2, _⟩ := I.tuple hb
    subst hx
    cases r1
    obtain ⟨⟨cls, dd, data, sl⟩, ho, hc, n, hd⟩ := p1
    obtain ⟨⟨cls2, dd2, data2, sl2⟩, ho2, hc2, n2, hd2⟩ := p2
    simp only at hc hd hc2 hd2
    subst hc hd hc2 hd2
    exact concat_meets ⟨_, ho, rfl⟩ ⟨_, ho2, rfl⟩ noFill_tuple_add seq_tuple_add PySem.F.slot_tuple_add PySem.F.entry_tuple_add (PySem.F.args_tuple_add_2 _ _)
      (PyProof.Rows.tuple_addW0 a b _ _ n n2 dd dd2 sl sl2 rfl) ⟨ho, ho2, ⟨.ref b, H, I, rfl, q1 rfl⟩⟩
  · exact op_catT pins s σ H _ _ v u Q I rx ry ⟨a, b, xs, ys, rfl, rfl, ha, hb, hx, hz, fun e => (hy e).elim, fun _ => q2 hx⟩

def partsV : List (List Key × V) := [([.inr "row", .inr "put"], .int 3), ([.inr "row", .inr "take"], .int 2), ([.inr "row", .inr "look"], .int 2), ([.inr "number", .inr "set"], .int 3), ([.inr "number", .inr "add"], .int 3), ([.inr "number", .inr "look"], .int 2)]
structure Tp (P : Program) (w : World) (K : PySem.W.Frag) (mg : Str → Option Value) (st pt r b n : Addr) : Prop where
  mST : mg "STARTS" = some (.ref st)
  mPT : mg "PARTS" = some (.ref pt)
  tST : TopK P w K st [(.inr "row", .ref r), (.inr "number", .int 0)]
  tPT : TopT P w K pt partsV
  em : ∀ H, SqT K H r []
  kN : ExcK K mg "NoKind" n
  kB : ExcK K mg "BadCall" b
  e1 : PySem.W.exmOne K (.ref b) (.ref b) = some true
  e2 : PySem.W.exmOne K (.ref n) (.ref b) = some false
  e3 : PySem.W.exmOne K (.ref n) (.ref n) = some true
def Sh (x : Str) : Prop := x.length ≤ 100 ∧ (reprText x).length ≤ 1000
def Tail (xs : List V) : Prop := xs.length ≤ 3 ∧ (∀ y, xs[0]? = some y → ∃ t, y = .str t) ∧ ∀ y, xs[1]? = some y → ∃ i, y = .int i
def pOf (k wd : Str) : Option V := valV partsV [.inr k, .inr wd]
theorem pOf_some {k wd : Str} {v : V} (h : pOf k wd = some v) : v = .int 2 ∨ v = .int 3 := by
  unfold pOf at h
  have : ∀ p ∈ partsV, p.2 = .int 2 ∨ p.2 = .int 3 := by decide
  unfold valV at h
  obtain ⟨p, hp, rfl⟩ := Option.map_eq_some_iff.mp h
  exact this p (List.mem_of_find?_eq_some hp)

theorem kit_ss {K : PySem.W.Frag} : PySem.W.kitOne K (.type "str") (.type "str") = some true := by rfl

def spWhole : Sp := fun vs H Q _ => ∃ i, vs = [.int i] ∧ Q (.bl true) H
def spCk (n : Addr) : Sp := fun vs H Q E => ∃ k : Str, vs = [.str k] ∧ Sh k ∧ if k = "row" ∨ k = "number" then Q .non H else E (.ref n) none H
def spStart (r : Addr) : Sp := fun vs H Q _ => (vs = [.str "row"] ∧ Q (.ref r) H) ∨ (vs = [.str "number"] ∧ Q (.int 0) H)
def spHp (K : PySem.W.Frag) : Sp := fun vs H Q _ => ∃ a x xs p, vs = [.ref a, .int p] ∧ SqT K H a (x :: xs) ∧ Tail xs ∧ (p = 2 ∨ p = 3) ∧ Q (.bl (decide ((xs.length : Int) + 1 = p))) H
def canB (k wd : Str) (n : Nat) : Bool := match pOf k wd with
  | some (.int p) => decide ((n : Int) + 1 = p)
  | _ => false
def spCan (K : PySem.W.Frag) : Sp := fun vs H Q _ => ∃ k wd a xs, vs = [.str k, .ref a] ∧ SqT K H a (.str wd :: xs) ∧ Tail xs ∧ ∀ H', Same H H' → Q (.bl (canB k wd xs.length)) H'
def spCd (K : PySem.W.Frag) (b n : Addr) : Sp := fun vs H Q E => ∃ k wd a xs, vs = [.str k, .ref a] ∧ SqT K H a (.str wd :: xs) ∧ Tail xs ∧ Sh k ∧ Sh wd ∧ ∀ H', Same H H' →
  if k = "row" ∨ k = "number" then (if canB k wd xs.length then Q .non H' else E (.ref b) none H')
  else E (.ref n) none H'
section
variable {P : Program} {w : World} {K : PySem.W.Frag} {mg : Str → Option Value} {base : Heap} {f : Addr} {fd : FuncData} {st pt r b n : Addr}
theorem ok_is_whole_number (F : Fun K "is_whole_number" "is_whole_number" s_is_whole_number f fd) (B : Bl mg) : FnOk P w K mg base CX0 1 f fd ["value"] spWhole := by
  refine F.ok sc_is_whole_number (fun vs H Q E h => ?_) (fun cdv A outer s H vs Q E hr h => ?_)
  · obtain ⟨i, rfl, _⟩ := h; rfl
  · obtain ⟨i, rfl, k⟩ := h
    refine ⟨_, (pss_one (ps_ret (pe_and (pe_callB call_isi rfl B.isinstance_ PyProof.Rows.boot_isinstance (pa_cons (pv 0) (pa_cons (pe_bltn (v := .ty "int") rfl B.int_ PyProof.Rows.boot_int rfl) pa_nil))) (pe_one (pe_not (pe_callB call_isi rfl B.isinstance_ PyProof.Rows.boot_isinstance (pa_cons (pv 0) (pa_cons (pe_bltn (v := .ty "bool") rfl B.bool_ PyProof.Rows.boot_bool rfl) pa_nil)))))))), ?_⟩
    refine ⟨_, rfl, _, _, .type "int", true, rfl, TyOf.int i, kit_ii, true, rfl, ?_⟩
    exact ⟨_, rfl, _, _, .type "int", false, rfl, TyOf.int i, kit_ib, false, rfl, k⟩
theorem ok_check_kind (F : Fun K "check_kind" "check_kind" s_check_kind f fd) (B : Bl mg) (T : Tp P w K mg st pt r b n) : FnOk P w K mg base (CX1 P w) 1 f fd ["kind"] (spCk n) := by
  refine F.okX sc_check_kind (fun vs H Q E h => ?_) (fun cdv A outer s H vs Q E hr h => ?_)
  · obtain ⟨k, rfl, _⟩ := h; rfl
  · obtain ⟨kd, rfl, ⟨_, hl⟩, hq⟩ := h
    have hu := hu_of hr
    have k_NoKind := T.kN
    refine ⟨_, (pss_one (ps_if (pt_cmp (pc_knotin hu (pv 0) (pe_glob (v := .ref st) rfl T.mST rfl)))
    (pss_one (ps_raise k_NoKind wish_xe rfl rfl (pa_cons (pe_joined (.cons pe_str (.cons (pe_frepr (pv 0)) .nil))) pa_nil) rfl)) pss_nil)), ?_⟩
    refine ⟨_, rfl, st, _, rfl, .inl ⟨_, .inr kd, T.tST, rfl, rfl⟩, _, rfl, ?_⟩
    by_cases h1 : kd = "row"
    · subst h1; rw [if_pos (Or.inl rfl)] at hq; exact hq
    · by_cases h2 : kd = "number"
      · subst h2; rw [if_pos (Or.inr rfl)] at hq; exact hq
      · rw [if_neg (fun h => h.elim h1 h2)] at hq
        rw [valV_neg (fun h => h1 (Sum.inr.inj h).symm), valV_neg (fun h => h2 (Sum.inr.inj h).symm), valV_nil]
        have z0 : (Str.empty ++ Str.ofString "there is no kind ").length = 17 := by rfl
        have z1 : (Str.empty ++ Str.ofString "there is no kind " ++ reprText kd).length ≤ 1017 := by rw [strLen_append, z0]; omega
        exact iteT ⟨_, rfl, by rw [z0]; decide, _, rfl, kd, rfl, Nat.le_trans hl (by decide), _, rfl, Nat.le_trans z1 (by decide), Nat.le_trans z1 (by decide), Nat.le_of_ble_eq_true rfl, hq⟩
theorem ok_start (F : Fun K "start" "start" s_start f fd) (B : Bl mg) (T : Tp P w K mg st pt r b n) (g_check_kind : FnX P w K mg base "check_kind" 1 (spCk n)) : FnOk P w K mg base CX0 2 f fd ["kind"] (spStart r) := by
  refine F.ok sc_start (fun vs H Q E h => ?_) (fun cdv A outer s H vs Q E hr h => ?_)
  · rcases h with ⟨rfl, _⟩ | ⟨rfl, _⟩ <;> rfl
  · have hu := hu_of hr
    refine ⟨_, (pss_cons (ps_expr (pe_fnX g_check_kind passN hr rfl (pa_cons (pv 0) pa_nil)))
    (pss_one (ps_ret (pe_kget hu (pe_glob (v := .ref st) rfl T.mST rfl) (pv 0) (fun _ _ => rfl))))), ?_⟩
    rcases h with ⟨rfl, k⟩ | ⟨rfl, k⟩
    · exact ⟨_, rfl, _, rfl, ⟨by decide, by decide +kernel⟩, _, rfl, st, _, rfl, .inl ⟨_, .inr "row", T.tST, rfl, rfl⟩, k⟩
    · exact ⟨_, rfl, _, rfl, ⟨by decide, by decide +kernel⟩, _, rfl, st, _, rfl, .inl ⟨_, .inr "number", T.tST, rfl, rfl⟩, k⟩
theorem ok_has_parts (F : Fun K "has_parts" "has_parts" s_has_parts f fd) (B : Bl mg) (g_is_whole_number : FnX P w K mg base "is_whole_number" 1 spWhole) : FnOk P w K mg base CX0 2 f fd ["deed", "parts"] (spHp K) := by
  refine F.ok sc_has_parts (fun vs H Q E h => ?_) (fun cdv A outer s H vs Q E hr h => ?_)
  · obtain ⟨a, x, xs, p, rfl, _⟩ := h; rfl
  · obtain ⟨a, x, xs, p, rfl, hS, ⟨hl, h0, h1⟩, hp, k⟩ := h
    refine ⟨_, (pss_cons (ps_if (PW.pt (pw_or (pt_cmpR op_ne (pe_callB call_len_seq rfl B.len_ PySem.boot_len (pa_cons (pv 0) pa_nil)) (pv 1) (nomark _)) (pw_or1 (pt_not (pt_val (pe_callB call_isi rfl B.isinstance_ PyProof.Rows.boot_isinstance (pa_cons (pe_ix ix_tup (pv 0) pe_int (fun _ _ => rfl)) (pa_cons (pe_bltn (v := .ty "str") rfl B.str_ PyProof.Rows.boot_str rfl) pa_nil))))))))
    (pss_one (ps_ret pe_bl)) pss_nil)
    (pss_one (ps_ret (pe_or (pe_cmpR op_eq (pv 1) pe_int (nomark _)) (pe_one (pe_fnX g_is_whole_number passN hr rfl (pa_cons (pe_ix ix_tup (pv 0) pe_int (fun _ _ => rfl)) pa_nil))))))), ?_⟩
    refine ⟨_, rfl, a, x :: xs, rfl, .inr hS, _, rfl, rfl, _, rfl, ?_⟩
    have e : (decide (V.int ((x :: xs).length : Int) = V.int p)) = decide ((xs.length : Int) + 1 = p) := by
      rw [dec_int, List.length_cons]
      by_cases q : (xs.length : Int) + 1 = p
      · rw [decide_eq_true q]; simp; omega
      · rw [decide_eq_false q]; simp; omega
    rw [e]
    by_cases q : (xs.length : Int) + 1 = p
    · rw [decide_eq_true q] at k ⊢
      refine iteF ?_
      match xs, hl, h0, h1, q, hS with
      | [], _, _, _, q, _ => simp at q; omega
      | y :: ys, hl, h0, h1, q, hS =>
        obtain ⟨t, rfl⟩ := h0 y rfl
        refine ⟨_, rfl, a, _, 1, _, rfl, rfl, hS, at1, _, _, .type "str", true, rfl, TyOf.str t, kit_ss, true, rfl, ?_⟩
        refine iteF ?_
        rcases hp with rfl | rfl
        · exact ⟨_, rfl, rfl, true, rfl, iteT k⟩
        · match ys, h1, q, hS with
          | [], _, q, _ => simp at q
          | y :: zs, h1, q, hS =>
            obtain ⟨i, rfl⟩ := h1 y rfl
            exact ⟨_, rfl, rfl, false, rfl, iteF ⟨_, rfl, a, _, 2, _, rfl, rfl, hS, at2, i, rfl, k⟩⟩
    · rw [decide_eq_false q] at k ⊢
      exact iteT (iteT k)
theorem ok_can_do (F : Fun K "can_do" "can_do" s_can_do f fd) (B : Bl mg) (T : Tp P w K mg st pt r b n) (g_has_parts : FnX P w K mg base "has_parts" 2 (spHp K)) :
    FnOk P w K mg base CX0 3 f fd ["kind", "deed"] (spCan K) := by
  refine F.ok sc_can_do (fun vs H Q E h => ?_) (fun cdv A outer s H vs Q E hr h => ?_)
  · obtain ⟨k, wd, a, xs, rfl, _⟩ := h; rfl
  · obtain ⟨kd, wd, a, xs, rfl, hS, hT, hq⟩ := h
    have hu := hu_of hr
    refine ⟨_, (pss_cons (ps_set (i := 2) sc_can_do.nd rfl (by first | exact Or.inl rfl | exact Or.inr rfl) (pe_tup (pa_cons (pv 0) (pa_cons (pe_ix ix_tup (pv 1) pe_int (fun _ _ => rfl)) pa_nil))))
    (pss_one (ps_ret (pe_and (pe_cmp (pc_kin hu (pv 2) (pe_glob (v := .ref pt) rfl T.mPT rfl))) (pe_one (pe_fnX g_has_parts passN hr rfl (pa_cons (pv 1) (pa_cons (pe_kget hu (pe_glob (v := .ref pt) rfl T.mPT rfl) (pv 2) (fun _ _ => rfl)) pa_nil)))))))), ?_⟩
    refine ⟨_, rfl, _, rfl, a, _, 0, _, rfl, rfl, hS, at0, Nat.le_of_ble_eq_true rfl, fun p hp => ?_⟩
    have s1 : Same H (upd H p (.tup [.str kd, .str wd])) := Same.upd hp
    have z := hq _ s1
    refine ⟨_, rfl, pt, _, rfl, .inr ⟨partsV, [.inr kd, .inr wd], p, T.tPT, rfl, upd_same, rfl⟩, _, rfl, ?_⟩
    unfold canB at z
    show if (pOf kd wd).isSome = true then _ else _
    cases e : pOf kd wd with
    | none =>
      rw [e] at z
      exact iteF z
    | some v =>
      rw [e] at z
      obtain ⟨q, rfl, hq2⟩ : ∃ q : Int, v = .int q ∧ (q = 2 ∨ q = 3) := by rcases pOf_some e with rfl | rfl; exact ⟨2, rfl, .inl rfl⟩; exact ⟨3, rfl, .inr rfl⟩
      exact iteT ⟨_, rfl, _, rfl, pt, .int q, rfl, .inr ⟨partsV, [.inr kd, .inr wd], p, T.tPT, rfl, upd_same, e.symm⟩, a, .str wd, xs, q, rfl, Same.tup s1 hS, hT, hq2, z⟩
theorem ok_check_deed (F : Fun K "check_deed" "check_deed" s_check_deed f fd) (B : Bl mg) (T : Tp P w K mg st pt r b n) (g_can_do : FnX P w K mg base "can_do" 3 (spCan K)) (g_check_kind : FnX P w K mg base "check_kind" 1 (spCk n)) :
    FnOk P w K mg base (CX1 P w) 4 f fd ["kind", "deed"] (spCd K b n) := by
  refine F.okX sc_check_deed (fun vs H Q E h => ?_) (fun cdv A outer s H vs Q E hr h => ?_)
  · obtain ⟨k, wd, a, xs, rfl, _⟩ := h; rfl
  · obtain ⟨kd, wd, a, xs, rfl, hS, hT, hk, hw, hq⟩ := h
    have k_BadCall := T.kB
    refine ⟨_, (pss_cons (ps_expr (pe_fnX g_check_kind (passR own_cx) hr rfl (pa_cons (pv 0) pa_nil)))
    (pss_one (ps_if (pt_not (pt_val (pe_fnX g_can_do (passR own_cx) hr rfl (pa_cons (pv 0) (pa_cons (pv 1) pa_nil)))))
    (pss_cons (ps_set (i := 2) sc_check_deed.nd rfl (by first | exact Or.inl rfl | exact Or.inr rfl) (pe_ix ix_tup (pv 1) pe_int (fun _ _ => rfl)))
    (pss_one (ps_raise k_BadCall wish_xe rfl rfl (pa_cons (pe_joined (.cons pe_str (.cons (pe_fplain (pv 0)) (.cons pe_str (.cons (pe_frepr (pv 2)) (.cons pe_str .nil)))))) pa_nil) rfl))) pss_nil))), ?_⟩
    refine ⟨_, rfl, kd, rfl, hk, ?_⟩
    by_cases h1 : kd = "row" ∨ kd = "number"
    · rw [if_pos h1]
      refine ⟨_, rfl, _, rfl, kd, wd, a, xs, rfl, hS, hT, fun H' s1 => ⟨_, rfl, ?_⟩⟩
      have z := hq _ s1
      rw [if_pos h1] at z
      cases e : canB kd wd xs.length with
      | true =>
        rw [e] at z
        exact iteF z
      | false =>
        rw [e] at z
        have z1 : (Str.empty ++ Str.ofString "a ").length = 2 := rfl
        have z2 : (Str.empty ++ Str.ofString "a " ++ kd).length ≤ 102 := by rw [strLen_append, z1]; have := hk.1; omega
        have z3 : (Str.empty ++ Str.ofString "a " ++ kd ++ Str.ofString " has no deed ").length ≤ 115 := by rw [strLen_append, show (Str.ofString " has no deed ").length = 13 from rfl]; omega
        have z4 : (Str.empty ++ Str.ofString "a " ++ kd ++ Str.ofString " has no deed " ++ reprText wd).length ≤ 1115 := by rw [strLen_append]; have := hw.2; omega
        have z5 : (Str.empty ++ Str.ofString "a " ++ kd ++ Str.ofString " has no deed " ++ reprText wd ++ Str.ofString " with these parts").length ≤ 1132 := by rw [strLen_append, show (Str.ofString " with these parts").length = 17 from rfl]; omega
        refine iteT ⟨_, rfl, a, _, 0, _, rfl, rfl, Same.tup s1 hS, at0, ?_⟩
        exact ⟨_, rfl, by rw [z1]; decide, _, rfl, kd, rfl, Nat.le_trans hk.1 (by decide), _, rfl, Nat.le_trans z2 (by decide), _, rfl, Nat.le_trans z3 (by decide), _, rfl, wd, rfl, Nat.le_trans hw.2 (by decide), _, rfl, Nat.le_trans z4 (by decide), _, rfl, Nat.le_trans z5 (by decide), Nat.le_trans z5 (by decide), Nat.le_of_ble_eq_true rfl, z⟩
    · have z := hq H (Same.refl H)
      rw [if_neg h1] at z ⊢
      exact z
def DeedT (K : PySem.W.Frag) (H : Hp) (a : Addr) (wd : Str) (v : Option Int) : Prop := SqT K H a (.str wd :: .str "a" :: (v.map V.int).toList)
def doNum (n : Int) (wd : Str) (v : Option Int) : Int × Option Int :=
  if wd = "set" then (v.getD 0, none) else if wd = "add" then (n + v.getD 0, some (n + v.getD 0)) else (n, some n)
def aV : Option Int → V
  | some i => .int i
  | none => .non
def spNum (K : PySem.W.Frag) : Sp := fun vs H Q _ => ∃ x a wd v, vs = [.int x, .ref a] ∧ DeedT K H a wd v ∧ ((wd = "set" ∨ wd = "add") → v.isSome = true) ∧ ∀ p, H p = none → Q (.ref p) (upd H p (.tup [.int (doNum x wd v).1, aV (doNum x wd v).2]))
theorem ok_do_number (F : Fun K "do_number" "do_number" s_do_number f fd) (B : Bl mg) : FnOk P w K mg base CX0 1 f fd ["number", "deed"] (spNum K) := by
  refine F.ok sc_do_number (fun vs H Q E h => ?_) (fun cdv A outer s H vs Q E hr h => ?_)
  · obtain ⟨x, a, wd, v, rfl, _⟩ := h; rfl
  · obtain ⟨x, a, wd, v, rfl, hS, hv, k⟩ := h
    refine ⟨_, (pss_cons (ps_if (pt_cmpR op_eq (pe_ix ix_tup (pv 1) pe_int (fun _ _ => rfl)) pe_str (nomark _))
    (pss_one (ps_ret (pe_tup (pa_cons (pe_ix ix_tup (pv 1) pe_int (fun _ _ => rfl)) (pa_cons pe_non pa_nil))))) pss_nil)
    (pss_cons (ps_if (pt_cmpR op_eq (pe_ix ix_tup (pv 1) pe_int (fun _ _ => rfl)) pe_str (nomark _))
    (pss_one (ps_ret (pe_tup (pa_cons (pe_op op_add (pv 0) (pe_ix ix_tup (pv 1) pe_int (fun _ _ => rfl))) (pa_cons (pe_op op_add (pv 0) (pe_ix ix_tup (pv 1) pe_int (fun _ _ => rfl))) pa_nil))))) pss_nil)
    (pss_one (ps_ret (pe_tup (pa_cons (pv 0) (pa_cons (pv 0) pa_nil))))))), ?_⟩
    refine ⟨_, rfl, a, _, 0, _, rfl, rfl, hS, at0, rfl, _, rfl, ?_⟩
    by_cases h1 : wd = "set"
    · subst h1
      obtain ⟨i, rfl⟩ := Option.isSome_iff_exists.mp (hv (.inl rfl))
      exact iteT ⟨_, rfl, a, _, 2, _, rfl, rfl, hS, at2, Nat.le_of_ble_eq_true rfl, fun p hp => k p hp⟩
    · rw [show decide (V.str wd = V.str (Str.ofString "set")) = false from decide_eq_false fun q => h1 (V.str.inj q)]
      refine iteF ?_
      refine ⟨_, rfl, a, _, 0, _, rfl, rfl, hS, at0, rfl, _, rfl, ?_⟩
      by_cases h2 : wd = "add"
      · subst h2
        obtain ⟨i, rfl⟩ := Option.isSome_iff_exists.mp (hv (.inr rfl))
        exact iteT ⟨_, rfl, _, rfl, a, _, 2, _, rfl, rfl, hS, at2, _, _, rfl, rfl, _, rfl, _, rfl, a, _, 2, _, rfl, rfl, hS, at2, _, _, rfl, rfl, Nat.le_of_ble_eq_true rfl, fun p hp => k p hp⟩
      · rw [show decide (V.str wd = V.str (Str.ofString "add")) = false from decide_eq_false fun q => h2 (V.str.inj q)]
        refine iteF ⟨_, rfl, _, rfl, Nat.le_of_ble_eq_true rfl, fun p hp => ?_⟩
        have := k p hp
        unfold doNum at this
        rw [if_neg h1, if_neg h2] at this
        exact this
def doRow (xs : List Int) (wd : Str) (v : Option Int) : List Int × Option Int :=
  if wd = "put" then (xs ++ [v.getD 0], none) else if wd = "take" then (xs.drop 1, xs.head?) else (xs, xs.head?)
def RowT (K : PySem.W.Frag) (H : Hp) (v : V) (xs : List Int) : Prop := ∃ a, v = .ref a ∧ SqT K H a (xs.map V.int)
def spRow (K : PySem.W.Frag) : Sp := fun vs H Q _ => ∃ x xs a wd v, vs = [x, .ref a] ∧ RowT K H x xs ∧ xs.length ≤ 1000 ∧ DeedT K H a wd v ∧ (wd = "put" → v.isSome = true) ∧
  ∀ H' p y, Same H H' → H' p = some (.tup [y, aV (doRow xs wd v).2]) → RowT K H' y (doRow xs wd v).1 → Q (.ref p) H'
theorem RowT.keep {K : PySem.W.Frag} {H H' : Hp} {v : V} {xs : List Int} (s : Same H H') (h : RowT K H v xs) : RowT K H' v xs := by
  obtain ⟨a, rfl, h⟩ := h
  exact ⟨a, rfl, Same.tup s h⟩
theorem ok_do_row (F : Fun K "do_row" "do_row" s_do_row f fd) (B : Bl mg) : FnOk P w K mg base CX0 1 f fd ["row", "deed"] (spRow K) := by
  refine F.ok sc_do_row (fun vs H Q E h => ?_) (fun cdv A outer s H vs Q E hr h => ?_)
  · obtain ⟨x, xs, a, wd, v, rfl, _⟩ := h; rfl
  · obtain ⟨x, xs, a, wd, v, rfl, ⟨ra, rfl, hR⟩, hl, hS, hv, k⟩ := h
    have hsz : sizeLine = 16777216 := sizeLine_eq
    refine ⟨_, (pss_cons (ps_if (pt_cmpR op_eq (pe_ix ix_tup (pv 1) pe_int (fun _ _ => rfl)) pe_str (nomark _))
    (pss_one (ps_ret (pe_tup (pa_cons (pe_op op_catT' (pv 0) (pe_tup (pa_cons (pe_ix ix_tup (pv 1) pe_int (fun _ _ => rfl)) pa_nil))) (pa_cons pe_non pa_nil))))) pss_nil)
    (pss_cons (ps_set (i := 2) sc_do_row.nd rfl (by first | exact Or.inl rfl | exact Or.inr rfl) (pe_ifExp (pt_truth (pv 0) (fun _ => rfl)) (pe_ix ix_tup (pv 0) pe_int (fun _ _ => rfl)) pe_non))
    (pss_cons (ps_if (pt_cmpR op_eq (pe_ix ix_tup (pv 1) pe_int (fun _ _ => rfl)) pe_str (nomark _))
    (pss_one (ps_ret (pe_tup (pa_cons (pe_slice sl_tup' (pv 0) (po_some pe_int) po_none) (pa_cons (pv 2) pa_nil))))) pss_nil)
    (pss_one (ps_ret (pe_tup (pa_cons (pv 0) (pa_cons (pv 2) pa_nil)))))))), ?_⟩
    refine ⟨_, rfl, a, _, 0, _, rfl, rfl, hS, at0, rfl, _, rfl, ?_⟩
    by_cases h1 : wd = "put"
    · subst h1
      obtain ⟨i, rfl⟩ := Option.isSome_iff_exists.mp (hv rfl)
      refine iteT ⟨_, rfl, _, rfl, a, _, 2, _, rfl, rfl, hS, at2, Nat.le_of_ble_eq_true rfl, fun p hp => ?_⟩
      have s1 : Same H (upd H p (.tup [.int i])) := Same.upd hp
      refine ⟨ra, p, xs.map V.int, [.int i], rfl, rfl, Same.tup s1 hR, SqT.of upd_same, by simp, by simp; omega, fun e => ?_, fun e p2 hp2 => ?_⟩
      · refine ⟨Nat.le_of_ble_eq_true rfl, fun p3 hp3 => k _ p3 (.ref p) (s1.trans (Same.upd hp3)) upd_same ?_⟩
        have e' : xs = [] := by cases xs with | nil => rfl | cons => cases e
        subst e'
        exact ⟨p, rfl, Same.tup (Same.upd hp3) (SqT.of upd_same)⟩
      · refine ⟨Nat.le_of_ble_eq_true rfl, fun p3 hp3 => k _ p3 (.ref p2) ((s1.trans (Same.upd hp2)).trans (Same.upd hp3)) upd_same ?_⟩
        refine ⟨p2, rfl, Same.tup (Same.upd hp3) ?_⟩
        have : (doRow xs "put" (some i)).1.map V.int = xs.map V.int ++ [.int i] := by simp [doRow]
        rw [this]
        exact SqT.of upd_same
    · rw [show decide (V.str wd = V.str (Str.ofString "put")) = false from decide_eq_false fun q => h1 (V.str.inj q)]
      refine iteF ?_
      refine ⟨_, rfl, _, .inr (.inl ⟨_, hR, rfl⟩), ?_⟩
      have nt : ∀ z : Str, wd ≠ z → decide (V.str wd = V.str z) = false := fun z h => decide_eq_false fun q => h (V.str.inj q)
      match xs, hR, hl, k with
      | [], hR, hl, k =>
        refine iteF ?_
        refine ⟨_, rfl, a, _, 0, _, rfl, rfl, hS, at0, rfl, _, rfl, ?_⟩
        by_cases h2 : wd = "take"
        · subst h2
          refine iteT ⟨_, rfl, 1, rfl, ra, _, rfl, hR, .inl ⟨rfl, rfl, _, rfl, Nat.le_of_ble_eq_true rfl, fun p hp => ?_⟩⟩
          exact k _ p (.ref ra) (Same.upd hp) upd_same ⟨ra, rfl, Same.tup (Same.upd hp) hR⟩
        · rw [nt _ h2]
          refine iteF ⟨_, rfl, _, rfl, Nat.le_of_ble_eq_true rfl, fun p hp => ?_⟩
          have e : doRow [] wd v = ([], none) := by unfold doRow; rw [if_neg h1, if_neg h2]; rfl
          rw [e] at k
          exact k _ p (.ref ra) (Same.upd hp) upd_same ⟨ra, rfl, Same.tup (Same.upd hp) hR⟩
      | x0 :: xr, hR, hl, k =>
        refine iteT ⟨_, rfl, ra, _, 0, _, rfl, rfl, hR, at0, ?_⟩
        refine ⟨_, rfl, a, _, 0, _, rfl, rfl, hS, at0, rfl, _, rfl, ?_⟩
        by_cases h2 : wd = "take"
        · subst h2
          refine iteT ⟨_, rfl, 1, rfl, ra, _, rfl, hR, .inr ⟨fun q => ?_, fun p2 hp2 => ⟨_, rfl, Nat.le_of_ble_eq_true rfl, fun p hp => ?_⟩⟩⟩
          · have := q.1
            simp [HT.sIx] at this
          · have e : cutV ((x0 :: xr).map V.int) (some 1) none = xr.map V.int := by
              unfold cutV
              have e1 : HT.sIx ((x0 :: xr).map V.int).length 0 (some 1) = 1 := by
                show HT.sIx _ 0 (some ((1 : Nat) : Int)) = 1
                rw [HT.sIx_nat, List.length_map, List.length_cons]; omega
              rw [e1, HT.sIx_none]
              simp
              exact List.take_of_length_le (by simp)
            rw [e] at hp ⊢
            exact k _ p (.ref p2) ((Same.upd hp2).trans (Same.upd hp)) upd_same ⟨p2, rfl, Same.tup (Same.upd hp) (SqT.of upd_same)⟩
        · rw [nt _ h2]
          refine iteF ⟨_, rfl, _, rfl, Nat.le_of_ble_eq_true rfl, fun p hp => ?_⟩
          have e : doRow (x0 :: xr) wd v = (x0 :: xr, some x0) := by unfold doRow; rw [if_neg h1, if_neg h2]; rfl
          rw [e] at k
          exact k _ p (.ref ra) (Same.upd hp) upd_same ⟨ra, rfl, Same.tup (Same.upd hp) hR⟩
inductive Thing (K : PySem.W.Frag) (H : Hp) : Str → V → (List Int ⊕ Int) → Prop
  | row {v : V} {xs : List Int} : RowT K H v xs → Thing K H "row" v (.inl xs)
  | num {n : Int} : Thing K H "number" (.int n) (.inr n)
theorem Thing.keep {K : PySem.W.Frag} {H H' : Hp} {k : Str} {v : V} {t : List Int ⊕ Int} (s : Same H H') (h : Thing K H k v t) : Thing K H' k v t := by
  cases h with
  | row h => exact .row (h.keep s)
  | num => exact .num
def doT : (List Int ⊕ Int) → Str → Option Int → (List Int ⊕ Int) × Option Int
  | .inl xs, wd, v => (.inl (doRow xs wd v).1, (doRow xs wd v).2)
  | .inr n, wd, v => (.inr (doNum n wd v).1, (doNum n wd v).2)
def sizeT : (List Int ⊕ Int) → Nat
  | .inl xs => xs.length
  | .inr _ => 0
def Has (wd : Str) (v : Option Int) : Prop := (wd = "put" ∨ wd = "set" ∨ wd = "add") → v.isSome = true
def spDo (K : PySem.W.Frag) : Sp := fun vs H Q _ => ∃ k x t a wd v, vs = [.str k, x, .ref a] ∧ Thing K H k x t ∧ sizeT t ≤ 1000 ∧ DeedT K H a wd v ∧ Has wd v ∧
  ∀ H' p y, Same H H' → H' p = some (.tup [y, aV (doT t wd v).2]) → Thing K H' k y (doT t wd v).1 → Q (.ref p) H'
theorem ok_do_deed (F : Fun K "do_deed" "do_deed" s_do_deed f fd) (B : Bl mg) (g_do_number : FnX P w K mg base "do_number" 1 (spNum K)) (g_do_row : FnX P w K mg base "do_row" 1 (spRow K)) : FnOk P w K mg base CX0 2 f fd ["kind", "thing", "deed"] (spDo K) := by
  refine F.ok sc_do_deed (fun vs H Q E h => ?_) (fun cdv A outer s H vs Q E hr h => ?_)
  · obtain ⟨k, x, t, a, wd, v, rfl, _⟩ := h; rfl
  · obtain ⟨kd, x, t, a, wd, v, rfl, hT, hz, hS, hv, k⟩ := h
    refine ⟨_, (pss_cons (ps_if (pt_cmpR op_eq (pv 0) pe_str (nomark _))
    (pss_one (ps_ret (pe_fnX g_do_row passN hr rfl (pa_cons (pv 1) (pa_cons (pv 2) pa_nil))))) pss_nil)
    (pss_one (ps_ret (pe_fnX g_do_number passN hr rfl (pa_cons (pv 1) (pa_cons (pv 2) pa_nil)))))), ?_⟩
    cases hT with
    | @row x xs hR =>
      refine ⟨_, rfl, rfl, _, rfl, iteT ⟨_, rfl, _, rfl, x, xs, a, wd, v, rfl, hR, hz, hS, fun e => hv (.inl e), fun H' p y s1 hp hy => ?_⟩⟩
      exact k H' p y s1 hp (.row hy)
    | @num n =>
      refine ⟨_, rfl, rfl, _, rfl, iteF ⟨_, rfl, _, rfl, n, a, wd, v, rfl, hS, fun e => hv (.inr e), fun p hp => ?_⟩⟩
      exact k _ p _ (Same.upd hp) upd_same .num
abbrev Deed := Str × Option Int
def stT (t : List Int ⊕ Int) (ds : List Deed) : List Int ⊕ Int := ds.foldl (fun t d => (doT t d.1 d.2).1) t
def ansT : (List Int ⊕ Int) → List Deed → List (Option Int)
  | _, [] => []
  | t, d :: r => (doT t d.1 d.2).2 :: ansT (doT t d.1 d.2).1 r
theorem stT_snoc (t : List Int ⊕ Int) (ds : List Deed) (d : Deed) : stT t (ds ++ [d]) = (doT (stT t ds) d.1 d.2).1 := by unfold stT; rw [List.foldl_append]; rfl
theorem ansT_snoc : ∀ (ds : List Deed) (t : List Int ⊕ Int) (d : Deed), ansT t (ds ++ [d]) = ansT t ds ++ [(doT (stT t ds) d.1 d.2).2]
  | [], _, _ => rfl
  | e :: r, t, d => by
    show _ :: ansT _ (r ++ [d]) = _
    rw [ansT_snoc r]
    rfl
theorem size_do (t : List Int ⊕ Int) (d : Deed) : sizeT (doT t d.1 d.2).1 ≤ sizeT t + 1 := by
  cases t with
  | inr n => exact Nat.zero_le _
  | inl xs =>
    show (doRow xs d.1 d.2).1.length ≤ xs.length + 1
    unfold doRow
    split
    · simp
    · split <;> simp <;> omega
theorem size_st : ∀ (ds : List Deed) (t : List Int ⊕ Int), sizeT (stT t ds) ≤ sizeT t + ds.length
  | [], _ => Nat.le_refl _
  | d :: r, t => by
    have h1 := size_st r (doT t d.1 d.2).1
    have h2 := size_do t d
    show sizeT (stT (doT t d.1 d.2).1 r) ≤ _
    rw [List.length_cons]
    omega
def Good (k : Str) (d : Deed) : Prop := pOf k d.1 = some (.int (if d.2.isSome then 3 else 2))
structure Deeds (K : PySem.W.Frag) (H : Hp) (k : Str) (vs : List V) (ds : List Deed) : Prop where
  len : vs.length = ds.length
  at_ : ∀ (i : Nat) (v : V), vs[i]? = some v → ∃ a d, v = .ref a ∧ ds[i]? = some d ∧ DeedT K H a d.1 d.2 ∧ Good k d ∧ Sh d.1
def t0 (k : Str) : List Int ⊕ Int := if k = "row" then .inl [] else .inr 0
def spAns (K : PySem.W.Frag) : Sp := fun vs H Q _ => ∃ k l xs ds, vs = [.str k, .ref l] ∧ (k = "row" ∨ k = "number") ∧ SqL K H l xs ∧ Deeds K H k xs ds ∧ ds.length ≤ 200 ∧
  ∀ H' g, Same H H' → H' g = some (.lst ((ansT (t0 k) ds).map aV)) → Q (.ref g) H'
theorem good_has {k : Str} {d : Deed} (hk : k = "row" ∨ k = "number") (h : Good k d) : Has d.1 d.2 := by
  intro hw
  cases e : d.2 with
  | some _ => rfl
  | none =>
    exfalso
    unfold Good at h
    rw [e] at h
    rcases hk with rfl | rfl <;> rcases hw with hw | hw | hw <;> rw [hw] at h <;> revert h <;> decide
theorem good_can {k : Str} {d : Deed} (h : Good k d) : canB k d.1 (V.str (Str.ofString "a") :: (d.2.map V.int).toList).length = true := by
  unfold canB
  rw [show pOf k d.1 = some (.int (if d.2.isSome then 3 else 2)) from h]
  cases d.2 <;> rfl
theorem start_of {Q : VK} {E : XK} {H : Hp} {kd : Str} (T : Tp P w K mg st pt r b n) (hk : kd = "row" ∨ kd = "number") (h : ∀ x0, Thing K H kd x0 (t0 kd) → Q x0 H) : spStart r [.str kd] H Q E := by
  rcases hk with rfl | rfl
  · exact .inl ⟨rfl, h _ (.row ⟨r, rfl, T.em H⟩)⟩
  · exact .inr ⟨rfl, h _ .num⟩
theorem tail_deed (v : Option Int) : Tail (V.str "a" :: (v.map V.int).toList) := by
  cases v with
  | none => exact ⟨by decide, fun y e => ⟨_, (Option.some.inj e).symm⟩, fun y e => nomatch e⟩
  | some i => exact ⟨Nat.le_of_ble_eq_true rfl, fun y e => ⟨_, (Option.some.inj e).symm⟩, fun y e => ⟨_, (Option.some.inj e).symm⟩⟩
theorem ansT_len : ∀ (ds : List Deed) (t : List Int ⊕ Int), (ansT t ds).length = ds.length
  | [], _ => rfl
  | d :: r, t => by show (ansT _ r).length + 1 = _; rw [ansT_len r]; rfl
theorem SqT.updL {K : PySem.W.Frag} {H : Hp} {a g : Addr} {xs zs : List V} {o : HO} (hg : H g = some (.lst zs)) (h : SqT K H a xs) : SqT K (upd H g o) a xs := by
  rcases h with (h | ⟨ob, h⟩) | h
  · exact .inl (.inl (by rw [upd_ne (ne_of h hg (by intro q; cases q))]; exact h))
  · exact .inl (.inr ⟨ob, by rw [upd_ne (ne_of h hg (by intro q; cases q))]; exact h⟩)
  · exact .inr h
theorem Thing.updL {K : PySem.W.Frag} {H : Hp} {g : Addr} {zs : List V} {o : HO} {k : Str} {v : V} {t : List Int ⊕ Int} (hg : H g = some (.lst zs)) (h : Thing K H k v t) : Thing K (upd H g o) k v t := by
  cases h with
  | row h => obtain ⟨a, rfl, h⟩ := h; exact .row ⟨a, rfl, SqT.updL hg h⟩
  | num => exact .num
theorem take_snoc {α : Type} {l : List α} {i : Nat} {x : α} (h : l[i]? = some x) : l.take (i + 1) = l.take i ++ [x] := by
  rw [List.take_add_one, h]; rfl
theorem ok_answers (F : Fun K "answers" "answers" s_answers f fd) (B : Bl mg) (T : Tp P w K mg st pt r b n) (g_check_deed : FnX P w K mg base "check_deed" 4 (spCd K b n)) (g_do_deed : FnX P w K mg base "do_deed" 2 (spDo K)) (g_start : FnX P w K mg base "start" 2 (spStart r)) :
    FnOk P w K mg base CX0 5 f fd ["kind", "deeds"] (spAns K) := by
  refine F.ok sc_answers (fun vs H Q E h => ?_) (fun cdv A outer s H vs Q E hr h => ?_)
  · obtain ⟨k, l, xs, ds, rfl, _⟩ := h; rfl
  · obtain ⟨kd, l, xs, ds, rfl, hk, hS, hD, hl, k⟩ := h
    have hsz : sizeLine = 16777216 := sizeLine_eq
    have hkS : Sh kd := by rcases hk with rfl | rfl; exact ⟨by decide, by decide +kernel⟩; exact ⟨by decide, by decide +kernel⟩
    refine ⟨_, (pss_cons (ps_set (i := 2) sc_answers.nd rfl (by first | exact Or.inl rfl | exact Or.inr rfl) (pe_fnX g_start passN hr rfl (pa_cons (pv 0) pa_nil)))
    (pss_cons (ps_set (i := 3) sc_answers.nd rfl (by first | exact Or.inl rfl | exact Or.inr rfl) (pe_lst pa_nil))
    (pss_cons (ps_for PassesOwn.never rfl (pi_list (pv 1)) (pg_name (i := 4) sc_answers.nd rfl (by first | exact Or.inl rfl | exact Or.inr rfl))
    (pss_cons (ps_expr (pe_fnX g_check_deed passN hr rfl (pa_cons (pv 0) (pa_cons (pv 4) pa_nil))))
    (pss_cons (ps_set (i := 5) sc_answers.nd rfl (by first | exact Or.inl rfl | exact Or.inr rfl) (pe_fnX g_do_deed passN hr rfl (pa_cons (pv 0) (pa_cons (pv 2) (pa_cons (pv 4) pa_nil)))))
    (pss_cons (ps_set (i := 2) sc_answers.nd rfl (by first | exact Or.inl rfl | exact Or.inr rfl) (pe_ix ix_tup (pv 5) pe_int (fun _ _ => rfl)))
    (pss_one (ps_expr (pe_bm PySem.F.plainAttrs_list PySem.F.slot_list_append PySem.F.type_list_append mt_append (pv 3) (pa_cons (pe_ix ix_tup (pv 5) pe_int (fun _ _ => rfl)) pa_nil))))))))
    (pss_one (ps_ret (pv 3)))))), ?_⟩
    refine ⟨_, rfl, ?_⟩
    dsimp only [tNil, List.append_nil, List.cons_append, List.nil_append]
    refine start_of T hk fun x0 hx0 => ?_
    refine ⟨Nat.le_of_ble_eq_true rfl, fun g hg => ?_⟩
    have sg : Same H (upd H g (.lst [])) := Same.upd hg
    refine ⟨_, rfl, l, rfl, ⟨xs, sg.seq hS⟩, for_list (K := K) (a := l) (xs := xs) (fun i σ H2 => ∃ x v4 v5, σ = [some (.str kd), some (.ref l), some x, some (.ref g), v4, v5] ∧ Thing K H2 kd x (stT (t0 kd) (ds.take i)) ∧ Same H H2 ∧ H2 g = some (.lst ((ansT (t0 kd) (ds.take i)).map aV)))
      ⟨x0, none, none, rfl, hx0.keep sg, sg, upd_same⟩ (fun i σ H2 _ ⟨_, _, _, _, _, s1, _⟩ => s1.seq hS) ?_ ?_⟩
    · rintro i y σ H2 hi ⟨x, v4, v5, rfl, hTh, s1, hg2⟩
      obtain ⟨a, d, rfl, hd, hDe, hG, hSh⟩ := hD.at_ i y hi
      have hDe2 := Same.tup s1 hDe
      refine ⟨_, rfl, _, rfl, kd, d.1, a, _, rfl, hDe2, tail_deed d.2, hkS, hSh, fun H3 s3 => ?_⟩
      rw [if_pos hk, if_pos (good_can hG)]
      have hsz2 : sizeT (stT (t0 kd) (ds.take i)) ≤ 1000 := by
        have h1 := size_st (ds.take i) (t0 kd)
        have h2 : sizeT (t0 kd) = 0 := by rcases hk with rfl | rfl <;> rfl
        have h3 : (ds.take i).length ≤ ds.length := by rw [List.length_take]; exact Nat.min_le_right _ _
        omega
      refine ⟨_, rfl, _, rfl, _, rfl, kd, x, _, a, d.1, d.2, rfl, hTh.keep s3, hsz2, Same.tup s3 hDe2, good_has hk hG, fun H4 p y s4 hp hy => ?_⟩
      have hg4 := s4 _ _ (s3 _ _ hg2)
      refine ⟨_, rfl, p, _, 0, _, rfl, rfl, SqT.of hp, at0, ?_⟩
      refine ⟨_, rfl, .inl ⟨rfl, _, SqL.of hg4⟩, _, rfl, p, _, 1, _, rfl, rfl, SqT.of hp, at1, g, _, _, rfl, rfl, hg4, ?_, ?_⟩
      · have h3 : (ds.take i).length ≤ ds.length := by rw [List.length_take]; exact Nat.min_le_right _ _
        rw [List.length_map, ansT_len]
        omega
      · refine ⟨y, _, _, rfl, ?_, fun c o hc => ?_, ?_⟩
        · rw [take_snoc hd, stT_snoc]
          exact hy.updL hg4
        · rw [upd_ne (ne_of_none hc hg)]
          exact s4 _ _ (s3 _ _ (s1 _ _ hc))
        · rw [take_snoc hd, ansT_snoc, List.map_append, upd_same]
          rfl
    · rintro σ H2 ⟨x, v4, v5, rfl, hTh, s1, hg2⟩
      rw [hD.len, List.take_length] at hg2
      exact ⟨_, rfl, k H2 g s1 hg2⟩
--@split
def dD (d : Deed) : PyData := .tuple (.str d.1 :: .str "a" :: (d.2.map PyData.int).toList)
def words : List Str := ["put", "take", "look", "set", "add"]
theorem good_word {k : Str} {d : Deed} (h : Good k d) : d.1 ∈ words := by
  obtain ⟨wd, v⟩ := d
  unfold Good pOf valV at h
  obtain ⟨p, hp, _⟩ := Option.map_eq_some_iff.mp h
  have e0 := List.find?_some hp
  have e : p.1 = [.inr k, .inr wd] := of_decide_eq_true e0
  have m := List.mem_of_find?_eq_some hp
  simp only [partsV, List.mem_cons, List.not_mem_nil, or_false] at m
  rcases m with rfl | rfl | rfl | rfl | rfl | rfl <;> (injection e with e1 e2; injection e2 with e3 e4; show wd ∈ words; rw [← Sum.inr.inj e3]; decide)
theorem is_deed {K : PySem.W.Frag} {H : Hp} {a : Addr} {d : Deed} (h : DeedT K H a d.1 d.2) : Is K H (dD d) (.ref a) := by
  obtain ⟨wd, v⟩ := d
  unfold dD
  cases v with
  | none =>
    simp only [Is, IsAll, Option.map_none, Option.toList_none]
    exact ⟨a, _, rfl, h, _, _, rfl, rfl, _, _, rfl, rfl, rfl⟩
  | some i =>
    simp only [Is, IsAll, Option.map_some, Option.toList_some]
    exact ⟨a, _, rfl, h, _, _, rfl, rfl, _, _, rfl, rfl, _, _, rfl, rfl, rfl⟩
theorem lay_deed {d : Deed} (h : d.1 ∈ words) : PyData.canLay0 (dD d) = true := by
  obtain ⟨wd, v⟩ := d
  replace h : wd ∈ words := h
  simp only [words, List.mem_cons, List.not_mem_nil, or_false] at h
  unfold dD
  cases v with
  | none =>
    simp only [PyData.canLay0, PyData.canLayAll0, Bool.and_true, Bool.true_and, Option.map_none, Option.toList_none]
    rcases h with rfl | rfl | rfl | rfl | rfl <;> decide +kernel
  | some i =>
    simp only [PyData.canLay0, PyData.canLayAll0, Bool.and_true, Bool.true_and, Option.map_some, Option.toList_some]
    rcases h with rfl | rfl | rfl | rfl | rfl <;> decide +kernel
theorem depth_deed (d : Deed) : PyData.depth (dD d) = 1 := by
  obtain ⟨wd, v⟩ := d
  cases v <;> simp [dD, PyData.depth, PyData.depthAll]
theorem ansT_at : ∀ (ds : List Deed) (t : List Int ⊕ Int) (i : Nat) (d : Deed), ds[i]? = some d → (ansT t ds)[i]? = some (doT (stT t (ds.take i)) d.1 d.2).2
  | [], _, _, _, h => by simp at h
  | e :: r, t, 0, d, h => by cases h; rfl
  | e :: r, t, i + 1, d, h => by
    show (ansT (doT t e.1 e.2).1 r)[i]? = _
    exact ansT_at r _ i d (by simpa using h)
theorem script_at {ns : List Int} {j : Int} (h0 : 0 ≤ j) (h1 : j < ns.length) : ∃ z, atI (ns.map V.int) j = some (.int z) := by
  obtain ⟨v, hv, hv'⟩ := atI_in (xs := ns.map V.int) h0 (by rw [List.length_map]; exact h1)
  rw [List.getElem?_map] at hv'
  obtain ⟨z, _, rfl⟩ := Option.map_eq_some_iff.mp hv'
  exact ⟨z, hv⟩
def spAt (K : PySem.W.Frag) : Sp := fun vs H Q _ => ∃ (a : Addr) (ns : List Int) (k : Int), vs = [.ref a, .int k] ∧ SqL K H a (ns.map V.int) ∧ 0 ≤ k ∧ Q (.int (ns.getD k.toNat 0)) H
theorem ok__law_at (F : Fun K "_law_at" "_law_at" s__law_at f fd) (B : Bl mg) : FnOk P w K mg base CX0 1 f fd ["_law_script", "_law_k"] (spAt K) := by
  refine F.ok sc__law_at (fun vs H Q E h => ?_) (fun cdv A outer s H vs Q E hr h => ?_)
  · obtain ⟨a, ns, i, rfl, _⟩ := h; rfl
  · obtain ⟨a, ns, i, rfl, ha, h0, k⟩ := h
    refine ⟨_, (pss_cons (ps_if (pt_cmpR op_lt (pv 1) (pe_callB call_len_seq rfl B.len_ PySem.boot_len (pa_cons (pv 0) pa_nil)) (nomark _))
    (pss_one (ps_ret (pe_ix ix_list (pv 0) (pv 1) (fun _ _ => rfl)))) pss_nil)
    (pss_one (ps_ret pe_int))), ?_⟩
    refine ⟨_, rfl, _, rfl, a, _, rfl, .inl ha, _, _, rfl, rfl, _, rfl, ?_⟩
    refine iteD (fun h => ?_) (fun h => ?_)
    · rw [List.length_map] at h
      obtain ⟨v, hv, hv'⟩ := atI_in (xs := ns.map V.int) h0 (by rw [List.length_map]; exact h)
      rw [List.getElem?_map] at hv'
      obtain ⟨z, hz, rfl⟩ := Option.map_eq_some_iff.mp hv'
      have e : ns.getD i.toNat 0 = z := by rw [List.getD_eq_getElem?_getD, hz]; rfl
      rw [e] at k
      exact ⟨_, rfl, _, rfl, a, _, i, _, rfl, rfl, ha, hv, k⟩
    · rw [List.length_map] at h
      have e : ns.getD i.toNat 0 = 0 := by rw [List.getD_eq_getElem?_getD, List.getElem?_eq_none (by omega)]; rfl
      rw [e] at k
      exact k
inductive LThing (K : PySem.W.Frag) (H : Hp) : Str → V → (List Int ⊕ Int) → Prop
  | row {a : Addr} {xs : List Int} : H a = some (.lst (xs.map V.int)) → LThing K H "row" (.ref a) (.inl xs)
  | num {n : Int} : LThing K H "number" (.int n) (.inr n)
theorem LThing.keep {K : PySem.W.Frag} {H H' : Hp} {k : Str} {v : V} {t : List Int ⊕ Int} (s : Same H H') (h : LThing K H k v t) : LThing K H' k v t := by
  cases h with
  | row h => exact .row (s _ _ h)
  | num => exact .num
def NewOr (H : Hp) (x y : V) : Prop := y = x ∨ (∃ a, y = .ref a ∧ H a = none) ∨ ∃ i : Int, y = .int i
theorem none_of {H H' : Hp} {a : Addr} (s : Same H H') (h : H' a = none) : H a = none := by
  cases e : H a with
  | none => rfl
  | some o => rw [s _ _ e] at h; cases h
theorem LThing.updC {K : PySem.W.Frag} {H : Hp} {k : Str} {v : V} {t : List Int ⊕ Int} {c : Addr} {o : HO} (h : LThing K H k v t) (hv : v ≠ .ref c) : LThing K (upd H c o) k v t := by
  cases h with
  | @row a xs h => exact .row (by rw [upd_ne fun z => hv (by rw [z])]; exact h)
  | num => exact .num
def spDone (K : PySem.W.Frag) : Sp := fun vs H Q _ => ∃ k x t a wd v, vs = [.str k, x, .ref a] ∧ LThing K H k x t ∧ sizeT t ≤ 1000 ∧ DeedT K H a wd v ∧ Has wd v ∧
  ∀ H' p y, Same H H' → H' p = some (.tup [y, aV (doT t wd v).2]) → LThing K H' k y (doT t wd v).1 → NewOr H x y → Q (.ref p) H'
theorem ok__law_done (F : Fun K "_law_done" "_law_done" s__law_done f fd) (B : Bl mg) : FnOk P w K mg base CX0 1 f fd ["_law_kind", "_law_state", "_law_deed"] (spDone K) := by
  refine F.ok sc__law_done (fun vs H Q E h => ?_) (fun cdv A outer s H vs Q E hr h => ?_)
  · obtain ⟨k, x, t, a, wd, v, rfl, _⟩ := h; rfl
  · obtain ⟨kd, x, t, a, wd, v, rfl, hT, hz, hS, hv, k⟩ := h
    have hsz : sizeLine = 16777216 := sizeLine_eq
    have nt : ∀ z : Str, wd ≠ z → decide (V.str wd = V.str z) = false := fun z h => decide_eq_false fun q => h (V.str.inj q)
    refine ⟨_, (pss_cons (ps_if (pt_cmpR op_eq (pv 0) pe_str (nomark _))
    (pss_cons (ps_set (i := 3) sc__law_done.nd rfl (by first | exact Or.inl rfl | exact Or.inr rfl) pe_non)
    (pss_cons (ps_if (pt_cmpR (op_neD hr.units) (pv 1) (pe_lst pa_nil) (nomark _))
    (pss_one (ps_set (i := 3) sc__law_done.nd rfl (by first | exact Or.inl rfl | exact Or.inr rfl) (pe_ix ix_list (pv 1) pe_int (fun _ _ => rfl)))) pss_nil)
    (pss_cons (ps_if (pt_cmpR op_eq (pe_ix ix_tup (pv 2) pe_int (fun _ _ => rfl)) pe_str (nomark _))
    (pss_one (ps_ret (pe_tup (pa_cons (pe_op op_cat (pv 1) (pe_lst (pa_cons (pe_ix ix_tup (pv 2) pe_int (fun _ _ => rfl)) pa_nil))) (pa_cons pe_non pa_nil))))) pss_nil)
    (pss_cons (ps_if (pt_cmpR op_eq (pe_ix ix_tup (pv 2) pe_int (fun _ _ => rfl)) pe_str (nomark _))
    (pss_one (ps_ret (pe_tup (pa_cons (pe_slice sl_list (pv 1) (po_some pe_int) po_none) (pa_cons (pv 3) pa_nil))))) pss_nil)
    (pss_one (ps_ret (pe_tup (pa_cons (pv 1) (pa_cons (pv 3) pa_nil))))))))) pss_nil)
    (pss_cons (ps_if (pt_cmpR op_eq (pe_ix ix_tup (pv 2) pe_int (fun _ _ => rfl)) pe_str (nomark _))
    (pss_one (ps_ret (pe_tup (pa_cons (pe_ix ix_tup (pv 2) pe_int (fun _ _ => rfl)) (pa_cons pe_non pa_nil))))) pss_nil)
    (pss_cons (ps_if (pt_cmpR op_eq (pe_ix ix_tup (pv 2) pe_int (fun _ _ => rfl)) pe_str (nomark _))
    (pss_one (ps_ret (pe_tup (pa_cons (pe_op op_add (pv 1) (pe_ix ix_tup (pv 2) pe_int (fun _ _ => rfl))) (pa_cons (pe_op op_add (pv 1) (pe_ix ix_tup (pv 2) pe_int (fun _ _ => rfl))) pa_nil))))) pss_nil)
    (pss_one (ps_ret (pe_tup (pa_cons (pv 1) (pa_cons (pv 1) pa_nil)))))))), ?_⟩
    cases hT with
    | @row ra xs hR =>
      refine ⟨_, rfl, rfl, _, rfl, iteT ?_⟩
      refine ⟨_, rfl, Nat.le_of_ble_eq_true rfl, fun p hp => ?_⟩
      have s1 : Same H (upd H p (.lst [])) := Same.upd hp
      refine ⟨_, _, is_ints (SqL.of (s1 _ _ hR)), is_ints (ns := []) (SqL.of upd_same), cmp_ints _, cmp_ints [], _, rfl, ?_⟩
      rw [same_ints']
      have hR1 := s1 _ _ hR
      have hS1 : SqT K (upd H p (.lst [])) a _ := Same.tup s1 hS
      generalize upd H p (.lst []) = H1 at s1 hR1 hS1 ⊢
      match xs, hR1, hz, k with
      | [], hR1, hz, k =>
        refine iteF ?_
        refine ⟨_, rfl, a, _, 0, _, rfl, rfl, hS1, at0, rfl, _, rfl, ?_⟩
        by_cases h1 : wd = "put"
        · subst h1
          obtain ⟨i, rfl⟩ := Option.isSome_iff_exists.mp (hv (.inl rfl))
          refine iteT ⟨_, rfl, _, rfl, a, _, 2, _, rfl, rfl, hS1, at2, Nat.le_of_ble_eq_true rfl, fun p2 hp2 => ⟨ra, p2, _, _, rfl, rfl, Same.upd hp2 _ _ hR1, upd_same, Nat.le_of_ble_eq_true rfl, fun p3 hp3 => ⟨Nat.le_of_ble_eq_true rfl, fun p4 hp4 => ?_⟩⟩⟩
          exact k _ p4 _ (((s1.trans (Same.upd hp2)).trans (Same.upd hp3)).trans (Same.upd hp4)) upd_same (.row (Same.upd hp4 _ _ upd_same)) (.inr (.inl ⟨p3, rfl, none_of (s1.trans (Same.upd hp2)) hp3⟩))
        · rw [nt _ h1]
          refine iteF ?_
          refine ⟨_, rfl, a, _, 0, _, rfl, rfl, hS1, at0, rfl, _, rfl, ?_⟩
          by_cases h2 : wd = "take"
          · subst h2
            refine iteT ⟨_, rfl, 1, rfl, ra, _, rfl, SqL.of hR1, fun p2 hp2 => ⟨_, rfl, Nat.le_of_ble_eq_true rfl, fun p4 hp4 => ?_⟩⟩
            exact k _ p4 _ ((s1.trans (Same.upd hp2)).trans (Same.upd hp4)) upd_same (.row (Same.upd hp4 _ _ upd_same)) (.inr (.inl ⟨p2, rfl, none_of s1 hp2⟩))
          · rw [nt _ h2]
            refine iteF ⟨_, rfl, _, rfl, Nat.le_of_ble_eq_true rfl, fun p4 hp4 => ?_⟩
            have e : doT (.inl []) wd v = (.inl [], none) := by show (Sum.inl (doRow [] wd v).1, (doRow [] wd v).2) = _; unfold doRow; rw [if_neg h1, if_neg h2]; rfl
            rw [e] at k
            exact k _ p4 _ (s1.trans (Same.upd hp4)) upd_same (.row (Same.upd hp4 _ _ hR1)) (.inl rfl)
      | x0 :: xr, hR1, hz, k =>
        have hz' : (x0 :: xr).length ≤ 1000 := hz
        refine iteT ⟨_, rfl, ra, _, 0, _, rfl, rfl, SqL.of hR1, at0, ?_⟩
        refine ⟨_, rfl, a, _, 0, _, rfl, rfl, hS1, at0, rfl, _, rfl, ?_⟩
        by_cases h1 : wd = "put"
        · subst h1
          obtain ⟨i, rfl⟩ := Option.isSome_iff_exists.mp (hv (.inl rfl))
          refine iteT ⟨_, rfl, _, rfl, a, _, 2, _, rfl, rfl, hS1, at2, Nat.le_of_ble_eq_true rfl, fun p2 hp2 => ⟨ra, p2, _, _, rfl, rfl, Same.upd hp2 _ _ hR1, upd_same, by rw [List.length_map]; simp at hz' ⊢; omega, fun p3 hp3 => ⟨Nat.le_of_ble_eq_true rfl, fun p4 hp4 => ?_⟩⟩⟩
          refine k _ p4 _ (((s1.trans (Same.upd hp2)).trans (Same.upd hp3)).trans (Same.upd hp4)) upd_same ?_ (.inr (.inl ⟨p3, rfl, none_of (s1.trans (Same.upd hp2)) hp3⟩))
          have e : (doT (.inl (x0 :: xr)) (Str.ofString "put") (some i)).1 = .inl ((x0 :: xr) ++ [i]) := rfl
          rw [e]
          refine .row (Same.upd hp4 _ _ ?_)
          rw [List.map_append]
          exact upd_same
        · rw [nt _ h1]
          refine iteF ?_
          refine ⟨_, rfl, a, _, 0, _, rfl, rfl, hS1, at0, rfl, _, rfl, ?_⟩
          by_cases h2 : wd = "take"
          · subst h2
            refine iteT ⟨_, rfl, 1, rfl, ra, _, rfl, SqL.of hR1, fun p2 hp2 => ⟨_, rfl, Nat.le_of_ble_eq_true rfl, fun p4 hp4 => ?_⟩⟩
            have e : cutV ((x0 :: xr).map V.int) (some 1) none = xr.map V.int := by
              unfold cutV
              have e1 : HT.sIx ((x0 :: xr).map V.int).length 0 (some 1) = 1 := by
                show HT.sIx _ 0 (some ((1 : Nat) : Int)) = 1
                rw [HT.sIx_nat, List.length_map, List.length_cons]; omega
              rw [e1, HT.sIx_none]
              simp
              exact List.take_of_length_le (by simp)
            rw [e] at hp4 ⊢
            exact k _ p4 _ ((s1.trans (Same.upd hp2)).trans (Same.upd hp4)) upd_same (.row (Same.upd hp4 _ _ upd_same)) (.inr (.inl ⟨p2, rfl, none_of s1 hp2⟩))
          · rw [nt _ h2]
            refine iteF ⟨_, rfl, _, rfl, Nat.le_of_ble_eq_true rfl, fun p4 hp4 => ?_⟩
            have e : doT (.inl (x0 :: xr)) wd v = (.inl (x0 :: xr), some x0) := by show (Sum.inl (doRow (x0 :: xr) wd v).1, (doRow (x0 :: xr) wd v).2) = _; unfold doRow; rw [if_neg h1, if_neg h2]; rfl
            rw [e] at k
            exact k _ p4 _ (s1.trans (Same.upd hp4)) upd_same (.row (Same.upd hp4 _ _ hR1)) (.inl rfl)
    | @num m =>
      refine ⟨_, rfl, rfl, _, rfl, iteF ?_⟩
      refine ⟨_, rfl, a, _, 0, _, rfl, rfl, hS, at0, rfl, _, rfl, ?_⟩
      by_cases h1 : wd = "set"
      · subst h1
        obtain ⟨i, rfl⟩ := Option.isSome_iff_exists.mp (hv (.inr (.inl rfl)))
        exact iteT ⟨_, rfl, a, _, 2, _, rfl, rfl, hS, at2, Nat.le_of_ble_eq_true rfl, fun p hp => k _ p _ (Same.upd hp) upd_same .num (.inr (.inr ⟨_, rfl⟩))⟩
      · rw [nt _ h1]
        refine iteF ?_
        refine ⟨_, rfl, a, _, 0, _, rfl, rfl, hS, at0, rfl, _, rfl, ?_⟩
        by_cases h2 : wd = "add"
        · subst h2
          obtain ⟨i, rfl⟩ := Option.isSome_iff_exists.mp (hv (.inr (.inr rfl)))
          exact iteT ⟨_, rfl, _, rfl, a, _, 2, _, rfl, rfl, hS, at2, _, _, rfl, rfl, _, rfl, _, rfl, a, _, 2, _, rfl, rfl, hS, at2, _, _, rfl, rfl, Nat.le_of_ble_eq_true rfl, fun p hp => k _ p _ (Same.upd hp) upd_same .num (.inr (.inr ⟨_, rfl⟩))⟩
        · rw [nt _ h2]
          refine iteF ⟨_, rfl, _, rfl, Nat.le_of_ble_eq_true rfl, fun p hp => ?_⟩
          have e : doT (.inr m) wd v = (.inr m, some m) := by show (Sum.inr (doNum m wd v).1, (doNum m wd v).2) = _; unfold doNum; rw [if_neg h1, if_neg h2]
          rw [e] at k
          exact k _ p _ (Same.upd hp) upd_same .num (.inr (.inr ⟨_, rfl⟩))
def oD : Option Int → PyData
  | some i => .int i
  | none => .none
theorem isAll_opts {K : PySem.W.Frag} {H : Hp} : ∀ xs : List (Option Int), IsAll K H (xs.map oD) (xs.map aV)
  | [] => by simp [IsAll]
  | none :: r => by
    rw [List.map_cons, List.map_cons]
    simp only [IsAll]
    exact ⟨_, _, rfl, by simp [Is, oD, aV], isAll_opts r⟩
  | some i :: r => by
    rw [List.map_cons, List.map_cons]
    simp only [IsAll]
    exact ⟨_, _, rfl, by simp [Is, oD, aV], isAll_opts r⟩
theorem is_opts {K : PySem.W.Frag} {H : Hp} {a : Addr} {xs : List (Option Int)} (h : SqL K H a (xs.map aV)) : Is K H (.list (xs.map oD)) (.ref a) := by
  simp only [Is]
  exact ⟨a, _, rfl, h, isAll_opts xs⟩
theorem lay_opts : ∀ xs : List (Option Int), PyData.canLayAll0 (xs.map oD) = true
  | [] => by simp [PyData.canLayAll0]
  | none :: r => by simp [PyData.canLayAll0, PyData.canLay0, oD, lay_opts r]
  | some i :: r => by simp [PyData.canLayAll0, PyData.canLay0, oD, lay_opts r]
theorem depth_opts : ∀ xs : List (Option Int), PyData.depthAll (xs.map oD) = 0
  | [] => by simp [PyData.depthAll]
  | none :: r => by simp [PyData.depthAll, PyData.depth, oD, depth_opts r]
  | some i :: r => by simp [PyData.depthAll, PyData.depth, oD, depth_opts r]
theorem noBls_opts : ∀ xs : List (Option Int), noBls (xs.map oD) = true
  | [] => by simp [noBls]
  | none :: r => by simp [noBls, noBl, oD, noBls_opts r]
  | some i :: r => by simp [noBls, noBl, oD, noBls_opts r]
theorem cmp_opts (xs : List (Option Int)) : Cmp (.list (xs.map oD)) := by
  refine ⟨?_, by simp only [noBl]; exact noBls_opts xs⟩
  have h := depth_opts xs
  unfold SeqAt.shaped
  rw [Bool.and_eq_true]
  exact ⟨by simp only [PyData.canLay0]; exact lay_opts xs, decide_eq_true (by simp only [PyData.depth]; omega)⟩
theorem same_oD (x y : Option Int) : PySem.Spec.same (oD x) (oD y) = decide (x = y) := by
  cases x <;> cases y <;> simp [oD, PySem.Spec.same]
  rw [Bool.eq_iff_iff]
  simp
theorem sameAll_opts : ∀ xs ys : List (Option Int), PySem.Spec.sameAll (xs.map oD) (ys.map oD) = decide (xs = ys)
  | [], [] => by simp [PySem.Spec.sameAll]
  | [], _ :: _ => by simp [PySem.Spec.sameAll]
  | _ :: _, [] => by simp [PySem.Spec.sameAll]
  | x :: xs, y :: ys => by
    rw [List.map_cons, List.map_cons]
    simp only [PySem.Spec.sameAll]
    rw [same_oD, sameAll_opts xs ys, Bool.eq_iff_iff]
    simp
theorem same_opts (xs ys : List (Option Int)) : PySem.Spec.same (.list (xs.map oD)) (.list (ys.map oD)) = decide (xs = ys) := by
  simp only [PySem.Spec.same]
  exact sameAll_opts xs ys
structure Cl where
  b : Int
  e : Int
  d : Deed
  a : Option Int
def CallT (K : PySem.W.Frag) (H : Hp) (v : V) (c : Cl) : Prop := ∃ t q, v = .ref t ∧ SqT K H t [.int c.b, .int c.e, .ref q, aV c.a] ∧ DeedT K H q c.d.1 c.d.2
theorem CallT.keep {K : PySem.W.Frag} {H H' : Hp} {v : V} {c : Cl} (s : Same H H') (h : CallT K H v c) : CallT K H' v c :=
  let ⟨t, q, h1, h2, h3⟩ := h; ⟨t, q, h1, Same.tup s h2, Same.tup s h3⟩
theorem CallT.updL {K : PySem.W.Frag} {H : Hp} {g : Addr} {zs : List V} {o : HO} {v : V} {c : Cl} (hg : H g = some (.lst zs)) (h : CallT K H v c) : CallT K (upd H g o) v c :=
  let ⟨t, q, h1, h2, h3⟩ := h; ⟨t, q, h1, SqT.updL hg h2, SqT.updL hg h3⟩
def Ok (k : Str) (c : Cl) : Prop := c.b < c.e ∧ Good k c.d ∧ Sh c.d.1
structure Calls (K : PySem.W.Frag) (H : Hp) (k : Str) (vs : List V) (cs : List Cl) : Prop where
  len : vs.length = cs.length
  at_ : ∀ (i : Nat) (v : V), vs[i]? = some v → ∃ c, cs[i]? = some c ∧ CallT K H v c ∧ Ok k c
theorem Calls.keep {K : PySem.W.Frag} {H H' : Hp} {k : Str} {vs : List V} {cs : List Cl} (s : Same H H') (h : Calls K H k vs cs) : Calls K H' k vs cs :=
  ⟨h.len, fun i v e => let ⟨c, h1, h2, h3⟩ := h.at_ i v e; ⟨c, h1, h2.keep s, h3⟩⟩
theorem Calls.updL {K : PySem.W.Frag} {H : Hp} {g : Addr} {zs : List V} {o : HO} {k : Str} {vs : List V} {cs : List Cl} (hg : H g = some (.lst zs)) (h : Calls K H k vs cs) : Calls K (upd H g o) k vs cs :=
  ⟨h.len, fun i v e => let ⟨c, h1, h2, h3⟩ := h.at_ i v e; ⟨c, h1, h2.updL hg, h3⟩⟩
theorem Calls.nil {K : PySem.W.Frag} {H : Hp} {k : Str} : Calls K H k [] [] := ⟨rfl, fun i v h => by simp at h⟩
theorem Calls.put {K : PySem.W.Frag} {H : Hp} {k : Str} {vs : List V} {cs : List Cl} {v : V} {c : Cl} (n : Nat) (h : Calls K H k vs cs) (hn : n ≤ vs.length) (hc : CallT K H v c) (ho : Ok k c) : Calls K H k (vs.take n ++ v :: vs.drop n) (cs.take n ++ c :: cs.drop n) := by
  have hl := h.len
  refine ⟨by simp [hl], fun i u e => ?_⟩
  have l1 : (vs.take n).length = n := by rw [List.length_take]; omega
  have l2 : (cs.take n).length = n := by rw [List.length_take]; omega
  by_cases h1 : i < n
  · rw [List.getElem?_append_left (by omega), List.getElem?_take_of_lt h1] at e
    rw [List.getElem?_append_left (by omega), List.getElem?_take_of_lt h1]
    exact h.at_ i u e
  · rw [List.getElem?_append_right (by omega), l1] at e
    rw [List.getElem?_append_right (by omega), l2]
    cases q : i - n with
    | zero =>
      rw [q] at e
      exact ⟨c, rfl, (Option.some.inj e) ▸ hc, ho⟩
    | succ j =>
      rw [q, List.getElem?_cons_succ, List.getElem?_drop] at e
      rw [List.getElem?_cons_succ, List.getElem?_drop]
      exact h.at_ _ u e
theorem Calls.snoc {K : PySem.W.Frag} {H : Hp} {k : Str} {vs : List V} {cs : List Cl} {v : V} {c : Cl} (h : Calls K H k vs cs) (hc : CallT K H v c) (ho : Ok k c) : Calls K H k (vs ++ [v]) (cs ++ [c]) := by
  have := h.put vs.length (Nat.le_refl _) hc ho
  rw [List.take_length, List.drop_length, show vs.length = cs.length from h.len, List.take_length, List.drop_length] at this
  exact this
def cl0 : Cl := ⟨0, 0, ("", none), none⟩
def clAt (cs : List Cl) (i : Int) : Cl := cs.getD i.toNat cl0
theorem Calls.num {K : PySem.W.Frag} {H : Hp} {k : Str} {vs : List V} {cs : List Cl} (h : Calls K H k vs cs) {i : Int} (h0 : 0 ≤ i) (h1 : i < cs.length) : ∃ v, atI vs i = some v ∧ CallT K H v (clAt cs i) ∧ Ok k (clAt cs i) := by
  obtain ⟨v, hv, hv'⟩ := atI_in (xs := vs) h0 (by rw [h.len]; exact h1)
  obtain ⟨c, h2, h3, h4⟩ := h.at_ _ v hv'
  have e : clAt cs i = c := by unfold clAt; rw [List.getD_eq_getElem?_getD, h2]; rfl
  rw [e]
  exact ⟨v, hv, h3, h4⟩
def callD (c : Cl) : PyData := .tuple [.int c.b, .int c.e, dD c.d, oD c.a]
theorem is_call {K : PySem.W.Frag} {H : Hp} {v : V} {c : Cl} (h : CallT K H v c) : Is K H (callD c) v := by
  obtain ⟨t, q, rfl, h1, h2⟩ := h
  unfold callD
  have hd := is_deed h2
  cases ea : c.a <;> rw [ea] at h1 <;> simp only [Is, IsAll, oD] <;> exact ⟨t, _, rfl, h1, _, _, rfl, rfl, _, _, rfl, rfl, _, _, rfl, hd, _, _, rfl, rfl, rfl⟩
theorem isAll_calls {K : PySem.W.Frag} {H : Hp} {k : Str} : ∀ {vs : List V} {cs : List Cl}, Calls K H k vs cs → IsAll K H (cs.map callD) vs
  | [], [], _ => by simp [IsAll]
  | [], _ :: _, h => by have := h.len; simp at this
  | _ :: _, [], h => by have := h.len; simp at this
  | v :: vs, c :: cs, h => by
    rw [List.map_cons]
    simp only [IsAll]
    refine ⟨v, vs, rfl, ?_, isAll_calls (k := k) ⟨by have := h.len; simpa using this, fun i u hu => ?_⟩⟩
    · obtain ⟨c', h1, h2, _⟩ := h.at_ 0 v rfl
      have e' : c = c' := Option.some.inj h1
      rw [e']
      exact is_call h2
    · obtain ⟨c', h1, h2⟩ := h.at_ (i + 1) u (by simpa using hu)
      exact ⟨c', by simpa using h1, h2⟩
theorem Calls.ok {K : PySem.W.Frag} {H : Hp} {k : Str} {vs : List V} {cs : List Cl} (h : Calls K H k vs cs) : ∀ c ∈ cs, Ok k c := by
  intro c hc
  obtain ⟨i, hi⟩ := List.getElem?_of_mem hc
  obtain ⟨hl, _⟩ := List.getElem?_eq_some_iff.mp hi
  have hl' : i < vs.length := by rw [h.len]; exact hl
  obtain ⟨c', h1, _, h3⟩ := h.at_ i vs[i] (List.getElem?_eq_getElem hl')
  rw [hi] at h1
  rw [Option.some.inj h1]
  exact h3
theorem lay_oD (x : Option Int) : PyData.canLay0 (oD x) = true := by cases x <;> simp [oD, PyData.canLay0]
theorem depth_oD (x : Option Int) : PyData.depth (oD x) = 0 := by cases x <;> simp [oD, PyData.depth]
theorem noBl_oD (x : Option Int) : noBl (oD x) = true := by cases x <;> simp [oD, noBl]
theorem noBl_dD (d : Deed) : noBl (dD d) = true := by
  obtain ⟨wd, v⟩ := d
  cases v <;> simp [dD, noBl, noBls]
theorem lay_calls : ∀ cs : List Cl, (∀ c ∈ cs, c.d.1 ∈ words) → PyData.canLayAll0 (cs.map callD) = true
  | [], _ => by simp [PyData.canLayAll0]
  | c :: r, h => by
    have h1 := lay_deed (h c (by simp))
    have h2 := lay_calls r fun c hc => h c (by simp [hc])
    simp only [List.map_cons, PyData.canLayAll0, h2, Bool.and_true]
    simp [callD, PyData.canLay0, PyData.canLayAll0, h1, lay_oD]
theorem depth_calls : ∀ cs : List Cl, PyData.depthAll (cs.map callD) ≤ 2
  | [] => by simp [PyData.depthAll]
  | c :: r => by
    have := depth_calls r
    have h : PyData.depth (callD c) = 2 := by simp [callD, PyData.depth, PyData.depthAll, depth_deed, depth_oD]
    simp only [List.map_cons, PyData.depthAll, h]
    omega
theorem noBls_calls : ∀ cs : List Cl, noBls (cs.map callD) = true
  | [] => by simp [noBls]
  | c :: r => by
    have h : noBl (callD c) = true := by simp [callD, noBl, noBls, noBl_dD, noBl_oD]
    simp [noBls, h, noBls_calls r]
--@split
theorem mem_iota {n : Nat} {j : Int} : j ∈ iotaZ 0 n ↔ 0 ≤ j ∧ j < n := by
  unfold iotaZ
  rw [List.mem_map]
  constructor
  · rintro ⟨i, hi, rfl⟩
    have := List.mem_range.mp hi
    omega
  · rintro ⟨h0, h1⟩
    exact ⟨j.toNat, List.mem_range.mpr (by omega), by omega⟩
theorem nodup_iota (n : Nat) : (iotaZ 0 n).Nodup := by
  unfold iotaZ
  exact List.Pairwise.map _ (fun a b h z => h (by omega)) List.nodup_range
theorem perm_of_mem : ∀ {a b : List Int}, a.Nodup → b.Nodup → (∀ x, x ∈ a ↔ x ∈ b) → a.Perm b
  | [], b, _, _, h => by
    cases b with
    | nil => exact .nil
    | cons y r => exact absurd ((h y).mpr (by simp)) (by simp)
  | x :: a, b, ha, hb, h => by
    have hx : x ∈ b := (h x).mp (by simp)
    have hp := List.perm_cons_erase hx
    have hn := List.nodup_cons.mp ha
    refine (List.Perm.cons x (perm_of_mem hn.2 (hb.erase x) fun y => ?_)).trans hp.symm
    rw [hb.mem_erase_iff]
    constructor
    · intro hy
      exact ⟨fun z => hn.1 (z ▸ hy), (h y).mp (by simp [hy])⟩
    · rintro ⟨h1, h2⟩
      rcases List.mem_cons.mp ((h y).mpr h2) with z | z
      · exact absurd z h1
      · exact z
theorem getD_at {os : List Int} {i : Nat} (h : i < os.length) : os.getD i 0 = os[i] := by simp [List.getD_eq_getElem?_getD, h]
theorem mem_take {os : List Int} {i : Nat} {x : Int} : x ∈ os.take i ↔ ∃ q, ∃ h : q < os.length, q < i ∧ os[q] = x := by
  rw [List.mem_take_iff_getElem]
  constructor
  · rintro ⟨q, hq, e⟩
    exact ⟨q, by omega, by omega, e⟩
  · rintro ⟨q, h, hq, e⟩
    exact ⟨q, by omega, e⟩
theorem nodup_get {os : List Int} (h : os.Nodup) {i j : Nat} {hi : i < os.length} {hj : j < os.length} (e : os[i] = os[j]) : i = j := by
  have hp := List.pairwise_iff_getElem.mp (List.nodup_iff_pairwise_ne.mp h)
  rcases Nat.lt_trichotomy i j with z | z | z
  · exact absurd e (hp i j hi hj z)
  · exact z
  · exact absurd e.symm (hp j i hj hi z)
def spCT (K : PySem.W.Frag) : Sp := fun vs H Q _ => ∃ v c, vs = [v] ∧ CallT K H v c ∧ c.b < c.e ∧ Q .non H
def spAhead (K : PySem.W.Frag) : Sp := fun vs H Q _ => ∃ v w c c', vs = [v, w] ∧ CallT K H v c ∧ c.b < c.e ∧ CallT K H w c' ∧ c'.b < c'.e ∧ Q (.bl (decide (c.e < c'.b))) H
def spCC (K : PySem.W.Frag) : Sp := fun vs H Q _ => ∃ k l xs cs, vs = [.str k, .ref l] ∧ (k = "row" ∨ k = "number") ∧ SqL K H l xs ∧ Calls K H k xs cs ∧ ∀ H', Same H H' → Q .non H'
def eachB (n : Nat) (os : List Int) : Bool := os.isPerm (iotaZ 0 n)
def timeB (cs : List Cl) (os : List Int) : Bool := (List.range os.length).all fun i => !(os.take i).any fun f => decide ((clAt cs (os.getD i 0)).e < (clAt cs f).b)
def ansB (k : Str) (cs : List Cl) (os : List Int) : Bool := decide (ansT (t0 k) (os.map fun i => (clAt cs i).d) = os.map fun i => (clAt cs i).a)
def spOnce (K : PySem.W.Frag) : Sp := fun vs H Q _ => ∃ l o xs os, vs = [.ref l, .ref o] ∧ SqL K H l xs ∧ SqL K H o (os.map V.int) ∧ os.length < 64 ∧ xs.length ≤ 1000 ∧ ∀ H', Same H H' → Q (.bl (eachB xs.length os)) H'
def spTime (K : PySem.W.Frag) : Sp := fun vs H Q _ => ∃ (l o : Addr) (k : Str) (xs : List V) (cs : List Cl) (os : List Int), vs = [.ref l, .ref o] ∧ SqL K H l xs ∧ Calls K H k xs cs ∧ SqL K H o (os.map V.int) ∧ os.length < 64 ∧ (∀ i : Int, i ∈ os → 0 ≤ i ∧ i < cs.length) ∧ ∀ H', Same H H' → Q (.bl (timeB cs os)) H'
def spGive (K : PySem.W.Frag) : Sp := fun vs H Q _ => ∃ (k : Str) (l o : Addr) (xs : List V) (cs : List Cl) (os : List Int), vs = [.str k, .ref l, .ref o] ∧ (k = "row" ∨ k = "number") ∧ SqL K H l xs ∧ Calls K H k xs cs ∧ SqL K H o (os.map V.int) ∧ os.length < 64 ∧ (∀ i : Int, i ∈ os → 0 ≤ i ∧ i < cs.length) ∧
  ∀ H', Same H H' → Q (.bl (ansB k cs os)) H'
def spIs (K : PySem.W.Frag) : Sp := fun vs H Q _ => ∃ (k : Str) (l o : Addr) (xs : List V) (cs : List Cl) (os : List Int), vs = [.str k, .ref l, .ref o] ∧ (k = "row" ∨ k = "number") ∧ SqL K H l xs ∧ Calls K H k xs cs ∧ SqL K H o (os.map V.int) ∧ os.length < 64 ∧ xs.length ≤ 1000 ∧
  ∀ H', Same H H' → Q (.bl (eachB cs.length os && (timeB cs os && ansB k cs os))) H'
theorem ok_check_times (F : Fun K "check_times" "check_times" s_check_times f fd) (B : Bl mg) : FnOk P w K mg base CX0 1 f fd ["call"] (spCT K) := by
  refine F.ok sc_check_times (fun vs H Q E h => ?_) (fun cdv A outer s H vs Q E hr h => ?_)
  · obtain ⟨v, c, rfl, _⟩ := h; rfl
  · obtain ⟨v, c, rfl, ⟨t, q, rfl, h1, h2⟩, hbe, k⟩ := h
    refine ⟨_, (pss_one (ps_if (pt_cmpR op_ge (pe_ix ix_tup (pv 0) pe_int (fun _ _ => rfl)) (pe_ix ix_tup (pv 0) pe_int (fun _ _ => rfl)) (nomark _))
    (pss_one ps_never) pss_nil)), ?_⟩
    refine ⟨_, rfl, t, _, 0, _, rfl, rfl, h1, at0, _, rfl, t, _, 1, _, rfl, rfl, h1, at1, _, _, rfl, rfl, _, rfl, ?_⟩
    exact iteDN (by omega) k
theorem ok_ahead (F : Fun K "ahead" "ahead" s_ahead f fd) (B : Bl mg) (g_check_times : FnX P w K mg base "check_times" 1 (spCT K)) : FnOk P w K mg base CX0 2 f fd ["one", "other"] (spAhead K) := by
  refine F.ok sc_ahead (fun vs H Q E h => ?_) (fun cdv A outer s H vs Q E hr h => ?_)
  · obtain ⟨v, w, c, c', rfl, _⟩ := h; rfl
  · obtain ⟨v, w, c, c', rfl, hv, hbe, hw, hbe', k⟩ := h
    refine ⟨_, (pss_cons (ps_expr (pe_fnX g_check_times passN hr rfl (pa_cons (pv 0) pa_nil)))
    (pss_cons (ps_expr (pe_fnX g_check_times passN hr rfl (pa_cons (pv 1) pa_nil)))
    (pss_one (ps_ret (pe_cmpR op_lt (pe_ix ix_tup (pv 0) pe_int (fun _ _ => rfl)) (pe_ix ix_tup (pv 1) pe_int (fun _ _ => rfl)) (nomark _)))))), ?_⟩
    obtain ⟨t, q, rfl, h1, h2⟩ := id hv
    obtain ⟨t', q', rfl, h1', h2'⟩ := id hw
    refine ⟨_, rfl, _, c, rfl, hv, hbe, ?_⟩
    refine ⟨_, rfl, _, c', rfl, hw, hbe', ?_⟩
    exact ⟨_, rfl, t, _, 1, _, rfl, rfl, h1, at1, _, rfl, t', _, 0, _, rfl, rfl, h1', at0, _, _, rfl, rfl, k⟩
theorem ok_check_calls (F : Fun K "check_calls" "check_calls" s_check_calls f fd) (B : Bl mg) (T : Tp P w K mg st pt r b n) (g_check_deed : FnX P w K mg base "check_deed" 4 (spCd K b n)) (g_check_kind : FnX P w K mg base "check_kind" 1 (spCk n)) (g_check_times : FnX P w K mg base "check_times" 1 (spCT K)) :
    FnOk P w K mg base CX0 5 f fd ["kind", "calls"] (spCC K) := by
  refine F.ok sc_check_calls (fun vs H Q E h => ?_) (fun cdv A outer s H vs Q E hr h => ?_)
  · obtain ⟨k, l, xs, cs, rfl, _⟩ := h; rfl
  · obtain ⟨kd, l, xs, cs, rfl, hk, hS, hC, k⟩ := h
    have hkS : Sh kd := by rcases hk with rfl | rfl; exact ⟨by decide, by decide +kernel⟩; exact ⟨by decide, by decide +kernel⟩
    refine ⟨_, (pss_cons (ps_expr (pe_fnX g_check_kind passN hr rfl (pa_cons (pv 0) pa_nil)))
    (pss_one (ps_for PassesOwn.never rfl (pi_list (pv 1)) (pg_name (i := 2) sc_check_calls.nd rfl (by first | exact Or.inl rfl | exact Or.inr rfl))
    (pss_cons (ps_expr (pe_fnX g_check_times passN hr rfl (pa_cons (pv 2) pa_nil)))
    (pss_one (ps_expr (pe_fnX g_check_deed passN hr rfl (pa_cons (pv 0) (pa_cons (pe_ix ix_tup (pv 2) pe_int (fun _ _ => rfl)) pa_nil))))))))), ?_⟩
    refine ⟨_, rfl, kd, rfl, hkS, ?_⟩
    rw [if_pos hk]
    refine ⟨_, rfl, l, rfl, ⟨_, hS⟩, for_list (K := K) (a := l) (xs := xs) (fun i σ H2 => ∃ v, σ = [some (.str kd), some (.ref l), v] ∧ Same H H2) ⟨none, rfl, Same.refl _⟩ (fun i σ H2 _ ⟨_, _, s1⟩ => s1.seq hS) ?_ ?_⟩
    · rintro i y σ H2 hi ⟨v, rfl, s1⟩
      obtain ⟨c, _, hc, hbe, hG, hSh⟩ := hC.at_ i y hi
      have hc2 := hc.keep s1
      obtain ⟨t, q, rfl, h1, h2⟩ := id hc2
      refine ⟨_, rfl, _, c, rfl, hc2, hbe, ?_⟩
      refine ⟨_, rfl, _, rfl, t, _, 2, _, rfl, rfl, h1, at2, kd, c.d.1, q, _, rfl, h2, tail_deed c.d.2, hkS, hSh, fun H3 s3 => ?_⟩
      rw [if_pos hk, if_pos (good_can hG)]
      exact ⟨_, rfl, s1.trans s3⟩
    · rintro σ H2 ⟨v, rfl, s1⟩
      exact k H2 s1
theorem sorted_eq {a b : List Int} (hp : a.Perm b) (ha : a.Pairwise (· ≤ ·)) (hb : b.Pairwise (· ≤ ·)) : a = b := List.Perm.eq_of_pairwise (fun x y _ _ h1 h2 => Int.le_antisymm h1 h2) ha hb hp
theorem iota_sorted (n : Nat) : (iotaZ 0 n).Pairwise (· ≤ ·) := by
  unfold iotaZ
  exact List.Pairwise.map _ (fun a b h => by omega) (List.pairwise_lt_range)
theorem ok_has_each_once (F : Fun K "has_each_once" "has_each_once" s_has_each_once f fd) (B : Bl mg) : FnOk P w K mg base CX0 1 f fd ["calls", "order"] (spOnce K) := by
  refine F.ok sc_has_each_once (fun vs H Q E h => ?_) (fun cdv A outer s H vs Q E hr h => ?_)
  · obtain ⟨l, o, xs, os, rfl, _⟩ := h; rfl
  · obtain ⟨l, o, xs, os, rfl, hS, hO, h64, hx, k⟩ := h
    refine ⟨_, (pss_one (ps_ret (pe_cmpR (op_eqD hr.units) (pe_callB call_sortedI rfl B.sorted_ PyProof.Rows.boot_sorted (pa_cons (pv 1) pa_nil)) (pe_callTy (call_listR rfl) rfl B.list_ PyProof.Rows.boot_list (pa_cons (pe_callTy call_rangeE rfl B.range_ PyProof.Rows.boot_range (pa_cons (pe_callB call_len_seq rfl B.len_ PySem.boot_len (pa_cons (pv 0) pa_nil)) pa_nil)) pa_nil)) (nomark _)))), ?_⟩
    refine ⟨_, rfl, o, os, rfl, hO, h64, fun p1 ns hp1 hpm hsr => ?_⟩
    have s1 : Same H (upd H p1 (.lst (ns.map V.int))) := Same.upd hp1
    have q1 : (upd H p1 (.lst (ns.map V.int))) p1 = some (.lst (ns.map V.int)) := upd_same
    generalize upd H p1 (.lst (ns.map V.int)) = H1 at s1 q1 ⊢
    refine ⟨_, rfl, l, xs, rfl, .inl (s1.seq hS), (xs.length : Int), rfl, fun p2 hp2 => ?_⟩
    have s2 : Same H1 (upd H1 p2 (.rng 0 xs.length)) := Same.upd hp2
    have q2 : (upd H1 p2 (.rng 0 xs.length)) p2 = some (.rng 0 xs.length) := upd_same
    generalize upd H1 p2 (.rng 0 xs.length) = H2 at s2 q2 ⊢
    refine ⟨p2, _, rfl, q2, by omega, by omega, fun p3 hp3 => ?_⟩
    have s3 : Same H2 (upd H2 p3 (.lst ((iotaZ 0 (xs.length : Int).toNat).map V.int))) := Same.upd hp3
    refine ⟨_, _, is_ints (SqL.of (s3 _ _ (s2 _ _ q1))), is_ints (SqL.of upd_same), cmp_ints _, cmp_ints _, ?_⟩
    rw [same_ints']
    have e : decide (ns = iotaZ 0 (xs.length : Int).toNat) = eachB xs.length os := by
      rw [show (xs.length : Int).toNat = xs.length by omega]
      unfold eachB
      rw [Bool.eq_iff_iff, decide_eq_true_eq, List.isPerm_iff]
      constructor
      · rintro rfl
        exact hpm.symm
      · intro h
        exact sorted_eq (hpm.trans h) hsr (iota_sorted _)
    rw [e]
    exact k _ ((s1.trans s2).trans s3)
theorem ok_keeps_time (F : Fun K "keeps_time" "keeps_time" s_keeps_time f fd) (B : Bl mg) (g_ahead : FnX P w K mg base "ahead" 2 (spAhead K)) : FnOk P w K mg base CX0 3 f fd ["calls", "order"] (spTime K) := by
  refine F.ok sc_keeps_time (fun vs H Q E h => ?_) (fun cdv A outer s H vs Q E hr h => ?_)
  · obtain ⟨l, o, k, xs, cs, os, rfl, _⟩ := h; rfl
  · obtain ⟨l, o, kd, xs, cs, os, rfl, hS, hC, hO, h64, hin, k⟩ := h
    have hsz : sizeLine = 16777216 := sizeLine_eq
    refine ⟨_, (pss_cons (ps_for PassesOwn.never rfl (pi_enum rfl B.enumerate_ (pa_cons (pv 1) pa_nil)) (pg_tup rfl (pgs_cons (pg_name (i := 2) sc_keeps_time.nd rfl (by first | exact Or.inl rfl | exact Or.inr rfl)) (pgs_cons (pg_name (i := 3) sc_keeps_time.nd rfl (by first | exact Or.inl rfl | exact Or.inr rfl)) pgs_nil)))
    (pss_one (ps_if (pt_val (pe_callB (call_anyB rfl) rfl B.any_ PyProof.Rows.boot_any (pa_cons (pe_lc (cn_of (sc := defScope s_keeps_time) (N0 := nm_keeps_time) (ns := ["calls", "number"]) (idx := [0, 3]) (by decide +kernel)) rfl (pi_list (pe_slice sl_list (pv 1) po_none (po_some (pv 2)))) (fun _ _ _ _ => pif_nil) (fun _ _ _ _ => (pe_fnX g_ahead passN hr rfl (pa_cons (pe_ix (ix_listK K) (pv 1) (pv 2) (fun _ _ => rfl)) (pa_cons (pe_ix (ix_listK K) (pv 1) (pv 0) (fun _ _ => rfl)) pa_nil))))) pa_nil)))
    (pss_one (ps_ret pe_bl)) pss_nil)))
    (pss_one (ps_ret pe_bl))), ?_⟩
    have hget : ∀ (i : Nat) (y : V), (os.map V.int)[i]? = some y → i < os.length ∧ y = V.int (os.getD i 0) := fun i y hi => by
      rw [List.getElem?_map] at hi
      obtain ⟨z, hz, rfl⟩ := Option.map_eq_some_iff.mp hi
      refine ⟨(List.getElem?_eq_some_iff.mp hz).1, ?_⟩
      rw [List.getD_eq_getElem?_getD, hz]; rfl
    refine ⟨_, rfl, o, rfl, ⟨_, hO⟩, for_enum (K := K) (a := o) (xs := os.map V.int) (fun i σ H2 => ∃ v2 v3, σ = [some (.ref l), some (.ref o), v2, v3] ∧ Same H H2 ∧ ∀ j < i, ((os.take j).any fun f => decide ((clAt cs (os.getD j 0)).e < (clAt cs f).b)) = false)
      ⟨none, none, rfl, Same.refl _, fun j hj => absurd hj (Nat.not_lt_zero _)⟩ (fun i σ H2 _ ⟨_, _, _, s1, _⟩ => s1.seq hO) ?_ ?_⟩
    · rintro i y t σ H2 hi ⟨v2, v3, rfl, s1, hok⟩ ht
      obtain ⟨hil, rfl⟩ := hget i y hi
      have s2 : Same H2 (upd H2 t (.tup [.int i, .int (os.getD i 0)])) := Same.upd ht
      refine ⟨t, _, rfl, SqT.of upd_same, rfl, _, _, rfl, _, _, rfl, rfl, ?_⟩
      generalize upd H2 t (.tup [.int i, .int (os.getD i 0)]) = H3 at s2 ⊢
      have s3 := s1.trans s2
      have hii := hin (os.getD i 0) (by rw [List.getD_eq_getElem?_getD, List.getElem?_eq_getElem hil]; exact List.getElem_mem hil)
      refine ⟨_, rfl, _, rfl, _, rfl, o, _, rfl, s3.seq hO, fun p hp => ?_⟩
      have ecut : cutV (os.map V.int) none (some (i : Int)) = (os.take i).map V.int := by
        unfold cutV
        rw [HT.sIx_none, show HT.sIx (os.map V.int).length (os.map V.int).length (some ((i : Nat) : Int)) = i from by rw [HT.sIx_nat, List.length_map]; omega]
        simp [List.map_take]
      rw [ecut]
      have s4 : Same H3 (upd H3 p (.lst ((os.take i).map V.int))) := Same.upd hp
      have q4 : (upd H3 p (.lst ((os.take i).map V.int))) p = some (.lst ((os.take i).map V.int)) := upd_same
      generalize upd H3 p (.lst ((os.take i).map V.int)) = H4 at s4 q4 ⊢
      have s5 := s3.trans s4
      refine ⟨p, rfl, ⟨_, SqL.of q4⟩, lc_list (xs := (os.take i).map V.int) (fun _ => true) (fun v => match v with | .int f => .bl (decide ((clAt cs (os.getD i 0)).e < (clAt cs f).b)) | v => v) (SqL.of q4) (by rw [List.length_map, List.length_take]; omega) ?_ ?_ ?_⟩
      · intro x hx D ys R hD hR
        exact hR
      · intro x hx _ D ys R hD hR
        obtain ⟨f, hf, rfl⟩ := List.mem_map.mp hx
        have hff := hin f (List.mem_of_mem_take hf)
        have s6 := s5.trans (Same.upd (o := .lst ys) hD)
        obtain ⟨u, hu, hcu, hou⟩ := (hC.keep s6).num hii.1 hii.2
        obtain ⟨u', hu', hcu', hou'⟩ := (hC.keep s6).num hff.1 hff.2
        exact ⟨_, rfl, _, rfl, l, _, _, _, rfl, rfl, s6.seq hS, hu, _, rfl, _, rfl, l, _, _, _, rfl, rfl, s6.seq hS, hu', _, _, _, _, rfl, hcu, hou.1, hcu', hou'.1, hR⟩
      intro D hD
      have emap : (((os.take i).map V.int).filter fun _ => true).map (fun v => match v with | .int f => V.bl (decide ((clAt cs (os.getD i 0)).e < (clAt cs f).b)) | v => v) = ((os.take i).map fun f => decide ((clAt cs (os.getD i 0)).e < (clAt cs f).b)).map V.bl := by
        rw [List.filter_eq_self.mpr fun _ _ => rfl, List.map_map, List.map_map]; rfl
      rw [emap]
      refine ⟨D, _, rfl, SqL.of upd_same, _, rfl, ?_⟩
      have eany : ((os.take i).map fun f => decide ((clAt cs (os.getD i 0)).e < (clAt cs f).b)).any id = (os.take i).any fun f => decide ((clAt cs (os.getD i 0)).e < (clAt cs f).b) := by rw [List.any_map]; rfl
      rw [eany]
      have s6 := s5.trans (Same.upd (o := .lst (((os.take i).map fun f => decide ((clAt cs (os.getD i 0)).e < (clAt cs f).b)).map V.bl)) hD)
      cases eb : ((os.take i).any fun f => decide ((clAt cs (os.getD i 0)).e < (clAt cs f).b)) with
      | true =>
        refine iteT ?_
        have ef : timeB cs os = false := by
          unfold timeB
          rw [List.all_eq_false]
          exact ⟨i, List.mem_range.mpr hil, by rw [eb]; decide⟩
        have := k _ s6
        rw [ef] at this
        exact this
      | false =>
        refine iteF ⟨_, _, rfl, s6, fun j hj => ?_⟩
        rcases Nat.lt_succ_iff_lt_or_eq.mp hj with h | rfl
        · exact hok j h
        · exact eb
    · rintro σ H2 ⟨v2, v3, rfl, s1, hok⟩
      rw [List.length_map] at hok
      have et : timeB cs os = true := by
        unfold timeB
        rw [List.all_eq_true]
        intro i hi
        rw [hok i (List.mem_range.mp hi)]; rfl
      have := k _ s1
      rw [et] at this
      exact this
--@split
theorem Calls.refs {K : PySem.W.Frag} {H : Hp} {k : Str} {vs : List V} {cs : List Cl} (h : Calls K H k vs cs) : ∃ qf : Nat → Addr, ∀ (i : Nat) (v : V) (c : Cl), vs[i]? = some v → cs[i]? = some c → ∃ t, v = .ref t ∧ SqT K H t [.int c.b, .int c.e, .ref (qf i), aV c.a] ∧ DeedT K H (qf i) c.d.1 c.d.2 := by
  have hx : ∀ i : Nat, ∃ q : Addr, ∀ (v : V) (c : Cl), vs[i]? = some v → cs[i]? = some c → ∃ t, v = .ref t ∧ SqT K H t [.int c.b, .int c.e, .ref q, aV c.a] ∧ DeedT K H q c.d.1 c.d.2 := fun i => by
    cases e : vs[i]? with
    | none => exact ⟨0, fun v c z => nomatch z⟩
    | some v =>
      obtain ⟨c, h1, ⟨t, q, h2, h3, h4⟩, _⟩ := h.at_ i v e
      refine ⟨q, fun v' c' hv hc => ?_⟩
      cases hv
      rw [h1] at hc
      cases hc
      exact ⟨t, h2, h3, h4⟩
  exact ⟨fun i => Classical.choose (hx i), fun i => Classical.choose_spec (hx i)⟩
theorem Calls.numQ {K : PySem.W.Frag} {H : Hp} {k : Str} {vs : List V} {cs : List Cl} (h : Calls K H k vs cs) {qf : Nat → Addr} (hq : ∀ (i : Nat) (v : V) (c : Cl), vs[i]? = some v → cs[i]? = some c → ∃ t, v = .ref t ∧ SqT K H t [.int c.b, .int c.e, .ref (qf i), aV c.a] ∧ DeedT K H (qf i) c.d.1 c.d.2)
    {i : Int} (h0 : 0 ≤ i) (h1 : i < cs.length) : ∃ t, atI vs i = some (.ref t) ∧ SqT K H t [.int (clAt cs i).b, .int (clAt cs i).e, .ref (qf i.toNat), aV (clAt cs i).a] ∧ DeedT K H (qf i.toNat) (clAt cs i).d.1 (clAt cs i).d.2 ∧ Ok k (clAt cs i) := by
  obtain ⟨v, hv, hv'⟩ := atI_in (xs := vs) h0 (by rw [h.len]; exact h1)
  obtain ⟨c, h2, h3, h4⟩ := h.at_ _ v hv'
  have e : clAt cs i = c := by unfold clAt; rw [List.getD_eq_getElem?_getD, h2]; rfl
  obtain ⟨t, rfl, h5, h6⟩ := hq _ v c hv' h2
  rw [e]
  exact ⟨t, hv, h5, h6, h4⟩
theorem ok_gives_the_answers (F : Fun K "gives_the_answers" "gives_the_answers" s_gives_the_answers f fd) (B : Bl mg) (g_answers : FnX P w K mg base "answers" 5 (spAns K)) : FnOk P w K mg base CX0 6 f fd ["kind", "calls", "order"] (spGive K) := by
  refine F.ok sc_gives_the_answers (fun vs H Q E h => ?_) (fun cdv A outer s H vs Q E hr h => ?_)
  · obtain ⟨k, l, o, xs, cs, os, rfl, _⟩ := h; rfl
  · obtain ⟨kd, l, o, xs, cs, os, rfl, hk, hS, hC, hO, h64, hin, k⟩ := h
    have hsz : sizeLine = 16777216 := sizeLine_eq
    obtain ⟨qf, hqf⟩ := hC.refs
    refine ⟨_, (pss_one (ps_ret (pe_cmpR (op_eqD hr.units) (pe_fnX g_answers passN hr rfl (pa_cons (pv 0) (pa_cons (pe_lc (cn_of (sc := defScope s_gives_the_answers) (N0 := nm_gives_the_answers) (ns := ["calls"]) (idx := [1]) (by decide +kernel)) rfl (pi_list (pv 2)) (fun _ _ _ _ => pif_nil) (fun _ _ _ _ => (pe_ix (ix_tupK K) (pe_ix (ix_listK K) (pv 1) (pv 0) (fun _ _ => rfl)) pe_int (fun _ _ => rfl)))) pa_nil))) (pe_lc (cn_of (sc := defScope s_gives_the_answers) (N0 := nm_gives_the_answers) (ns := ["calls"]) (idx := [1]) (by decide +kernel)) rfl (pi_list (pv 2)) (fun _ _ _ _ => pif_nil) (fun _ _ _ _ => (pe_ix (ix_tupK K) (pe_ix (ix_listK K) (pv 1) (pv 0) (fun _ _ => rfl)) pe_int (fun _ _ => rfl)))) (nomark _)))), ?_⟩
    refine ⟨_, rfl, _, rfl, o, rfl, ⟨_, hO⟩, lc_list (xs := os.map V.int) (fun _ => true) (fun v => match v with | .int i => .ref (qf i.toNat) | v => v) hO (by rw [List.length_map]; omega) ?_ ?_ ?_⟩
    · intro x hx D ys R hD hR
      exact hR
    · intro x hx _ D ys R hD hR
      obtain ⟨i, hi, rfl⟩ := List.mem_map.mp hx
      have hii := hin i hi
      have s1 : Same H (upd H D (.lst ys)) := Same.upd hD
      obtain ⟨t, ht, h1, _⟩ := hC.numQ hqf hii.1 hii.2
      exact ⟨_, rfl, _, rfl, l, _, _, _, rfl, rfl, s1.seq hS, ht, t, _, 2, _, rfl, rfl, Same.tup s1 h1, at2, hR⟩
    intro D hD
    have e1 : ((os.map V.int).filter fun _ => true).map (fun v => match v with | .int i => V.ref (qf i.toNat) | v => v) = os.map fun i => V.ref (qf i.toNat) := by
      rw [List.filter_eq_self.mpr fun _ _ => rfl, List.map_map]; rfl
    rw [e1]
    have s1 : Same H (upd H D (.lst (os.map fun i => V.ref (qf i.toNat)))) := Same.upd hD
    have q1 : (upd H D (.lst (os.map fun i => V.ref (qf i.toNat)))) D = some (.lst (os.map fun i => V.ref (qf i.toNat))) := upd_same
    generalize upd H D (.lst (os.map fun i => V.ref (qf i.toNat))) = H1 at s1 q1 ⊢
    have hD1 : Deeds K H1 kd (os.map fun i => V.ref (qf i.toNat)) (os.map fun i => (clAt cs i).d) := by
      refine ⟨by simp, fun i v e => ?_⟩
      rw [List.getElem?_map] at e
      obtain ⟨z, hz, rfl⟩ := Option.map_eq_some_iff.mp e
      have hzz := hin z (List.mem_of_getElem? hz)
      obtain ⟨t, _, _, h3, h4⟩ := hC.numQ hqf hzz.1 hzz.2
      exact ⟨_, _, rfl, by rw [List.getElem?_map, hz]; rfl, Same.tup s1 h3, h4.2.1, h4.2.2⟩
    refine ⟨kd, D, _, _, rfl, hk, SqL.of q1, hD1, by rw [List.length_map]; omega, fun H2 g s2 hg => ?_⟩
    have s3 := s1.trans s2
    refine ⟨_, rfl, o, rfl, ⟨_, s3.seq hO⟩, lc_list (xs := os.map V.int) (fun _ => true) (fun v => match v with | .int i => aV (clAt cs i).a | v => v) (s3.seq hO) (by rw [List.length_map]; omega) ?_ ?_ ?_⟩
    · intro x hx D ys R hD hR
      exact hR
    · intro x hx _ D ys R hD hR
      obtain ⟨i, hi, rfl⟩ := List.mem_map.mp hx
      have hii := hin i hi
      have s4 : Same H (upd H2 D (.lst ys)) := s3.trans (Same.upd hD)
      obtain ⟨t, ht, h1, _⟩ := hC.numQ hqf hii.1 hii.2
      exact ⟨_, rfl, _, rfl, l, _, _, _, rfl, rfl, s4.seq hS, ht, t, _, 3, _, rfl, rfl, Same.tup s4 h1, at3, hR⟩
    intro D2 hD2
    have e2 : ((os.map V.int).filter fun _ => true).map (fun v => match v with | .int i => aV (clAt cs i).a | v => v) = (os.map fun i => (clAt cs i).a).map aV := by
      rw [List.filter_eq_self.mpr fun _ _ => rfl, List.map_map, List.map_map]; rfl
    rw [e2]
    have s5 := s3.trans (Same.upd (o := .lst ((os.map fun i => (clAt cs i).a).map aV)) hD2)
    refine ⟨_, _, is_opts (SqL.of (Same.upd hD2 _ _ hg)), is_opts (SqL.of upd_same), cmp_opts _, cmp_opts _, ?_⟩
    rw [same_opts]
    exact k _ s5
theorem each_in {n : Nat} {os : List Int} (h : eachB n os = true) : ∀ i : Int, i ∈ os → 0 ≤ i ∧ i < n := fun i hi => mem_iota.mp ((List.isPerm_iff.mp h).mem_iff.mp hi)
theorem ok_is_order (F : Fun K "is_order" "is_order" s_is_order f fd) (B : Bl mg) (g_check_calls : FnX P w K mg base "check_calls" 5 (spCC K)) (g_gives_the_answers : FnX P w K mg base "gives_the_answers" 6 (spGive K)) (g_has_each_once : FnX P w K mg base "has_each_once" 1 (spOnce K)) (g_keeps_time : FnX P w K mg base "keeps_time" 3 (spTime K)) :
    FnOk P w K mg base CX0 7 f fd ["kind", "calls", "order"] (spIs K) := by
  refine F.ok sc_is_order (fun vs H Q E h => ?_) (fun cdv A outer s H vs Q E hr h => ?_)
  · obtain ⟨k, l, o, xs, cs, os, rfl, _⟩ := h; rfl
  · obtain ⟨kd, l, o, xs, cs, os, rfl, hk, hS, hC, hO, h64, hx, k⟩ := h
    refine ⟨_, (pss_cons (ps_expr (pe_fnX g_check_calls passN hr rfl (pa_cons (pv 0) (pa_cons (pv 1) pa_nil))))
    (pss_one (ps_ret (pe_and (pe_fnX g_has_each_once passN hr rfl (pa_cons (pv 1) (pa_cons (pv 2) pa_nil))) (pe_and (pe_fnX g_keeps_time passN hr rfl (pa_cons (pv 1) (pa_cons (pv 2) pa_nil))) (pe_one (pe_fnX g_gives_the_answers passN hr rfl (pa_cons (pv 0) (pa_cons (pv 1) (pa_cons (pv 2) pa_nil)))))))))), ?_⟩
    refine ⟨_, rfl, _, rfl, kd, l, xs, cs, rfl, hk, hS, hC, fun H1 s1 => ?_⟩
    refine ⟨_, rfl, _, rfl, l, o, xs, os, rfl, s1.seq hS, s1.seq hO, h64, hx, fun H2 s2 => ⟨_, rfl, ?_⟩⟩
    have s12 := s1.trans s2
    rw [hC.len]
    cases e1 : eachB cs.length os with
    | false =>
      have := k _ s12
      rw [e1] at this
      exact iteF this
    | true =>
      have hin := each_in e1
      refine iteT ⟨_, rfl, _, rfl, l, o, kd, xs, cs, os, rfl, s12.seq hS, hC.keep s12, s12.seq hO, h64, hin, fun H3 s3 => ⟨_, rfl, ?_⟩⟩
      have s13 := s12.trans s3
      cases e2 : timeB cs os with
      | false =>
        have := k _ s13
        rw [e1, e2] at this
        exact iteF this
      | true =>
        refine iteT ⟨_, rfl, _, rfl, _, rfl, kd, l, o, xs, cs, os, rfl, hk, s13.seq hS, hC.keep s13, s13.seq hO, h64, hin, fun H4 s4 => ?_⟩
        have := k _ (s13.trans s4)
        rw [e1, e2] at this
        exact this
--@split
theorem hu100 {A : Around} {k : Nat} (hr : Room k A) : A.units + 100 < cLine := by
  have := hr.un
  omega
def bOf (cs : List Cl) (i : Int) : Int := (clAt cs i).b
def eOf (cs : List Cl) (i : Int) : Int := (clAt cs i).e
def leftOf (n : Nat) (gs : List Int) : List Int := (iotaZ 0 n).filter fun x => !inV (V.int x) (gs.map V.int)
def freeOf (cs : List Cl) (gs : List Int) : List Int :=
  (leftOf cs.length gs).filter fun i => (leftOf cs.length gs).all fun j => decide (bOf cs i ≤ eOf cs j)
theorem mem_left {n : Nat} {gs : List Int} {i : Int} (h : i ∈ leftOf n gs) : 0 ≤ i ∧ i < n := by
  unfold leftOf iotaZ at h
  obtain ⟨j, hj, rfl⟩ := List.mem_map.mp (List.mem_filter.mp h).1
  have := List.mem_range.mp hj
  omega
theorem free_min {cs : List Cl} {gs : List Int} {M : Int} (h1 : M ∈ (leftOf cs.length gs).map (eOf cs)) (h2 : ∀ a ∈ (leftOf cs.length gs).map (eOf cs), M ≤ a) :
    (leftOf cs.length gs).filter (fun i => decide (bOf cs i ≤ M)) = freeOf cs gs := by
  unfold freeOf
  refine List.filter_congr fun i hi => ?_
  rw [Bool.eq_iff_iff, decide_eq_true_eq, List.all_eq_true]
  constructor
  · intro h j hj
    have := h2 (eOf cs j) (List.mem_map.mpr ⟨j, hj, rfl⟩)
    exact decide_eq_true (Int.le_trans h this)
  · intro h
    obtain ⟨j, hj, e⟩ := List.mem_map.mp h1
    rw [← e]
    exact of_decide_eq_true (h j hj)
theorem free_nil {cs : List Cl} {gs : List Int} (h : leftOf cs.length gs = []) : freeOf cs gs = [] := by unfold freeOf; rw [h]; rfl
def eV (cs : List Cl) : V → V
  | .int i => .int (eOf cs i)
  | _ => .non
def bV (cs : List Cl) (M : Int) : V → Bool
  | .int i => decide (bOf cs i ≤ M)
  | _ => false
theorem map_eV (cs : List Cl) (L : List Int) : ((L.map V.int).filter fun _ => true).map (eV cs) = (L.map (eOf cs)).map V.int := by
  rw [List.filter_eq_self.mpr (fun _ _ => rfl), List.map_map, List.map_map]
  rfl
theorem filter_bV (cs : List Cl) (M : Int) : ∀ L : List Int, ((L.map V.int).filter (bV cs M)).map id = (L.filter fun i => decide (bOf cs i ≤ M)).map V.int
  | [] => rfl
  | i :: r => by
    have ih := filter_bV cs M r
    rw [List.map_id] at ih ⊢
    rw [List.map_cons, List.filter_cons, List.filter_cons]
    have e : bV cs M (V.int i) = decide (bOf cs i ≤ M) := rfl
    rw [e]
    cases decide (bOf cs i ≤ M) with
    | true => rw [if_pos rfl, if_pos rfl, List.map_cons, ih]
    | false => rw [if_neg Bool.false_ne_true, if_neg Bool.false_ne_true, ih]

def spFree (K : PySem.W.Frag) : Sp := fun vs H Q _ => ∃ (c g : Addr) (k : Str) (xs : List V) (cs : List Cl) (gs : List Int), vs = [.ref c, .ref g] ∧ SqL K H c xs ∧ Calls K H k xs cs ∧ SqL K H g (gs.map V.int) ∧ xs.length ≤ 1000 ∧
  ∀ (D : Addr) (H' : Hp), Same H H' → H' D = some (.lst ((freeOf cs gs).map V.int)) → Q (.ref D) H'
theorem ok_free_calls (F : Fun K "free_calls" "free_calls" s_free_calls f fd) (B : Bl mg) (g_check_times : FnX P w K mg base "check_times" 1 (spCT K)) : FnOk P w K mg base CX0 2 f fd ["calls", "gone"] (spFree K) := by
  refine F.ok sc_free_calls (fun vs H Q E h => ?_) (fun cdv A outer s H vs Q E hr h => ?_)
  · obtain ⟨c, g, kd, xs, cs, gs, rfl, _⟩ := h; rfl
  · obtain ⟨c, g, kd, xs, cs, gs, rfl, hS, hC, hG, hlen, k⟩ := h
    have hsz : sizeLine = 16777216 := sizeLine_eq
    refine ⟨_, (pss_cons (ps_for PassesOwn.never rfl (pi_list (pv 0)) (pg_name (i := 2) sc_free_calls.nd rfl (by first | exact Or.inl rfl | exact Or.inr rfl))
    (pss_one (ps_expr (pe_fnX g_check_times passN hr rfl (pa_cons (pv 2) pa_nil)))))
    (pss_cons (ps_setLC (i := 3) (cn_of (sc := defScope s_free_calls) (N0 := nm_free_calls) (ns := ["gone"]) (idx := [1]) (by decide +kernel)) rfl sc_free_calls.nd rfl (by first | exact Or.inl rfl | exact Or.inr rfl) (pi_range1 rfl B.range_ (pa_cons (pe_callB call_len_seq rfl B.len_ PySem.boot_len (pa_cons (pv 0) pa_nil)) pa_nil)) (fun _ _ _ _ => (pif_one (pt_cmpR (op_notIn_seqK K) (pv 0) (pv 1) rfl))) (fun _ _ _ _ => (pv 0)) rfl)
    (pss_cons (ps_if (pt_not (pt_truth (pv 3) (fun _ => rfl)))
    (pss_one (ps_ret (pe_lst pa_nil))) pss_nil)
    (pss_cons (ps_set (i := 4) sc_free_calls.nd rfl (by first | exact Or.inl rfl | exact Or.inr rfl) (pe_callB (call_minL rfl) rfl B.min_ PyProof.Rows.boot_min (pa_cons (pe_lc (cn_of (sc := defScope s_free_calls) (N0 := nm_free_calls) (ns := ["calls"]) (idx := [0]) (by decide +kernel)) rfl (pi_list (pv 3)) (fun _ _ _ _ => pif_nil) (fun _ _ _ _ => (pe_ix (ix_tupK K) (pe_ix (ix_listK K) (pv 1) (pv 0) (fun _ _ => rfl)) pe_int (fun _ _ => rfl)))) pa_nil)))
    (pss_one (ps_ret (pe_lc (cn_of (sc := defScope s_free_calls) (N0 := nm_free_calls) (ns := ["first_end", "calls"]) (idx := [4, 0]) (by decide +kernel)) rfl (pi_list (pv 3)) (fun _ _ _ _ => (pif_one (pt_cmpR op_le (pe_ix (ix_tupK K) (pe_ix (ix_listK K) (pv 2) (pv 0) (fun _ _ => rfl)) pe_int (fun _ _ => rfl)) (pv 1) (nomark _)))) (fun _ _ _ _ => (pv 0))))))))), ?_⟩
    refine ⟨_, rfl, c, rfl, ⟨_, hS⟩, for_list (K := K) (a := c) (xs := xs) (fun i σ H2 => (∃ v, σ = [some (.ref c), some (.ref g), v, none, none]) ∧ H2 = H) ⟨⟨none, rfl⟩, rfl⟩ (fun i σ H2 _ q => by obtain ⟨_, rfl⟩ := q; exact hS) ?_ ?_⟩
    · rintro i y σ H2 hi ⟨⟨v, rfl⟩, rfl⟩
      obtain ⟨cl, _, hc, hbe, _⟩ := hC.at_ i y hi
      exact ⟨_, rfl, _, cl, rfl, hc, hbe, ⟨_, rfl⟩, rfl⟩
    rintro σ H2 ⟨⟨v, rfl⟩, rfl⟩
    have nt : ((xs.length : Int)).toNat = xs.length := by omega
    -- left
    refine ⟨_, rfl, c, xs, rfl, .inl hS, (xs.length : Int), rfl, by omega, by omega, lc_range (lo := 0) (n := ((xs.length : Int)).toNat) (fun x => !inV (V.int x) (gs.map V.int)) V.int (by omega) ?_ ?_ ?_⟩
    · intro x _ _ D ys R hD hR
      exact ⟨_, rfl, _, rfl, g, gs.map V.int, rfl, .inl ((Same.upd hD).seq hG), rfl, flat_ints gs, _, rfl, hR⟩
    · intro x _ _ _ D ys R hD hR
      exact ⟨_, rfl, hR⟩
    intro D hD
    rw [nt]
    have hn : xs.length = cs.length := hC.len
    rw [hn]
    have eL : (iotaZ 0 cs.length).filter (fun x => !inV (V.int x) (gs.map V.int)) = leftOf cs.length gs := rfl
    rw [eL]
    have hS1 : SqL K (upd H2 D (.lst ((leftOf cs.length gs).map V.int))) c xs := (Same.upd hD).seq hS
    have hC1 : Calls K (upd H2 D (.lst ((leftOf cs.length gs).map V.int))) kd xs cs := hC.keep (Same.upd hD)
    have s1 : Same H2 (upd H2 D (.lst ((leftOf cs.length gs).map V.int))) := Same.upd hD
    generalize hH1 : upd H2 D (.lst ((leftOf cs.length gs).map V.int)) = H1 at hS1 hC1 s1 ⊢
    have hD1 : H1 D = some (.lst ((leftOf cs.length gs).map V.int)) := by rw [← hH1]; exact upd_same
    -- if not left: return []
    refine ⟨_, rfl, _, .inl ⟨_, SqL.of hD1, rfl⟩, ?_⟩
    by_cases hL : leftOf cs.length gs = []
    · refine iteP (by rw [hL]; rfl) ?_
      refine ⟨Nat.zero_le _, fun p hp => ?_⟩
      refine k p _ (s1.trans (Same.upd hp)) ?_
      rw [upd_same, free_nil hL]
      rfl
    have hne : ((leftOf cs.length gs).map V.int).isEmpty = false := by
      cases q : leftOf cs.length gs with
      | nil => exact absurd q hL
      | cons _ _ => rfl
    refine iteN (by rw [hne]; decide) ?_
    have hlenL : ((leftOf cs.length gs).map V.int).length ≤ sizeLine := by
      rw [List.length_map]
      have h1 : (leftOf cs.length gs).length ≤ (iotaZ 0 cs.length).length := List.length_filter_le _ _
      have h2 : (iotaZ 0 cs.length).length = cs.length := by simp [iotaZ]
      omega
    have inL : ∀ x ∈ (leftOf cs.length gs).map V.int, ∃ i, x = V.int i ∧ 0 ≤ i ∧ i < xs.length := fun x hx => by
      obtain ⟨i, hi, rfl⟩ := List.mem_map.mp hx
      have := mem_left hi
      exact ⟨i, rfl, this.1, by omega⟩
    -- first_end
    refine ⟨_, rfl, D, rfl, ⟨_, SqL.of hD1⟩, lc_list (xs := (leftOf cs.length gs).map V.int) (fun _ => true) (eV cs) (SqL.of hD1) hlenL ?_ ?_ ?_⟩
    · intro x hx D2 ys R hD2 hR
      exact hR
    · intro x hx _ D2 ys R hD2 hR
      obtain ⟨i, rfl, h0, h1⟩ := inL x hx
      obtain ⟨v', hv, ⟨t, q, rfl, ht, hq⟩, _⟩ := (hC1.keep (Same.upd hD2)).num h0 (by rw [← hn]; exact h1)
      exact ⟨_, rfl, _, rfl, c, xs, i, _, rfl, rfl, (Same.upd hD2).seq hS1, hv, t, _, 1, _, rfl, rfl, ht, at1, hR⟩
    intro D2 hD2
    rw [map_eV]
    refine ⟨D2, (leftOf cs.length gs).map (eOf cs), rfl, SqL.of upd_same, fun z => hL (List.map_eq_nil_iff.mp z), fun M hM1 hM2 => ?_⟩
    have s2 : Same H1 (upd H1 D2 (.lst (((leftOf cs.length gs).map (eOf cs)).map V.int))) := Same.upd hD2
    generalize upd H1 D2 (.lst (((leftOf cs.length gs).map (eOf cs)).map V.int)) = H3 at s2 ⊢
    -- the last one
    refine ⟨_, rfl, D, rfl, ⟨_, SqL.of (s2 _ _ hD1)⟩, lc_list (xs := (leftOf cs.length gs).map V.int) (bV cs M) id (SqL.of (s2 _ _ hD1)) hlenL ?_ ?_ ?_⟩
    · intro x hx D3 ys R hD3 hR
      obtain ⟨i, rfl, h0, h1⟩ := inL x hx
      have s3 := s2.trans (Same.upd (o := .lst ys) hD3)
      obtain ⟨v', hv, ⟨t, q, rfl, ht, hq⟩, _⟩ := (hC1.keep s3).num h0 (by rw [← hn]; exact h1)
      exact ⟨_, rfl, _, rfl, c, xs, i, _, rfl, rfl, s3.seq hS1, hv, t, _, 0, _, rfl, rfl, ht, at0, _, rfl, _, _, rfl, rfl, _, rfl, hR⟩
    · intro x hx _ D3 ys R hD3 hR
      exact ⟨_, rfl, hR⟩
    intro D3 hD3
    have s3 := s1.trans s2
    refine k D3 _ (s3.trans (Same.upd hD3)) ?_
    rw [upd_same, filter_bV, free_min hM1 hM2]
abbrev Th := List Int ⊕ Int
def srt (l : List Int) : List Int := l.mergeSort fun a b => decide (a ≤ b)
theorem srt_eq {a l : List Int} (hp : a.Perm l) (hs : a.Pairwise (· ≤ ·)) : a = srt l := by
  refine sorted_eq (hp.trans (List.mergeSort_perm _ _).symm) hs ?_
  have h := List.pairwise_mergeSort (le := fun a b : Int => decide (a ≤ b)) (fun a b c h1 h2 => decide_eq_true (Int.le_trans (of_decide_eq_true h1) (of_decide_eq_true h2))) (fun a b => by
    rw [Bool.or_eq_true, decide_eq_true_eq, decide_eq_true_eq]
    omega) l
  exact h.imp fun h => of_decide_eq_true h
theorem free_in {cs : List Cl} {gs : List Int} {i : Int} (h : i ∈ freeOf cs gs) : 0 ≤ i ∧ i < cs.length := by
  unfold freeOf at h
  exact mem_left (List.mem_filter.mp h).1
theorem aV_dec (a b : Option Int) : decide (aV a = aV b) = decide (a = b) := by
  rw [decide_eq_decide]
  constructor
  · intro h
    cases a <;> cases b <;> first | rfl | (cases h; rfl) | cases h
  · rintro rfl; rfl
theorem thing_el {K : PySem.W.Frag} {H : Hp} {k : Str} {x : V} {t : Th} (h : Thing K H k x t) : elAt K H t x := by
  cases h with
  | row h => exact h
  | num => rfl
abbrev Row := List Int × Th
structure Rows (K : PySem.W.Frag) (H : Hp) (k : Str) (vs : List V) (rs : List Row) : Prop where
  len : vs.length = rs.length
  at_ : ∀ (i : Nat) (v : V), vs[i]? = some v → ∃ r t g x, rs[i]? = some r ∧ v = .ref t ∧ SqT K H t [.ref g, x] ∧ H g = some (.lst (r.1.map V.int)) ∧ Thing K H k x r.2
theorem Rows.keep {K : PySem.W.Frag} {H H' : Hp} {k : Str} {vs : List V} {rs : List Row} (s : Same H H') (h : Rows K H k vs rs) : Rows K H' k vs rs :=
  ⟨h.len, fun i v e => let ⟨r, t, g, x, h1, h2, h3, h4, h5⟩ := h.at_ i v e; ⟨r, t, g, x, h1, h2, Same.tup s h3, s _ _ h4, h5.keep s⟩⟩
def Small (n : Nat) (rs : List Row) : Prop := rs.length ≤ 90000 ∧ ∀ r ∈ rs, r.1.length ≤ 60 ∧ sizeT r.2 ≤ 1000 ∧ ∀ i : Int, i ∈ r.1 → 0 ≤ i ∧ i < n
def addK (ks : List NK) (k : NK) : List NK := if hasK ks k = true then ks else ks ++ [k]
def rowK (r : Row) : NK := [.inl r.1, r.2]
theorem ints_ne {H : Hp} {m g t0 : Addr} {zs : List V} {is : List Int} {o : HO} (hm : H m = some (.lst (.ref t0 :: zs))) (h : H g = some (.lst (is.map V.int))) : (upd H m o) g = some (.lst (is.map V.int)) := by
  rw [upd_ne (ne_of h hm fun z => by cases is <;> cases z)]
  exact h
theorem Rows.updL {K : PySem.W.Frag} {H : Hp} {k : Str} {vs : List V} {rs : List Row} {m t0 : Addr} {zs : List V} {o : HO} (hm : H m = some (.lst (.ref t0 :: zs))) (h : Rows K H k vs rs) : Rows K (upd H m o) k vs rs :=
  ⟨h.len, fun i v e => let ⟨r, t, g, x, h1, h2, h3, h4, h5⟩ := h.at_ i v e; ⟨r, t, g, x, h1, h2, SqT.updL hm h3, (ints_ne hm h4), Thing.updL hm h5⟩⟩
theorem Rows.snoc {K : PySem.W.Frag} {H : Hp} {k : Str} {vs : List V} {rs : List Row} {t g : Addr} {x : V} {r : Row} (h : Rows K H k vs rs) (h1 : SqT K H t [.ref g, x]) (h2 : H g = some (.lst (r.1.map V.int))) (h3 : Thing K H k x r.2) : Rows K H k (vs ++ [.ref t]) (rs ++ [r]) := by
  have hl := h.len
  refine ⟨by rw [List.length_append, List.length_append, hl]; rfl, fun i v e => ?_⟩
  by_cases hi : i < vs.length
  · rw [List.getElem?_append_left hi] at e
    obtain ⟨r', t', g', x', q⟩ := h.at_ i v e
    exact ⟨r', t', g', x', by rw [List.getElem?_append_left (by omega)]; exact q.1, q.2⟩
  · rw [List.getElem?_append_right (by omega)] at e
    rw [List.getElem?_append_right (by omega), ← hl]
    cases q : i - vs.length with
    | zero =>
      rw [q] at e
      exact ⟨r, t, g, x, rfl, (Option.some.inj e).symm, h1, h2, h3⟩
    | succ j => rw [q] at e; cases e
theorem Rows.updD {K : PySem.W.Frag} {H : Hp} {k : Str} {vs : List V} {rs : List Row} {D : Addr} {o : HO} (hD : H D = some (.lst vs)) (h : Rows K H k vs rs) : Rows K (upd H D o) k vs rs := by
  cases vs with
  | nil => exact ⟨h.len, fun i v e => by simp at e⟩
  | cons v r =>
    obtain ⟨_, t, _, _, _, rfl, _⟩ := h.at_ 0 v rfl
    exact h.updL hD
theorem cmp_calls {K : PySem.W.Frag} {H : Hp} {k : Str} {vs : List V} {cs : List Cl} (hC : Calls K H k vs cs) : Cmp (.list (cs.map callD)) := by
  refine ⟨?_, by simp only [noBl]; exact noBls_calls cs⟩
  have h := depth_calls cs
  unfold SeqAt.shaped
  rw [Bool.and_eq_true]
  exact ⟨by simp only [PyData.canLay0]; exact lay_calls cs fun c hc => good_word (hC.ok c hc).2.1, decide_eq_true (by simp only [PyData.depth]; omega)⟩
--@split
def isTk (c : Cl) : Bool := decide (c.d.1 = "take")
def isPut (c : Cl) : Bool := decide (c.d.1 = "put")
def SeesL (ws : Int → Prop) : List Cl → List Int → Prop
  | [], _ => True
  | c :: L, [] => (∀ v, c.a = some v → ws v) ∧ SeesL ws L []
  | c :: L, v :: vs => c.a = some v ∧ (if isTk c = true then SeesL ws L vs else SeesL ws L (v :: vs))
abbrev Sees (ws : Int → Prop) (vs : List Int) (L : List Cl) : Prop := SeesL ws L vs
theorem Sees.nil (ws : Int → Prop) (vs : List Int) : Sees ws vs [] := trivial
theorem sees_iff {ws : Int → Prop} : ∀ {L : List Cl}, Sees ws [] L ↔ ∀ c ∈ L, ∀ v, c.a = some v → ws v
  | [] => ⟨fun _ c hc => absurd hc (by simp), fun _ => trivial⟩
  | x :: L => by
    constructor
    · rintro ⟨h1, h2⟩ c hc
      rcases List.mem_cons.mp hc with rfl | hc
      · exact h1
      · exact sees_iff.mp h2 c hc
    · intro h
      exact ⟨h x (by simp), sees_iff.mpr fun c hc => h c (by simp [hc])⟩
theorem Sees.drop {ws : Int → Prop} {c : Cl} (hc : isTk c = false) : ∀ (l1 : List Cl) {l2 : List Cl} {vs : List Int}, Sees ws vs (l1 ++ c :: l2) → Sees ws vs (l1 ++ l2)
  | l1, l2, [], h => sees_iff.mpr fun x hx => sees_iff.mp h x (by
      rcases List.mem_append.mp hx with hx | hx
      · exact List.mem_append_left _ hx
      · exact List.mem_append_right _ (List.mem_cons_of_mem _ hx))
  | [], l2, v :: vs, h => by
    have h' : c.a = some v ∧ (if isTk c = true then Sees ws vs l2 else Sees ws (v :: vs) l2) := h
    rw [hc] at h'
    exact h'.2
  | x :: l1, l2, v :: vs, h => by
    have h' : x.a = some v ∧ (if isTk x = true then Sees ws vs (l1 ++ c :: l2) else Sees ws (v :: vs) (l1 ++ c :: l2)) := h
    show x.a = some v ∧ (if isTk x = true then Sees ws vs (l1 ++ l2) else Sees ws (v :: vs) (l1 ++ l2))
    refine ⟨h'.1, ?_⟩
    have h2 := h'.2
    by_cases e : isTk x = true
    · rw [if_pos e] at h2 ⊢
      exact Sees.drop hc l1 h2
    · rw [if_neg e] at h2 ⊢
      exact Sees.drop hc l1 h2
theorem Sees.swap {ws : Int → Prop} {c f : Cl} (ht : isTk c = isTk f) (ha : c.a = f.a) : ∀ (l1 : List Cl) {l2 : List Cl} {vs : List Int}, Sees ws vs (l1 ++ c :: l2) → Sees ws vs (l1 ++ f :: l2)
  | l1, l2, [], h => sees_iff.mpr fun x hx v hv => by
      have h := sees_iff.mp h
      rcases List.mem_append.mp hx with hx | hx
      · exact h x (List.mem_append_left _ hx) v hv
      · rcases List.mem_cons.mp hx with rfl | hx
        · exact h c (List.mem_append_right _ (by simp)) v (by rw [ha]; exact hv)
        · exact h x (List.mem_append_right _ (List.mem_cons_of_mem _ hx)) v hv
  | [], l2, v :: vs, h => by
    have h' : c.a = some v ∧ (if isTk c = true then Sees ws vs l2 else Sees ws (v :: vs) l2) := h
    rw [ht, ha] at h'
    exact h'
  | x :: l1, l2, v :: vs, h => by
    have h' : x.a = some v ∧ (if isTk x = true then Sees ws vs (l1 ++ c :: l2) else Sees ws (v :: vs) (l1 ++ c :: l2)) := h
    show x.a = some v ∧ (if isTk x = true then Sees ws vs (l1 ++ f :: l2) else Sees ws (v :: vs) (l1 ++ f :: l2))
    refine ⟨h'.1, ?_⟩
    have h2 := h'.2
    by_cases e : isTk x = true
    · rw [if_pos e] at h2 ⊢
      exact Sees.swap ht ha l1 h2
    · rw [if_neg e] at h2 ⊢
      exact Sees.swap ht ha l1 h2
theorem Sees.mem {ws : Int → Prop} : ∀ {L : List Cl} {vs : List Int}, Sees ws vs L → ∀ c ∈ L, ∀ v, c.a = some v → v ∈ vs ∨ ws v
  | L, [], h, c, hc, v, hv => .inr (sees_iff.mp h c hc v hv)
  | [], _ :: _, _, c, hc, _, _ => by cases hc
  | x :: L, u :: vs, h, c, hc, v, hv => by
    have h' : x.a = some u ∧ (if isTk x = true then Sees ws vs L else Sees ws (u :: vs) L) := h
    rcases List.mem_cons.mp hc with rfl | hc
    · rw [h'.1] at hv
      exact .inl (by rw [← Option.some.inj hv]; simp)
    · have h2 := h'.2
      by_cases e : isTk x = true
      · rw [if_pos e] at h2
        rcases Sees.mem h2 c hc v hv with h3 | h3
        · exact .inl (List.mem_cons_of_mem _ h3)
        · exact .inr h3
      · rw [if_neg e] at h2
        exact Sees.mem h2 c hc v hv
def tOk (x y : Cl) : Prop := x.b ≤ y.e
def Sched (ws : Int → Prop) (vs : List Int) (S : List Cl) : Prop := ∃ L : List Cl, L.Perm S ∧ L.Pairwise tOk ∧ Sees ws vs L
theorem Sched.nil {ws : Int → Prop} {vs : List Int} : Sched ws vs [] := ⟨[], .nil, .nil, Sees.nil ws vs⟩
def Fits (S : List Cl) (v : Int) (c : Cl) : Prop := c ∈ S ∧ c.a = some v ∧ ∀ x ∈ S, c.b ≤ x.e
theorem Sched.some {ws : Int → Prop} {v : Int} {vs : List Int} {S : List Cl} (h : Sched ws (v :: vs) S) (hb : ∀ c ∈ S, c.b < c.e) (hS : S ≠ []) : ∃ c, Fits S v c := by
  obtain ⟨L, h1, h2, h3⟩ := h
  cases L with
  | nil => exact absurd (h1.symm.eq_nil) hS
  | cons f L =>
    have hf : f ∈ S := h1.mem_iff.mp (by simp)
    refine ⟨f, hf, h3.1, fun x hx => ?_⟩
    rcases List.mem_cons.mp (h1.mem_iff.mpr hx) with rfl | hx
    · exact Int.le_of_lt (hb _ hf)
    · exact (List.pairwise_cons.mp h2).1 x hx
theorem Sched.look {ws : Int → Prop} {vs : List Int} {S S' : List Cl} {c : Cl} (h : Sched ws vs S) (hp : S.Perm (c :: S')) (hc : isTk c = false) : Sched ws vs S' := by
  obtain ⟨L, h1, h2, h3⟩ := h
  have hm : c ∈ L := (h1.trans hp).mem_iff.mpr (by simp)
  obtain ⟨l1, l2, rfl⟩ := List.append_of_mem hm
  refine ⟨l1 ++ l2, ?_, h2.sublist (List.Sublist.append_left (List.sublist_cons_self c l2) l1), Sees.drop hc l1 h3⟩
  exact (List.perm_middle.symm.trans (h1.trans hp)).cons_inv
theorem Sched.take {ws : Int → Prop} {v : Int} {vs : List Int} {S S' : List Cl} {c : Cl} (h : Sched ws (v :: vs) S) (hb : ∀ c ∈ S, c.b < c.e) (hp : S.Perm (c :: S')) (hc : isTk c = true) (hf : Fits S v c)
    (hmin : ∀ x, Fits S v x → isTk x = true ∧ c.e ≤ x.e) : Sched ws vs S' := by
  obtain ⟨L, h1, h2, h3⟩ := h
  cases L with
  | nil => exact absurd hf.1 (by rw [h1.symm.eq_nil]; simp)
  | cons f L =>
    have hfS : f ∈ S := h1.mem_iff.mp (by simp)
    have hpw := List.pairwise_cons.mp h2
    have hff : Fits S v f := ⟨hfS, h3.1, fun x hx => by
      rcases List.mem_cons.mp (h1.mem_iff.mpr hx) with rfl | hx
      · exact Int.le_of_lt (hb _ hfS)
      · exact hpw.1 x hx⟩
    obtain ⟨ht, he⟩ := hmin f hff
    have h4 : Sees ws vs L := by
      have := h3.2
      rw [if_pos ht] at this
      exact this
    have hcL : c ∈ f :: L := h1.mem_iff.mpr hf.1
    rcases List.mem_cons.mp hcL with rfl | hcL
    · exact ⟨L, (h1.trans hp).cons_inv, hpw.2, h4⟩
    · obtain ⟨l1, l2, rfl⟩ := List.append_of_mem hcL
      refine ⟨l1 ++ f :: l2, ?_, ?_, Sees.swap (by rw [hc, ht]) (by rw [hf.2.1, h3.1]) l1 h4⟩
      · have p1 : (c :: (l1 ++ f :: l2)).Perm (c :: S') := by
          refine List.Perm.trans ?_ (h1.trans hp)
          have a1 : (l1 ++ f :: l2).Perm (f :: (l1 ++ l2)) := List.perm_middle
          have a2 : (l1 ++ c :: l2).Perm (c :: (l1 ++ l2)) := List.perm_middle
          exact ((List.Perm.cons c a1).trans (List.Perm.swap f c _)).trans (List.Perm.cons f a2.symm)
        exact p1.cons_inv
      · have q1 := hpw.2
        rw [List.pairwise_append] at q1 ⊢
        obtain ⟨b1, b2, b3⟩ := q1
        have b2' := List.pairwise_cons.mp b2
        refine ⟨b1, List.pairwise_cons.mpr ⟨fun y hy => hpw.1 y (List.mem_append_right _ (List.mem_cons_of_mem _ hy)), b2'.2⟩, fun x hx y hy => ?_⟩
        rcases List.mem_cons.mp hy with rfl | hy
        · have : x.b ≤ c.e := b3 x hx c (by simp)
          exact Int.le_trans this he
        · exact b3 x hx y (List.mem_cons_of_mem _ hy)
def stp (cs : List Cl) (t : Th) (i : Int) : Th × Option Int := doT t (clAt cs i).d.1 (clAt cs i).d.2
def Run (cs : List Cl) : List Int → Th → List Int → Prop
  | gs, _, [] => leftOf cs.length gs = []
  | gs, t, i :: is => i ∈ freeOf cs gs ∧ (stp cs t i).2 = (clAt cs i).a ∧ Run cs (gs ++ [i]) (stp cs t i).1 is
def CanEnd (cs : List Cl) (gs : List Int) (t : Th) : Prop := ∃ is, Run cs gs t is
theorem mem_leftOf {n : Nat} {gs : List Int} {i : Int} : i ∈ leftOf n gs ↔ (i ∈ iotaZ 0 n ∧ i ∉ gs) := by
  unfold leftOf
  rw [List.mem_filter, inV_ints]
  simp only [Bool.not_eq_true', List.any_eq_false, beq_iff_eq]
  exact ⟨fun h => ⟨h.1, fun z => h.2 i z rfl⟩, fun h => ⟨h.1, fun g hg e => h.2 (e ▸ hg)⟩⟩
theorem left_congr (n : Nat) {a b : List Int} (h : ∀ x, x ∈ a ↔ x ∈ b) : leftOf n a = leftOf n b := by
  unfold leftOf
  refine List.filter_congr fun x _ => ?_
  rw [inV_ints, inV_ints, Bool.eq_iff_iff]
  simp only [Bool.not_eq_true', List.any_eq_false, beq_iff_eq]
  exact ⟨fun k g hg => k g ((h g).mpr hg), fun k g hg => k g ((h g).mp hg)⟩
theorem free_congr (cs : List Cl) {a b : List Int} (h : ∀ x, x ∈ a ↔ x ∈ b) : freeOf cs a = freeOf cs b := by
  unfold freeOf
  rw [left_congr cs.length h]
theorem Run.congr {cs : List Cl} : ∀ {is : List Int} {a b : List Int} {t : Th}, (∀ x, x ∈ a ↔ x ∈ b) → Run cs a t is → Run cs b t is
  | [], a, b, t, h, r => by
    show leftOf cs.length b = []
    rw [← left_congr cs.length h]
    exact r
  | i :: is, a, b, t, h, r => by
    refine ⟨by rw [← free_congr cs h]; exact r.1, r.2.1, Run.congr (fun x => ?_) r.2.2⟩
    rw [List.mem_append, List.mem_append, h x]
theorem nodup_left (n : Nat) (gs : List Int) : (leftOf n gs).Nodup := (nodup_iota n).filter _
theorem left_snoc (n : Nat) (gs : List Int) (z : Int) : leftOf n (gs ++ [z]) = (leftOf n gs).filter fun i => decide (i ≠ z) := by
  unfold leftOf
  rw [List.filter_filter]
  refine List.filter_congr fun i _ => ?_
  rw [inV_ints, inV_ints, Bool.eq_iff_iff]
  simp only [Bool.not_eq_true', List.any_eq_false, beq_iff_eq, Bool.and_eq_true, decide_eq_true_eq]
  constructor
  · intro h
    exact ⟨fun e => h z (by simp) e.symm, fun g hg => h g (by simp [hg])⟩
  · rintro ⟨h1, h2⟩ g hg e
    rcases List.mem_append.mp hg with h | h
    · exact h2 g h e
    · exact h1 (by rw [← e, List.mem_singleton.mp h])
theorem left_perm {n : Nat} {gs : List Int} {z : Int} (h : z ∈ leftOf n gs) : (leftOf n gs).Perm (z :: leftOf n (gs ++ [z])) := by
  have hn := nodup_left n gs
  refine perm_of_mem hn (List.nodup_cons.mpr ⟨fun hz => ?_, nodup_left n _⟩) fun x => ?_
  · rw [mem_leftOf] at hz
    exact hz.2 (by simp)
  · rw [left_snoc, List.mem_cons, List.mem_filter]
    constructor
    · intro hx
      by_cases e : x = z
      · exact .inl e
      · exact .inr ⟨hx, decide_eq_true e⟩
    · rintro (rfl | hx)
      · exact h
      · exact hx.1
theorem free_left {cs : List Cl} {gs : List Int} {i : Int} (h : i ∈ freeOf cs gs) : i ∈ leftOf cs.length gs := (List.mem_filter.mp h).1
theorem free_tOk {cs : List Cl} {gs : List Int} {i j : Int} (h : i ∈ freeOf cs gs) (hj : j ∈ leftOf cs.length gs) : tOk (clAt cs i) (clAt cs j) := by
  have := (List.mem_filter.mp h).2
  rw [List.all_eq_true] at this
  have h2 := this j hj
  rw [decide_eq_true_eq] at h2
  exact h2
theorem Run.perm {cs : List Cl} : ∀ {is : List Int} {gs : List Int} {t : Th}, Run cs gs t is → is.Perm (leftOf cs.length gs)
  | [], gs, t, r => by
    have r' : leftOf cs.length gs = [] := r
    rw [r']
  | i :: is, gs, t, r => (List.Perm.cons i (Run.perm r.2.2)).trans (left_perm (free_left r.1)).symm
theorem Run.time {cs : List Cl} : ∀ {is : List Int} {gs : List Int} {t : Th}, Run cs gs t is → (is.map (clAt cs)).Pairwise tOk
  | [], gs, t, r => .nil
  | i :: is, gs, t, r => by
    rw [List.map_cons, List.pairwise_cons]
    refine ⟨fun y hy => ?_, Run.time r.2.2⟩
    obtain ⟨j, hj, rfl⟩ := List.mem_map.mp hy
    have hj' := (Run.perm r.2.2).mem_iff.mp hj
    rw [left_snoc] at hj'
    exact free_tOk r.1 (List.mem_filter.mp hj').1
theorem Run.sees {cs : List Cl} {ws : Int → Prop} : ∀ {is : List Int} {gs : List Int} {vs us : List Int}, Run cs gs (.inl (vs ++ us)) is → (∀ u ∈ us, ws u) → (∀ i ∈ is, isPut (clAt cs i) = true → ws ((clAt cs i).d.2.getD 0)) →
    Sees ws vs ((is.map (clAt cs)).filter fun c => !isPut c)
  | [], gs, vs, us, r, _, _ => Sees.nil ws vs
  | i :: is, gs, vs, us, r, hu, hw => by
    obtain ⟨h1, h2, h3⟩ := r
    unfold stp at h2 h3
    have hw' : ∀ i ∈ is, isPut (clAt cs i) = true → ws ((clAt cs i).d.2.getD 0) := fun j hj => hw j (by simp [hj])
    rw [List.map_cons, List.filter_cons]
    by_cases hp : isPut (clAt cs i) = true
    · have e : (clAt cs i).d.1 = "put" := of_decide_eq_true hp
      rw [hp]
      simp only [Bool.not_true]
      rw [if_neg Bool.false_ne_true]
      have e3 : (doT (.inl (vs ++ us)) (clAt cs i).d.1 (clAt cs i).d.2).1 = .inl (vs ++ (us ++ [(clAt cs i).d.2.getD 0])) := by
        show Sum.inl (doRow (vs ++ us) (clAt cs i).d.1 (clAt cs i).d.2).1 = _
        unfold doRow
        rw [if_pos e, List.append_assoc]
      rw [e3] at h3
      refine Run.sees h3 (fun u hu' => ?_) hw'
      rcases List.mem_append.mp hu' with h | h
      · exact hu u h
      · rw [List.mem_singleton.mp h]
        exact hw i (by simp) hp
    · have e : ¬ (clAt cs i).d.1 = "put" := fun z => hp (decide_eq_true z)
      have hp' : isPut (clAt cs i) = false := by cases h : isPut (clAt cs i) with | true => exact absurd h hp | false => rfl
      rw [hp']
      simp only [Bool.not_false, if_true]
      have ea : (doT (.inl (vs ++ us)) (clAt cs i).d.1 (clAt cs i).d.2).2 = (vs ++ us).head? := by
        show (doRow (vs ++ us) (clAt cs i).d.1 (clAt cs i).d.2).2 = _
        unfold doRow
        rw [if_neg e]
        split <;> rfl
      rw [ea] at h2
      by_cases ht : isTk (clAt cs i) = true
      · have et : (clAt cs i).d.1 = "take" := of_decide_eq_true ht
        have e3 : (doT (.inl (vs ++ us)) (clAt cs i).d.1 (clAt cs i).d.2).1 = .inl ((vs ++ us).drop 1) := by
          show Sum.inl (doRow (vs ++ us) (clAt cs i).d.1 (clAt cs i).d.2).1 = _
          unfold doRow
          rw [if_neg e, if_pos et]
        rw [e3] at h3
        cases vs with
        | nil =>
          refine ⟨fun v hv => ?_, ?_⟩
          · rw [← h2] at hv
            exact hu v (List.mem_of_mem_head? hv)
          · have h4 : Run cs (gs ++ [i]) (.inl (([] : List Int) ++ us.drop 1)) is := h3
            exact Run.sees h4 (fun u hu' => hu u (List.mem_of_mem_drop hu')) hw'
        | cons v vs =>
          refine ⟨h2.symm, ?_⟩
          rw [if_pos ht]
          exact Run.sees (vs := vs) h3 hu hw'
      · have et : ¬ (clAt cs i).d.1 = "take" := fun z => ht (decide_eq_true z)
        have e3 : (doT (.inl (vs ++ us)) (clAt cs i).d.1 (clAt cs i).d.2).1 = .inl (vs ++ us) := by
          show Sum.inl (doRow (vs ++ us) (clAt cs i).d.1 (clAt cs i).d.2).1 = _
          unfold doRow
          rw [if_neg e, if_neg et]
        rw [e3] at h3
        cases vs with
        | nil =>
          refine ⟨fun v hv => ?_, ?_⟩
          · rw [← h2] at hv
            exact hu v (List.mem_of_mem_head? hv)
          · exact Run.sees h3 hu hw'
        | cons v vs =>
          refine ⟨h2.symm, ?_⟩
          rw [if_neg ht]
          exact Run.sees h3 hu hw'
def seeOf (cs : List Cl) (gs : List Int) : List Cl := ((leftOf cs.length gs).map (clAt cs)).filter fun c => !isPut c
def laterW (cs : List Cl) (gs : List Int) : List Int := (((leftOf cs.length gs).map (clAt cs)).filter isPut).map fun c => c.d.2.getD 0
theorem come_out {cs : List Cl} {gs xs : List Int} (h : CanEnd cs gs (.inl xs)) : Sched (fun v => v ∈ laterW cs gs) xs (seeOf cs gs) := by
  obtain ⟨is, r⟩ := h
  have hp := Run.perm r
  refine ⟨(is.map (clAt cs)).filter fun c => !isPut c, (hp.map _).filter _, (Run.time r).filter _, ?_⟩
  refine Run.sees (us := []) (by rw [List.append_nil]; exact r) (fun u hu => by cases hu) fun i hi hput => ?_
  exact List.mem_map.mpr ⟨_, List.mem_filter.mpr ⟨List.mem_map.mpr ⟨i, hp.mem_iff.mp hi, rfl⟩, hput⟩, rfl⟩
inductive Reach (cs : List Cl) (k : Str) : List Int → Th → Prop
  | nil : Reach cs k [] (t0 k)
  | snoc {gs : List Int} {t : Th} {i : Int} : Reach cs k gs t → i ∈ freeOf cs gs → (stp cs t i).2 = (clAt cs i).a → Reach cs k (gs ++ [i]) (stp cs t i).1
theorem Reach.nodup {cs : List Cl} {k : Str} {gs : List Int} {t : Th} (h : Reach cs k gs t) : gs.Nodup ∧ ∀ i ∈ gs, i ∈ iotaZ 0 cs.length := by
  induction h with
  | nil => exact ⟨List.nodup_nil, fun i hi => by cases hi⟩
  | snoc h hi _ ih =>
    have hl := mem_leftOf.mp (free_left hi)
    refine ⟨?_, fun j hj => ?_⟩
    · rw [List.nodup_append]
      exact ⟨ih.1, by simp, fun a ha b hb z => hl.2 (by rw [← List.mem_singleton.mp hb, ← z]; exact ha)⟩
    · rcases List.mem_append.mp hj with hj | hj
      · exact ih.2 j hj
      · rw [List.mem_singleton.mp hj]; exact hl.1
theorem Reach.size {cs : List Cl} {k : Str} {gs : List Int} {t : Th} (h : Reach cs k gs t) : sizeT t ≤ gs.length := by
  induction h with
  | nil => unfold t0; split <;> exact Nat.le_refl _
  | @snoc gs t i _ _ _ ih =>
    have := size_do t (clAt cs i).d
    rw [List.length_append]
    show sizeT (doT t (clAt cs i).d.1 (clAt cs i).d.2).1 ≤ _ + 1
    omega
theorem Reach.left {cs : List Cl} {k : Str} {gs : List Int} {t : Th} (h : Reach cs k gs t) : gs.length + (leftOf cs.length gs).length = cs.length := by
  induction h with
  | nil =>
    have e : leftOf cs.length [] = iotaZ 0 cs.length := List.filter_eq_self.mpr fun x _ => rfl
    rw [e]
    simp [iotaZ]
  | snoc _ hi _ ih =>
    have := (left_perm (free_left hi)).length_eq
    rw [List.length_cons] at this
    rw [List.length_append]
    show _ + 1 + _ = _
    omega
theorem Reach.full {cs : List Cl} {k : Str} {gs : List Int} {t : Th} (h : Reach cs k gs t) : leftOf cs.length gs = [] ↔ gs.length = cs.length := by
  have := h.left
  rw [← List.length_eq_zero_iff]
  omega
theorem srt_mem {a b : List Int} (h : srt a = srt b) (x : Int) : x ∈ a ↔ x ∈ b := by
  have p1 : (srt a).Perm a := List.mergeSort_perm _ _
  have p2 : (srt b).Perm b := List.mergeSort_perm _ _
  rw [← p1.mem_iff, ← p2.mem_iff, h]
def Closed (cs : List Cl) (ks : List NK) (ws : List Row) : Prop := ∀ (gs : List Int) (t : Th), hasK ks (rowK (srt gs, t)) = true → leftOf cs.length gs ≠ [] ∧
  (CanEnd cs gs t → ∀ i ∈ freeOf cs gs, (stp cs t i).2 = (clAt cs i).a → hasK ks (rowK (srt (gs ++ [i]), (stp cs t i).1)) = true ∨ ∃ w ∈ ws, srt w.1 = srt (gs ++ [i]) ∧ w.2 = (stp cs t i).1)
theorem closed_no {cs : List Cl} {ks : List NK} (h : Closed cs ks []) : ∀ (is : List Int) (gs : List Int) (t : Th), hasK ks (rowK (srt gs, t)) = true → ¬ Run cs gs t is
  | [], gs, t, hk, r => (h gs t hk).1 r
  | i :: is, gs, t, hk, r => by
    rcases (h gs t hk).2 ⟨_, r⟩ i r.1 r.2.1 with h1 | ⟨w, hw, _⟩
    · exact closed_no h is _ _ h1 r.2.2
    · cases hw
theorem hasK_add {ks : List NK} {k k' : NK} : hasK (addK ks k) k' = true ↔ (hasK ks k' = true ∨ k' = k) := by
  unfold addK hasK
  split
  · rename_i h
    constructor
    · exact .inl
    · rintro (h1 | rfl)
      · exact h1
      · exact h
  · simp only [List.any_append, List.any_cons, List.any_nil, Bool.or_false, Bool.or_eq_true, decide_eq_true_eq]
    constructor
    · rintro (h1 | h1)
      · exact .inl h1
      · exact .inr h1.symm
    · rintro (h1 | h1)
      · exact .inl h1
      · exact .inr h1.symm
theorem srt_sorted (l : List Int) : (srt l).Pairwise (· ≤ ·) := by
  have h := List.pairwise_mergeSort (le := fun a b : Int => decide (a ≤ b)) (fun a b c h1 h2 => decide_eq_true (Int.le_trans (of_decide_eq_true h1) (of_decide_eq_true h2))) (fun a b => by
    rw [Bool.or_eq_true, decide_eq_true_eq, decide_eq_true_eq]
    omega) l
  exact h.imp fun h => of_decide_eq_true h
theorem srt_pm (l : List Int) : (srt l).Perm l := List.mergeSort_perm _ _
theorem srt_congr {a b : List Int} (h : a.Perm b) : srt a = srt b := srt_eq ((srt_pm a).trans h) (srt_sorted a)
theorem srt_perm_of {a b : List Int} (h : srt a = srt b) : a.Perm b := (srt_pm a).symm.trans (by rw [h]; exact srt_pm b)
theorem rowK_inj {a b : Row} (h : rowK a = rowK b) : a = b := by
  unfold rowK at h
  obtain ⟨a1, a2⟩ := a
  obtain ⟨b1, b2⟩ := b
  simp only [List.cons.injEq, Sum.inl.injEq, and_true] at h
  rw [h.1, h.2]
theorem closed_skip {cs : List Cl} {ks : List NK} {ws : List Row} {w : Row} (h : Closed cs ks (ws ++ [w])) (hk : hasK ks (rowK (srt w.1, w.2)) = true) : Closed cs ks ws := by
  intro gs t hg
  refine ⟨(h gs t hg).1, fun hc i hi ha => ?_⟩
  rcases (h gs t hg).2 hc i hi ha with h1 | ⟨v, hv, e1, e2⟩
  · exact .inl h1
  · rcases List.mem_append.mp hv with hv | hv
    · exact .inr ⟨v, hv, e1, e2⟩
    · rw [List.mem_singleton.mp hv] at e1 e2
      rw [← e1, ← e2]
      exact .inl hk
theorem closed_into {cs : List Cl} {ks : List NK} {ws cw : List Row} {w : Row} (h : Closed cs ks (ws ++ [w])) (hl : leftOf cs.length w.1 ≠ [])
    (hw : CanEnd cs w.1 w.2 → ∀ i ∈ freeOf cs w.1, (stp cs w.2 i).2 = (clAt cs i).a → (w.1 ++ [i], (stp cs w.2 i).1) ∈ cw) : Closed cs (addK ks (rowK (srt w.1, w.2))) (ws ++ cw) := by
  intro gs t hg
  rcases hasK_add.mp hg with hg | hg
  · refine ⟨(h gs t hg).1, fun hc i hi ha => ?_⟩
    rcases (h gs t hg).2 hc i hi ha with h1 | ⟨v, hv, e1, e2⟩
    · exact .inl (hasK_add.mpr (.inl h1))
    · rcases List.mem_append.mp hv with hv | hv
      · exact .inr ⟨v, List.mem_append_left _ hv, e1, e2⟩
      · rw [List.mem_singleton.mp hv] at e1 e2
        rw [← e1, ← e2]
        exact .inl (hasK_add.mpr (.inr rfl))
  · have e := rowK_inj hg
    have e1 : srt gs = srt w.1 := congrArg Prod.fst e
    have e2 : t = w.2 := congrArg Prod.snd e
    subst e2
    have hm := srt_mem e1
    refine ⟨by rw [left_congr cs.length hm]; exact hl, fun hc i hi ha => ?_⟩
    rw [free_congr cs hm] at hi
    have hc' : CanEnd cs w.1 w.2 := let ⟨is, r⟩ := hc; ⟨is, Run.congr hm r⟩
    exact .inr ⟨_, List.mem_append_right _ (hw hc' i hi ha), srt_congr ((srt_perm_of e1).symm.append_right [i]), rfl⟩
def Begun (k : Str) (ks : List NK) (ws : List Row) : Prop := hasK ks (rowK (srt [], t0 k)) = true ∨ ∃ w ∈ ws, srt w.1 = srt [] ∧ w.2 = t0 k
theorem begun_skip {k : Str} {ks : List NK} {ws : List Row} {w : Row} (h : Begun k ks (ws ++ [w])) (hk : hasK ks (rowK (srt w.1, w.2)) = true) : Begun k ks ws := by
  rcases h with h | ⟨v, hv, e1, e2⟩
  · exact .inl h
  · rcases List.mem_append.mp hv with hv | hv
    · exact .inr ⟨v, hv, e1, e2⟩
    · rw [List.mem_singleton.mp hv] at e1 e2
      unfold Begun
      rw [← e1, ← e2]
      exact .inl hk
theorem begun_into {k : Str} {ks : List NK} {ws cw : List Row} {w : Row} (h : Begun k ks (ws ++ [w])) : Begun k (addK ks (rowK (srt w.1, w.2))) (ws ++ cw) := by
  rcases h with h | ⟨v, hv, e1, e2⟩
  · exact .inl (hasK_add.mpr (.inl h))
  · rcases List.mem_append.mp hv with hv | hv
    · exact .inr ⟨v, List.mem_append_left _ hv, e1, e2⟩
    · rw [List.mem_singleton.mp hv] at e1 e2
      unfold Begun
      rw [← e1, ← e2]
      exact .inl (hasK_add.mpr (.inr rfl))
theorem no_end {cs : List Cl} {k : Str} {ks : List NK} (h : Closed cs ks []) (hb : Begun k ks []) : ¬ CanEnd cs [] (t0 k) := by
  rintro ⟨is, r⟩
  rcases hb with hb | ⟨w, hw, _⟩
  · exact closed_no h is [] (t0 k) hb r
  · cases hw
def Weigh (cs : List Cl) (wf : List Int → Nat) : Prop := ∀ gs, ((freeOf cs gs).map fun i => wf (gs ++ [i])).sum + 1 ≤ wf gs
def sumW (wf : List Int → Nat) (ws : List Row) : Nat := (ws.map fun w => wf w.1).sum
theorem sumW_append (wf : List Int → Nat) (a b : List Row) : sumW wf (a ++ b) = sumW wf a + sumW wf b := by unfold sumW; rw [List.map_append, List.sum_append]
theorem sumW_len {cs : List Cl} {wf : List Int → Nat} (h : Weigh cs wf) : ∀ ws : List Row, ws.length ≤ sumW wf ws
  | [] => Nat.le_refl _
  | w :: ws => by
    have h1 := sumW_len h ws
    have h2 := h w.1
    unfold sumW at h1 ⊢
    rw [List.map_cons, List.sum_cons, List.length_cons]
    omega
def waysOf (cs : List Cl) (gs : List Int) (t : Th) : List Row := ((freeOf cs gs).filter fun i => decide ((stp cs t i).2 = (clAt cs i).a)).map fun i => (gs ++ [i], (stp cs t i).1)
theorem mem_ways {cs : List Cl} {gs : List Int} {t : Th} {i : Int} (hi : i ∈ freeOf cs gs) (ha : (stp cs t i).2 = (clAt cs i).a) : (gs ++ [i], (stp cs t i).1) ∈ waysOf cs gs t :=
  List.mem_map.mpr ⟨i, List.mem_filter.mpr ⟨hi, decide_eq_true ha⟩, rfl⟩
theorem reach_ways {cs : List Cl} {k : Str} {gs : List Int} {t : Th} (h : Reach cs k gs t) : ∀ w ∈ waysOf cs gs t, Reach cs k w.1 w.2 := by
  intro w hw
  obtain ⟨i, hi, rfl⟩ := List.mem_map.mp hw
  have := List.mem_filter.mp hi
  exact .snoc h this.1 (of_decide_eq_true this.2)
theorem sum_filter_le (f : Int → Nat) (p : Int → Bool) : ∀ l : List Int, ((l.filter p).map f).sum ≤ (l.map f).sum
  | [] => Nat.le_refl _
  | x :: l => by
    have := sum_filter_le f p l
    rw [List.filter_cons, List.map_cons, List.sum_cons]
    split
    · rw [List.map_cons, List.sum_cons]; omega
    · omega
theorem ways_sum {cs : List Cl} {wf : List Int → Nat} (h : Weigh cs wf) (gs : List Int) (t : Th) : sumW wf (waysOf cs gs t) + 1 ≤ wf gs := by
  have h1 := h gs
  have h2 := sum_filter_le (fun i => wf (gs ++ [i])) (fun i => decide ((stp cs t i).2 = (clAt cs i).a)) (freeOf cs gs)
  unfold sumW waysOf
  rw [List.map_map]
  have e : ((fun w : Row => wf w.1) ∘ fun i => (gs ++ [i], (stp cs t i).1)) = fun i => wf (gs ++ [i]) := rfl
  rw [e]
  omega
theorem Reach.tok {cs : List Cl} {k : Str} {gs : List Int} {t : Th} (h : Reach cs k gs t) : (gs.map (clAt cs)).Pairwise tOk ∧ ∀ f ∈ gs, ∀ j ∈ leftOf cs.length gs, tOk (clAt cs f) (clAt cs j) := by
  induction h with
  | nil => exact ⟨.nil, fun f hf => by cases hf⟩
  | @snoc gs t i _ hi _ ih =>
    refine ⟨?_, fun f hf j hj => ?_⟩
    · rw [List.map_append, List.pairwise_append]
      refine ⟨ih.1, by simp, fun x hx y hy => ?_⟩
      obtain ⟨f, hf, rfl⟩ := List.mem_map.mp hx
      rw [List.mem_singleton.mp hy]
      exact ih.2 f hf i (free_left hi)
    · rw [left_snoc] at hj
      have hj' := (List.mem_filter.mp hj).1
      rcases List.mem_append.mp hf with hf | hf
      · exact ih.2 f hf j hj'
      · rw [List.mem_singleton.mp hf]
        exact free_tOk hi hj'
theorem Reach.ans {cs : List Cl} {k : Str} {gs : List Int} {t : Th} (h : Reach cs k gs t) : stT (t0 k) (gs.map fun i => (clAt cs i).d) = t ∧ ansT (t0 k) (gs.map fun i => (clAt cs i).d) = gs.map fun i => (clAt cs i).a := by
  induction h with
  | nil => exact ⟨rfl, rfl⟩
  | @snoc gs t i _ _ ha ih =>
    rw [List.map_append, List.map_append]
    refine ⟨?_, ?_⟩
    · show stT _ (_ ++ [_]) = _
      rw [stT_snoc, ih.1]
      rfl
    · show ansT _ (_ ++ [_]) = _
      rw [ansT_snoc, ih.1, ih.2]
      show _ ++ [(stp cs t i).2] = _
      rw [ha]
      rfl
theorem Reach.order {cs : List Cl} {k : Str} {gs : List Int} {t : Th} (h : Reach cs k gs t) (hn : gs.length = cs.length) : gs.Perm (iotaZ 0 cs.length) := by
  have hd := h.nodup
  have hl := h.full.mpr hn
  refine perm_of_mem hd.1 (nodup_iota _) fun x => ⟨hd.2 x, fun hx => ?_⟩
  by_cases hg : x ∈ gs
  · exact hg
  · exact absurd (mem_leftOf.mpr ⟨hx, hg⟩) (by rw [hl]; simp)
--@split
def Cz (K : PySem.W.Frag) (H : Hp) (k : Str) (zs : List (V × Cl)) : Prop := ∀ z ∈ zs, CallT K H z.1 z.2 ∧ Ok k z.2
theorem CallT.mv {K : PySem.W.Frag} {H H' : Hp} {v : V} {c : Cl} (s : Mv H H') (h : CallT K H v c) : CallT K H' v c :=
  let ⟨t, q, h1, h2, h3⟩ := h; ⟨t, q, h1, s.tup h2, s.tup h3⟩
theorem Cz.mv {K : PySem.W.Frag} {H H' : Hp} {k : Str} {zs : List (V × Cl)} (s : Mv H H') (h : Cz K H k zs) : Cz K H' k zs := fun z hz => ⟨(h z hz).1.mv s, (h z hz).2⟩
theorem Cz.calls {K : PySem.W.Frag} {H : Hp} {k : Str} {zs : List (V × Cl)} (h : Cz K H k zs) : Calls K H k (zs.map (·.1)) (zs.map (·.2)) :=
  ⟨by rw [List.length_map, List.length_map], fun i v e => by
    rw [List.getElem?_map] at e
    obtain ⟨z, hz, rfl⟩ := Option.map_eq_some_iff.mp e
    have := h z (List.mem_of_getElem? hz)
    exact ⟨z.2, by rw [List.getElem?_map, hz]; rfl, this.1, this.2⟩⟩
theorem Calls.mv {K : PySem.W.Frag} {H H' : Hp} {k : Str} {vs : List V} {cs : List Cl} (s : Mv H H') (h : Calls K H k vs cs) : Calls K H' k vs cs :=
  ⟨h.len, fun i v e => let ⟨c, h1, h2, h3⟩ := h.at_ i v e; ⟨c, h1, h2.mv s, h3⟩⟩
theorem Cz.filter {K : PySem.W.Frag} {H : Hp} {k : Str} {zs : List (V × Cl)} (p : V × Cl → Bool) (h : Cz K H k zs) : Cz K H k (zs.filter p) := fun z hz => h z (List.mem_filter.mp hz).1
def fitB (S : List Cl) (v : Int) (c : Cl) : Bool := (S.all fun x => decide (c.b ≤ x.e)) && decide (c.a = some v)
theorem fit_iff {S : List Cl} {v : Int} {c : Cl} (hc : c ∈ S) : fitB S v c = true ↔ Fits S v c := by
  unfold fitB Fits
  rw [Bool.and_eq_true, List.all_eq_true, decide_eq_true_eq]
  constructor
  · rintro ⟨h1, h2⟩
    exact ⟨hc, h2, fun x hx => of_decide_eq_true (h1 x hx)⟩
  · rintro ⟨_, h2, h3⟩
    exact ⟨fun x hx => decide_eq_true (h3 x hx), h2⟩
def lamOf : List Stmt → Option (Arguments × Expr × Scope × Pos)
  | [_, _, .Return (some (.Call _ _ [⟨_, .Lambda a b s p, _⟩, _] _)) _] => some (a, b, s, p)
  | _ => none
def lam0 : Arguments × Expr × Scope × Pos := (lamOf (defBody s_fitting_call)).getD (defArgs s_fitting_call, .Name "" ⟨0, 0, 0, 0⟩, defScope s_fitting_call, ⟨0, 0, 0, 0⟩)
abbrev lamA : Arguments := lam0.1
abbrev lamB : Expr := lam0.2.1
abbrev lamS : Scope := lam0.2.2.1
abbrev lamP : Pos := lam0.2.2.2
abbrev lamQ : Str := (("fitting_call" : Str) ++ ".<locals>.") ++ "<lambda>"
theorem lamSc : FnScope ["call"] ["call"] lamS := ⟨rfl, rfl, rfl, by decide +kernel, rfl, by decide +kernel, by decide +kernel⟩
def spFit (K : PySem.W.Frag) (Pt : Addr) : Sp := fun vs H Q _ => ∃ (l : Addr) (v : Int) (k : Str) (zs : List (V × Cl)), vs = [.ref l, .int v] ∧ SqL K H l (zs.map (·.1)) ∧ Cz K H k zs ∧ zs ≠ [] ∧ zs.length ≤ 60 ∧ LamTab Pt lamP lamQ H ∧
  (∀ H', Mv H H' → LamTab Pt lamP lamQ H' → (∀ c, ¬ Fits (zs.map (·.2)) v c) → Q .non H') ∧
  ∀ H' z, Mv H H' → LamTab Pt lamP lamQ H' → z ∈ zs → Fits (zs.map (·.2)) v z.2 → (isTk z.2 = true → ∀ x, Fits (zs.map (·.2)) v x → isTk x = true ∧ z.2.e ≤ x.e) → Q z.1 H'
def keyOf (zs : List (V × Cl)) (i : Nat) : Bool × Int := match zs[i]? with
  | some z => (isTk z.2, z.2.e)
  | none => (false, 0)
theorem key_min {a b : Bool × Int} (h : HT.lexLt (kz b) (kz a) = false) (ha : a.1 = true) : b.1 = true ∧ a.2 ≤ b.2 := by
  obtain ⟨a1, a2⟩ := a
  obtain ⟨b1, b2⟩ := b
  have ha' : a1 = true := ha
  subst ha'
  unfold kz at h
  rw [lex_two] at h
  cases b1 with
  | false => simp [HT.b2z] at h
  | true =>
    rw [if_pos rfl] at h
    have := of_decide_eq_false h
    exact ⟨rfl, by show a2 ≤ b2; omega⟩
theorem str_dec (a b : Str) : decide (V.str a = V.str b) = decide (a = b) := by
  rw [decide_eq_decide]
  exact ⟨fun h => V.str.inj h, fun h => by rw [h]⟩
theorem ok_fitting_call {c Pt : Addr} (F : FunC K "fitting_call" "fitting_call" s_fitting_call f fd c) (B : Bl mg) (hB : BAt mg base) (hC : PySem.W.codeHdIn K c Pt = true) : FnOk P w K mg base CX0 3 f fd ["seeing", "value"] (spFit K Pt) := by
  refine F.ok sc_fitting_call (fun vs H Q E h => ?_) (fun A outer s H vs Q E hr h => ?_)
  · obtain ⟨l, v, k, zs, rfl, _⟩ := h; rfl
  · obtain ⟨l, v, kd, zs, rfl, hS, hZ, hne, hlen, hT, k0, k1⟩ := h
    have hsz : sizeLine = 16777216 := sizeLine_eq
    refine ⟨_, (pss_cons (ps_set (i := 2) sc_fitting_call.nd rfl (by first | exact Or.inl rfl | exact Or.inr rfl) (pe_callB (call_minL rfl) rfl B.min_ PyProof.Rows.boot_min (pa_cons (pe_lc (cn_of (sc := defScope s_fitting_call) (N0 := nm_fitting_call) (ns := []) (idx := []) (by decide +kernel)) rfl (pi_list (pv 0)) (fun _ _ _ _ => pif_nil) (fun _ _ _ _ => (pe_ix (ix_tupK K) (pv 0) pe_int (fun _ _ => rfl)))) pa_nil)))
    (pss_cons (ps_setLC (i := 3) (cn_of (sc := defScope s_fitting_call) (N0 := nm_fitting_call) (ns := ["first_end", "value"]) (idx := [2, 1]) (by decide +kernel)) rfl sc_fitting_call.nd rfl (by first | exact Or.inl rfl | exact Or.inr rfl) (pi_list (pv 0)) (fun _ _ _ _ => (pif_one (PW.pt (pw_and (pt_cmpR op_le (pe_ix (ix_tupK K) (pv 0) pe_int (fun _ _ => rfl)) (pv 1) (nomark _)) (pw_and1 (pt_cmpR op_eq (pe_ix (ix_tupK K) (pv 0) pe_int (fun _ _ => rfl)) (pv 2) (nomark _))))))) (fun _ _ _ _ => (pv 0)) rfl)
    (pss_one (ps_ret (pe_callBK (call_minKey (N := ["call"]) (a := "call") (params := lamA) (body := lamB) (scope := lamS) (q := lamQ) lamSc hr rfl (fun _ _ _ _ => rfl) (fun _ _ _ _ _ _ _ => (pe_tup (pa_cons (pe_cmpR op_eq (pe_ix (ix_tupK K) (pe_ix (ix_tupK K) (pv 0) pe_int (fun _ _ => rfl)) pe_int (fun _ _ => rfl)) pe_str (nomark _)) (pa_cons (pe_ix (ix_tupK K) (pv 0) pe_int (fun _ _ => rfl)) pa_nil))))) rfl B.min_ PyProof.Rows.boot_min (pa_cons (pv 3) pa_nil) (pk_cons (pe_lam hB rfl hC) (pk_cons pe_non pk_nil))))))), ?_⟩
    -- first_end
    refine ⟨_, rfl, l, rfl, ⟨_, hS⟩, lc_listZ (zs := zs) (fun _ => true) (fun z => .int z.2.e) hS (by omega) ?_ ?_ ?_⟩
    · intro z hz D ys R hD hR
      exact hR
    · intro z hz _ D ys R hD hR
      obtain ⟨t, q, e, ht, hq⟩ := (hZ z hz).1
      exact ⟨_, rfl, t, _, 1, _, e, rfl, Same.tup (Same.upd hD) ht, at1, hR⟩
    intro D hD
    have e1 : ((zs.filter fun _ => true).map fun z => V.int z.2.e) = (zs.map fun z => z.2.e).map V.int := by
      rw [List.filter_eq_self.mpr fun _ _ => rfl, List.map_map]
      rfl
    rw [e1]
    refine ⟨D, zs.map fun z => z.2.e, rfl, SqL.of upd_same, fun z => hne (List.map_eq_nil_iff.mp z), fun M hM1 hM2 => ?_⟩
    have s1 : Same H (upd H D (.lst ((zs.map fun z => z.2.e).map V.int))) := Same.upd hD
    generalize upd H D (.lst ((zs.map fun z => z.2.e).map V.int)) = H1 at s1 ⊢
    have hM : ∀ c : Cl, ((zs.map (·.2)).all fun x => decide (c.b ≤ x.e)) = decide (c.b ≤ M) := by
      intro c
      rw [Bool.eq_iff_iff, List.all_eq_true, decide_eq_true_eq]
      constructor
      · intro h
        obtain ⟨z, hz, e⟩ := List.mem_map.mp hM1
        rw [← e]
        exact of_decide_eq_true (h z.2 (List.mem_map.mpr ⟨z, hz, rfl⟩))
      · intro h x hx
        obtain ⟨z, hz, rfl⟩ := List.mem_map.mp hx
        exact decide_eq_true (Int.le_trans h (hM2 _ (List.mem_map.mpr ⟨z, hz, rfl⟩)))
    -- fitting
    refine ⟨_, rfl, l, rfl, ⟨_, s1.seq hS⟩, lc_listZ (zs := zs) (fun z => fitB (zs.map (·.2)) v z.2) (·.1) (s1.seq hS) (by omega) ?_ ?_ ?_⟩
    · intro z hz D2 ys R hD2 hR
      obtain ⟨t, q, e, ht, hq⟩ := (hZ z hz).1
      have ht2 := Same.tup (s1.trans (Same.upd (o := .lst ys) hD2)) ht
      unfold fitB at hR
      rw [hM z.2] at hR
      refine ⟨_, rfl, t, _, 0, _, e, rfl, ht2, at0, _, rfl, _, _, rfl, rfl, _, rfl, ?_⟩
      by_cases hb : z.2.b ≤ M
      · rw [decide_eq_true hb, Bool.true_and] at hR
        refine iteP (decide_eq_true hb) ⟨_, rfl, t, _, 3, _, e, rfl, ht2, at3, _, rfl, ?_, _, rfl, ?_⟩
        · cases z.2.a <;> rfl
        · have e3 : decide (aV z.2.a = V.int v) = decide (z.2.a = some v) := by
            rw [decide_eq_decide]
            cases z.2.a with
            | none => exact ⟨fun h => (by cases h), fun h => (by cases h)⟩
            | some a => exact ⟨fun h => (by cases h; rfl), fun h => (by cases h; rfl)⟩
          rw [e3]
          exact hR
      · rw [decide_eq_false hb, Bool.false_and] at hR
        exact iteN (by rw [decide_eq_false hb]; decide) hR
    · intro z hz _ D2 ys R hD2 hR
      exact ⟨_, rfl, hR⟩
    intro D2 hD2
    have s2 := s1.trans (Same.upd (o := .lst ((zs.filter fun z => fitB (zs.map (·.2)) v z.2).map (·.1))) hD2)
    have q2 := upd_same (H := H1) (a := D2) (o := .lst ((zs.filter fun z => fitB (zs.map (·.2)) v z.2).map (·.1)))
    generalize upd H1 D2 (.lst ((zs.filter fun z => fitB (zs.map (·.2)) v z.2).map (·.1))) = H2 at s2 q2 ⊢
    generalize hF : (zs.filter fun z => fitB (zs.map (·.2)) v z.2) = fs at q2 ⊢
    have fin : ∀ z, z ∈ fs ↔ z ∈ zs ∧ Fits (zs.map (·.2)) v z.2 := fun z => by
      rw [← hF, List.mem_filter]
      constructor
      · rintro ⟨h1, h2⟩
        exact ⟨h1, (fit_iff (List.mem_map.mpr ⟨z, h1, rfl⟩)).mp h2⟩
      · rintro ⟨h1, h2⟩
        exact ⟨h1, (fit_iff (List.mem_map.mpr ⟨z, h1, rfl⟩)).mpr h2⟩
    -- the least
    refine ⟨_, rfl, LamTab.keep s2 hT, fun lf lc H3 hlf sp hT3 hl1 hl2 => ?_⟩
    have m3 : Mv H H3 := s2.mv.trans (SameP.mv (LamTab.keep s2 hT) sp)
    have q3 : H3 D2 = some (.lst (fs.map (·.1))) := (SameP.mv (LamTab.keep s2 hT) sp).lst q2
    refine ⟨D2, fs.map (·.1), lf, lc, keyOf fs, rfl, rfl, SqL.of q3, hl1, hl2, fun i u Hj hi sj => ?_, fun he => ?_, fun i u H4 hi hmin s4 => ?_⟩
    · rw [List.getElem?_map] at hi
      obtain ⟨z, hz, rfl⟩ := Option.map_eq_some_iff.mp hi
      have hzm := ((fin z).mp (List.mem_of_getElem? hz)).1
      obtain ⟨t, q, e, ht, hq⟩ := (hZ z hzm).1.mv (m3.trans sj.mv)
      have ek : keyOf fs i = (isTk z.2, z.2.e) := by unfold keyOf; rw [hz]
      rw [ek]
      exact ⟨_, rfl, t, _, 2, _, e, rfl, ht, at2, q, _, 0, _, rfl, rfl, hq, at0, rfl, _, rfl, t, _, 1, _, e, rfl, ht, at1, Nat.le_of_ble_eq_true rfl, fun p hp => ⟨p, rfl, by rw [upd_same, str_dec]; rfl, Same.upd hp⟩⟩
    · refine k0 _ m3 hT3 fun c hc => ?_
      obtain ⟨z, hz, e⟩ := List.mem_map.mp hc.1
      have : z ∈ fs := (fin z).mpr ⟨hz, by rw [e]; exact hc⟩
      rw [List.map_eq_nil_iff.mp he] at this
      cases this
    · rw [List.getElem?_map] at hi
      obtain ⟨z, hz, rfl⟩ := Option.map_eq_some_iff.mp hi
      have hzm := (fin z).mp (List.mem_of_getElem? hz)
      have ek : keyOf fs i = (isTk z.2, z.2.e) := by unfold keyOf; rw [hz]
      refine k1 _ z (m3.trans s4.mv) (LamTab.keep s4 hT3) hzm.1 hzm.2 fun htk x hx => ?_
      obtain ⟨y, hy, e⟩ := List.mem_map.mp hx.1
      have hyf : y ∈ fs := (fin y).mpr ⟨hy, by rw [e]; exact hx⟩
      obtain ⟨j, hj, ej⟩ := List.getElem_of_mem hyf
      have hm := hmin j (by rw [List.length_map]; exact hj)
      have ek2 : keyOf fs j = (isTk y.2, y.2.e) := by unfold keyOf; rw [List.getElem?_eq_getElem hj, ej]
      rw [ek, ek2] at hm
      rw [← e]
      exact key_min hm htk
--@split
def leftZ (xs : List V) (cs : List Cl) (gs : List Int) : List (V × Cl) := (leftOf cs.length gs).map fun i => ((atI xs i).getD .non, clAt cs i)
def spCome (K : PySem.W.Frag) (Pt : Addr) : Sp := fun vs H Q _ => ∃ (x l g : Addr) (xs : List V) (cs : List Cl) (gs ts : List Int), vs = [.ref x, .ref l, .ref g] ∧ SqT K H x (ts.map V.int) ∧ ts.length ≤ 1000 ∧ SqL K H l xs ∧ Calls K H "row" xs cs ∧ xs.length ≤ 60 ∧ SqL K H g (gs.map V.int) ∧
  LamTab Pt lamP lamQ H ∧ ∀ (b : Bool) H', Mv H H' → LamTab Pt lamP lamQ H' → (b = false → ¬ CanEnd cs gs (.inl ts)) → Q (.bl b) H'
theorem eraseIdx_perm {α : Type} : ∀ {l : List α} {j : Nat} {x : α}, l[j]? = some x → l.Perm (x :: l.eraseIdx j)
  | [], j, x, h => by simp at h
  | y :: l, 0, x, h => by
    cases h
    exact .refl _
  | y :: l, j + 1, x, h => by
    rw [List.getElem?_cons_succ] at h
    rw [List.eraseIdx_cons_succ]
    exact (List.Perm.cons y (eraseIdx_perm h)).trans (List.Perm.swap x y _)
theorem find_first {α : Type} (p : α → Bool) : ∀ {l : List α}, (∃ x ∈ l, p x = true) → ∃ (j : Nat) (x : α), l[j]? = some x ∧ p x = true ∧ ∀ i : Nat, i < j → ∀ y, l[i]? = some y → p y = false
  | [], h => by obtain ⟨_, h, _⟩ := h; cases h
  | a :: l, h => by
    cases e : p a with
    | true => exact ⟨0, a, rfl, e, fun i hi => absurd hi (Nat.not_lt_zero _)⟩
    | false =>
      have h' : ∃ x ∈ l, p x = true := by
        obtain ⟨x, hx, hp⟩ := h
        rcases List.mem_cons.mp hx with rfl | hx
        · rw [e] at hp; cases hp
        · exact ⟨x, hx, hp⟩
      obtain ⟨j, x, h1, h2, h3⟩ := find_first p h'
      refine ⟨j + 1, x, h1, h2, fun i hi y hy => ?_⟩
      cases i with
      | zero => cases hy; exact e
      | succ i => exact h3 i (by omega) y hy
theorem same_dD (a b : Deed) : PySem.Spec.same (dD a) (dD b) = true → a = b := by
  obtain ⟨a1, a2⟩ := a
  obtain ⟨b1, b2⟩ := b
  unfold dD
  cases a2 <;> cases b2 <;> simp [PySem.Spec.same, PySem.Spec.sameAll]
theorem same_call {a b : Cl} (h : PySem.Spec.same (callD a) (callD b) = true) : a = b := by
  obtain ⟨b1, e1, d1, a1⟩ := a
  obtain ⟨b2, e2, d2, a2⟩ := b
  unfold callD at h
  simp only [PySem.Spec.same, PySem.Spec.sameAll, Bool.and_eq_true, Bool.and_true, beq_iff_eq] at h
  obtain ⟨h1, h2, h3, h4⟩ := h
  rw [same_oD, decide_eq_true_eq] at h4
  have h3' := same_dD _ _ h3
  subst h1 h2 h3' h4
  rfl
theorem cmp_call1 {K : PySem.W.Frag} {H : Hp} {k : Str} {v : V} {c : Cl} (h : CallT K H v c) (ho : Ok k c) : Cmp (callD c) := by
  have hw := lay_calls [c] fun x hx => by rw [List.mem_singleton.mp hx]; exact good_word ho.2.1
  have hd := depth_calls [c]
  have hb := noBls_calls [c]
  simp only [List.map_cons, List.map_nil, PyData.canLayAll0, Bool.and_true] at hw
  simp only [List.map_cons, List.map_nil, PyData.depthAll] at hd
  simp only [List.map_cons, List.map_nil, noBls, Bool.and_true] at hb
  refine ⟨?_, hb⟩
  unfold SeqAt.shaped
  rw [Bool.and_eq_true]
  exact ⟨hw, decide_eq_true (by omega)⟩
theorem map_erase {α β : Type} (f : α → β) : ∀ (l : List α) (j : Nat), (l.map f).eraseIdx j = (l.eraseIdx j).map f
  | [], j => by simp
  | a :: l, 0 => by simp
  | a :: l, j + 1 => by
    rw [List.map_cons, List.eraseIdx_cons_succ, List.eraseIdx_cons_succ, List.map_cons, map_erase f l j]
theorem Mv.updN {H H2 : Hp} {D : Addr} {o : HO} (m : Mv H H2) (h : H D = none) : Mv H (upd H2 D o) := fun b ob e n => by
  rw [upd_ne (ne_of_none e h)]
  exact m b ob e n
theorem Cz.updL {K : PySem.W.Frag} {H : Hp} {g : Addr} {us : List V} {o : HO} {k : Str} {zs : List (V × Cl)} (hg : H g = some (.lst us)) (h : Cz K H k zs) : Cz K (upd H g o) k zs := fun z hz => ⟨(h z hz).1.updL hg, (h z hz).2⟩
abbrev zV (zs : List (V × Cl)) : List V := zs.map (·.1)
abbrev zC (zs : List (V × Cl)) : List Cl := zs.map (·.2)
theorem aV_int (a : Option Int) (v : Int) : decide (aV a = V.int v) = decide (a = some v) := by
  rw [decide_eq_decide]
  cases a with
  | none => exact ⟨fun h => (by cases h), fun h => (by cases h)⟩
  | some a => exact ⟨fun h => (by cases h; rfl), fun h => (by cases h; rfl)⟩
theorem ok_can_come_out {Pt : Addr} (F : Fun K "can_come_out" "can_come_out" s_can_come_out f fd) (B : Bl mg) (g_fitting_call : FnX P w K mg base "fitting_call" 3 (spFit K Pt)) : FnOk P w K mg base CX0 4 f fd ["row", "calls", "order"] (spCome K Pt) := by
  refine F.ok sc_can_come_out (fun vs H Q E h => ?_) (fun cdv A outer s H vs Q E hr h => ?_)
  · obtain ⟨x, l, g, xs, cs, gs, ts, rfl, _⟩ := h; rfl
  · obtain ⟨x, l, g, xs, cs, gs, ts, rfl, hX, hts, hS, hC, hlen, hG, hT, k⟩ := h
    have hsz : sizeLine = 16777216 := sizeLine_eq
    have hu := hu100 hr
    refine ⟨_, (pss_cons (ps_setLC (i := 3) (cn_of (sc := defScope s_can_come_out) (N0 := nm_can_come_out) (ns := ["calls", "order"]) (idx := [1, 2]) (by decide +kernel)) rfl sc_can_come_out.nd rfl (by first | exact Or.inl rfl | exact Or.inr rfl) (pi_range1 rfl B.range_ (pa_cons (pe_callB call_len_seq rfl B.len_ PySem.boot_len (pa_cons (pv 1) pa_nil)) pa_nil)) (fun _ _ _ _ => (pif_one (pt_cmpR (op_notIn_seqK K) (pv 0) (pv 2) rfl))) (fun _ _ _ _ => (pe_ix (ix_listK K) (pv 1) (pv 0) (fun _ _ => rfl))) rfl)
    (pss_cons (ps_setLC (i := 4) (cn_of (sc := defScope s_can_come_out) (N0 := nm_can_come_out) (ns := []) (idx := []) (by decide +kernel)) rfl sc_can_come_out.nd rfl (by first | exact Or.inl rfl | exact Or.inr rfl) (pi_list (pv 3)) (fun _ _ _ _ => (pif_one (pt_cmpR op_ne (pe_ix (ix_tupK K) (pe_ix (ix_tupK K) (pv 0) pe_int (fun _ _ => rfl)) pe_int (fun _ _ => rfl)) pe_str (nomark _)))) (fun _ _ _ _ => (pv 0)) rfl)
    (pss_cons (ps_setLC (i := 6) (cn_of (sc := defScope s_can_come_out) (N0 := nm_can_come_out) (ns := []) (idx := []) (by decide +kernel)) rfl sc_can_come_out.nd rfl (by first | exact Or.inl rfl | exact Or.inr rfl) (pi_list (pv 3)) (fun _ _ _ _ => (pif_one (pt_cmpR op_eq (pe_ix (ix_tupK K) (pe_ix (ix_tupK K) (pv 0) pe_int (fun _ _ => rfl)) pe_int (fun _ _ => rfl)) pe_str (nomark _)))) (fun _ _ _ _ => (pe_ix (ix_tupK K) (pe_ix (ix_tupK K) (pv 0) pe_int (fun _ _ => rfl)) pe_int (fun _ _ => rfl))) rfl)
    (pss_cons (ps_for PassesOwn.never rfl (pi_enumT rfl B.enumerate_ (pa_cons (pv 0) pa_nil)) (pg_tup rfl (pgs_cons (pg_name (i := 7) sc_can_come_out.nd rfl (by first | exact Or.inl rfl | exact Or.inr rfl)) (pgs_cons (pg_name (i := 8) sc_can_come_out.nd rfl (by first | exact Or.inl rfl | exact Or.inr rfl)) pgs_nil)))
    (pss_cons (ps_join (ps_while PassesOwn.never (pt_truth (pv 4) (fun _ => rfl))
    (pss_cons (ps_set (i := 5) sc_can_come_out.nd rfl (by first | exact Or.inl rfl | exact Or.inr rfl) (pe_fnX g_fitting_call passN hr rfl (pa_cons (pv 4) (pa_cons (pv 8) pa_nil))))
    (pss_cons (ps_if (pt_cmpR op_isN (pv 5) pe_non (nomark _))
    (pss_one (ps_ret pe_bl)) pss_nil)
    (pss_cons (ps_expr (pe_bm PySem.F.plainAttrs_list PySem.F.slot_list_remove PySem.F.type_list_remove (mt_remove hu) (pv 4) (pa_cons (pv 5) pa_nil)))
    (pss_one (ps_if (pt_cmpR op_eq (pe_ix ix_tup (pe_ix ix_tup (pv 5) pe_int (fun _ _ => rfl)) pe_int (fun _ _ => rfl)) pe_str (nomark _))
    (pss_one ps_break) pss_nil)))))))
    (pss_one (ps_if (PW.pt (pw_and (pt_cmpR op_notIn_seq (pv 8) (pe_slice sl_tup' (pv 0) (po_some (pe_op op_add (pv 7) pe_int)) po_none) rfl) (pw_and (pt_cmpR op_notIn_seq (pv 8) (pv 6) rfl) (pw_and1 (pt_val (pe_callB (call_anyB rfl) rfl B.any_ PyProof.Rows.boot_any (pa_cons (pe_lc (cn_of (sc := defScope s_can_come_out) (N0 := nm_can_come_out) (ns := ["value"]) (idx := [8]) (by decide +kernel)) rfl (pi_list (pv 4)) (fun _ _ _ _ => pif_nil) (fun _ _ _ _ => (pe_cmpR op_eq (pe_ix (ix_tupK K) (pv 0) pe_int (fun _ _ => rfl)) (pv 1) (nomark _)))) pa_nil)))))))
    (pss_one (ps_ret pe_bl)) pss_nil))))
    (pss_one (ps_ret pe_bl)))))), ?_⟩
    have nt : ((xs.length : Int)).toNat = xs.length := by omega
    have hn : xs.length = cs.length := hC.len
    -- left
    refine ⟨_, rfl, l, xs, rfl, .inl hS, (xs.length : Int), rfl, by omega, by omega, lc_range (lo := 0) (n := ((xs.length : Int)).toNat) (fun x => !inV (V.int x) (gs.map V.int)) (fun i => (atI xs i).getD .non) (by omega) ?_ ?_ ?_⟩
    · intro x _ _ D ys R hD hR
      exact ⟨_, rfl, _, rfl, g, gs.map V.int, rfl, .inl ((Same.upd hD).seq hG), rfl, flat_ints gs, _, rfl, hR⟩
    · intro x h0 h1 _ D ys R hD hR
      obtain ⟨v', hv, _⟩ := hC.num (i := x) h0 (by rw [← hn]; omega)
      rw [hv] at hR
      exact ⟨_, rfl, _, rfl, l, xs, x, _, rfl, rfl, (Same.upd hD).seq hS, hv, hR⟩
    intro D hD
    rw [nt, hn]
    have eL : ((iotaZ 0 cs.length).filter (fun x => !inV (V.int x) (gs.map V.int))).map (fun i => (atI xs i).getD .non) = (leftZ xs cs gs).map (·.1) := by
      unfold leftZ
      rw [List.map_map]
      rfl
    rw [eL]
    have hZ0 : Cz K H "row" (leftZ xs cs gs) := fun z hz => by
      obtain ⟨i, hi, rfl⟩ := List.mem_map.mp hz
      have hii := mem_left hi
      obtain ⟨v', hv, hc, ho⟩ := hC.num hii.1 hii.2
      show CallT K H ((atI xs i).getD .non) (clAt cs i) ∧ Ok "row" (clAt cs i)
      rw [hv]
      exact ⟨hc, ho⟩
    have hlz : (leftZ xs cs gs).length ≤ 60 := by
      unfold leftZ
      rw [List.length_map]
      have h1 : (leftOf cs.length gs).length ≤ (iotaZ 0 cs.length).length := List.length_filter_le _ _
      have h2 : (iotaZ 0 cs.length).length = cs.length := by simp [iotaZ]
      omega
    have eSnd : (leftZ xs cs gs).map (·.2) = (leftOf cs.length gs).map (clAt cs) := by
      unfold leftZ
      rw [List.map_map]
      rfl
    generalize leftZ xs cs gs = zl at hZ0 hlz eSnd ⊢
    have s1 : Same H (upd H D (.lst (zl.map (·.1)))) := Same.upd hD
    have q1 : (upd H D (.lst (zl.map (·.1)))) D = some (.lst (zl.map (·.1))) := upd_same
    generalize upd H D (.lst (zl.map (·.1))) = H1 at s1 q1 ⊢
    have hZ1 := hZ0.mv s1.mv
    -- seeing
    refine ⟨_, rfl, D, rfl, ⟨_, SqL.of q1⟩, lc_listZ (zs := zl) (fun z => !isPut z.2) (·.1) (SqL.of q1) (by omega) ?_ ?_ ?_⟩
    · intro z hz D2 ys R hD2 hR
      obtain ⟨t, q, e, ht, hq⟩ := (hZ1 z hz).1.mv (Same.mv (Same.upd (o := .lst ys) hD2))
      refine ⟨_, rfl, t, _, 2, _, e, rfl, ht, at2, q, _, 0, _, rfl, rfl, hq, at0, rfl, _, rfl, ?_⟩
      rw [str_dec]
      exact hR
    · intro z hz _ D2 ys R hD2 hR
      exact ⟨_, rfl, hR⟩
    intro D2 hD2
    have s2 : Same H1 (upd H1 D2 (.lst ((zl.filter fun z => !isPut z.2).map (·.1)))) := Same.upd hD2
    have q2 : (upd H1 D2 (.lst ((zl.filter fun z => !isPut z.2).map (·.1)))) D2 = some (.lst ((zl.filter fun z => !isPut z.2).map (·.1))) := upd_same
    generalize upd H1 D2 (.lst ((zl.filter fun z => !isPut z.2).map (·.1))) = H2 at s2 q2 ⊢
    have hZ2 := hZ1.mv s2.mv
    have nD2 : H D2 = none := none_of s1 hD2
    -- later
    refine ⟨_, rfl, D, rfl, ⟨_, SqL.of (s2 _ _ q1)⟩, lc_listZ (zs := zl) (fun z => isPut z.2) (fun z => .int (z.2.d.2.getD 0)) (SqL.of (s2 _ _ q1)) (by omega) ?_ ?_ ?_⟩
    · intro z hz D3 ys R hD3 hR
      obtain ⟨t, q, e, ht, hq⟩ := (hZ2 z hz).1.mv (Same.mv (Same.upd (o := .lst ys) hD3))
      refine ⟨_, rfl, t, _, 2, _, e, rfl, ht, at2, q, _, 0, _, rfl, rfl, hq, at0, rfl, _, rfl, ?_⟩
      rw [str_dec]
      exact hR
    · intro z hz hp D3 ys R hD3 hR
      obtain ⟨t, q, e, ht, hq⟩ := (hZ2 z hz).1.mv (Same.mv (Same.upd (o := .lst ys) hD3))
      have hh := good_has (.inl rfl) (hZ2 z hz).2.2.1 (.inl (of_decide_eq_true hp))
      obtain ⟨y, hy⟩ := Option.isSome_iff_exists.mp hh
      rw [hy] at hq hR
      exact ⟨_, rfl, t, _, 2, _, e, rfl, ht, at2, q, _, 2, _, rfl, rfl, hq, at2, hR⟩
    intro D3 hD3
    have eW : (zl.filter fun z => isPut z.2).map (fun z => V.int (z.2.d.2.getD 0)) = (laterW cs gs).map V.int := by
      unfold laterW
      rw [← eSnd, List.filter_map, List.map_map, List.map_map]
      rfl
    rw [eW]
    have s3 : Same H2 (upd H2 D3 (.lst ((laterW cs gs).map V.int))) := Same.upd hD3
    have q3 : (upd H2 D3 (.lst ((laterW cs gs).map V.int))) D3 = some (.lst ((laterW cs gs).map V.int)) := upd_same
    generalize upd H2 D3 (.lst ((laterW cs gs).map V.int)) = H3 at s3 q3 ⊢
    have q23 := s3 _ _ q2
    have n32 : D3 ≠ D2 := fun z => by rw [z, q2] at hD3; cases hD3
    have s03 := (s1.trans s2).trans s3
    have eSee : (zl.filter fun z => !isPut z.2).map (·.2) = seeOf cs gs := by
      unfold seeOf
      rw [← eSnd, List.filter_map]
      rfl
    have hSch : CanEnd cs gs (.inl ts) → Sched (· ∈ laterW cs gs) ts ((zl.filter fun z => !isPut z.2).map (·.2)) := fun h => by rw [eSee]; exact come_out h
    have hZs : Cz K H3 "row" (zl.filter fun z => !isPut z.2) := (hZ2.mv s3.mv).filter _
    have hls : (zl.filter fun z => !isPut z.2).length ≤ 60 := Nat.le_trans (List.length_filter_le _ _) hlz
    generalize (zl.filter fun z => !isPut z.2) = z0 at q23 hSch hZs hls
    refine ⟨_, rfl, x, rfl, ⟨_, s03.mv.tup hX⟩, for_enumT (K := K) (a := x) (xs := ts.map V.int) (fun i σ H4 => ∃ (v5 v7 v8 : Option V) (zs : List (V × Cl)), σ = [some (.ref x), some (.ref l), some (.ref g), some (.ref D), some (.ref D2), v5, some (.ref D3), v7, v8] ∧ Mv H H4 ∧ LamTab Pt lamP lamQ H4 ∧
      H4 D2 = some (.lst (zV zs)) ∧ H4 D3 = some (.lst ((laterW cs gs).map V.int)) ∧ Cz K H4 "row" zs ∧ zs.length ≤ 60 ∧ (CanEnd cs gs (.inl ts) → Sched (· ∈ laterW cs gs) (ts.drop i) (zC zs)))
      ⟨none, none, none, z0, rfl, s03.mv, LamTab.keep s03 hT, q23, q3, hZs, hls, hSch⟩ (fun i σ H4 _ ⟨_, _, _, _, _, m4, _⟩ => m4.tup hX) ?_ ?_⟩
    · rintro i y t σ H4 hi ⟨v5, v7, v8, zs, rfl, m4, hT4, d4, e4, z4, l4, sch⟩ ht
      rw [List.getElem?_map] at hi
      obtain ⟨v, hv, rfl⟩ := Option.map_eq_some_iff.mp hi
      have hil : i < ts.length := (List.getElem?_eq_some_iff.mp hv).1
      have edrop : ts.drop i = v :: ts.drop (i + 1) := by
        rw [List.drop_eq_getElem_cons hil]
        congr 1
        exact Option.some.inj ((List.getElem?_eq_getElem hil).symm.trans hv)
      rw [edrop] at sch
      have s5 : Same H4 (upd H4 t (.tup [.int i, .int v])) := Same.upd ht
      refine ⟨t, _, rfl, SqT.of upd_same, rfl, _, _, rfl, _, _, rfl, rfl, ?_⟩
      generalize upd H4 t (.tup [.int i, .int v]) = H5 at s5 ⊢
      refine ⟨fun σ' H6 => ∃ (v5 : Option V) (zs : List (V × Cl)), σ' = [some (.ref x), some (.ref l), some (.ref g), some (.ref D), some (.ref D2), v5, some (.ref D3), some (.int i), some (.int v)] ∧ Mv H H6 ∧ LamTab Pt lamP lamQ H6 ∧
        H6 D2 = some (.lst (zV zs)) ∧ H6 D3 = some (.lst ((laterW cs gs).map V.int)) ∧ Cz K H6 "row" zs ∧ zs.length ≤ 60 ∧ (CanEnd cs gs (.inl ts) → Sched (· ∈ laterW cs gs) (ts.drop (i + 1)) (zC zs)), ?_, ?_⟩
      · refine ⟨fun m σ' H6 => ∃ (v5 : Option V) (zs : List (V × Cl)), m = zs.length ∧ σ' = [some (.ref x), some (.ref l), some (.ref g), some (.ref D), some (.ref D2), v5, some (.ref D3), some (.int i), some (.int v)] ∧ Mv H H6 ∧ LamTab Pt lamP lamQ H6 ∧
          H6 D2 = some (.lst (zV zs)) ∧ H6 D3 = some (.lst ((laterW cs gs).map V.int)) ∧ Cz K H6 "row" zs ∧ zs.length ≤ 60 ∧ (CanEnd cs gs (.inl ts) → Sched (· ∈ laterW cs gs) (v :: ts.drop (i + 1)) (zC zs)),
          ⟨_, v5, zs, rfl, rfl, m4.trans s5.mv, LamTab.keep s5 hT4, s5 _ _ d4, s5 _ _ e4, z4.mv s5.mv, l4, sch⟩, ?_⟩
        rintro m σ' H6 ⟨v5, zs, rfl, rfl, m6, hT6, d6, e6, z6, l6, sch6⟩
        refine ⟨_, rfl, _, .inl ⟨_, SqL.of d6, rfl⟩, ?_⟩
        cases hz0 : zs with
        | nil =>
          subst hz0
          exact iteF ⟨v5, [], rfl, m6, hT6, d6, e6, z6, l6, fun _ => Sched.nil⟩
        | cons z1 zr =>
          rw [← hz0]
          have hne : zs ≠ [] := by rw [hz0]; simp
          refine iteP (by rw [hz0]; rfl) ⟨fun σ' H7 => ∃ (v5 : Option V) (zs' : List (V × Cl)), zs'.length < zs.length ∧ σ' = [some (.ref x), some (.ref l), some (.ref g), some (.ref D), some (.ref D2), v5, some (.ref D3), some (.int i), some (.int v)] ∧ Mv H H7 ∧ LamTab Pt lamP lamQ H7 ∧
            H7 D2 = some (.lst (zV zs')) ∧ H7 D3 = some (.lst ((laterW cs gs).map V.int)) ∧ Cz K H7 "row" zs' ∧ zs'.length ≤ 60 ∧ (CanEnd cs gs (.inl ts) → Sched (· ∈ laterW cs gs) (v :: ts.drop (i + 1)) (zC zs')),
            fun σ' H7 ⟨v5, zs', hlt, h⟩ => ⟨_, hlt, v5, zs', rfl, h⟩, ?_⟩
          have hbe : ∀ c ∈ zC zs, c.b < c.e := fun c hc => by
            obtain ⟨z, hz, rfl⟩ := List.mem_map.mp hc
            exact (z6 z hz).2.1
          refine ⟨_, rfl, _, rfl, D2, v, "row", zs, rfl, SqL.of d6, z6, hne, l6, hT6, fun H7 m7 hT7 hno => ?_, fun H7 z m7 hT7 hz hf hmin => ?_⟩
          · refine ⟨_, rfl, rfl, _, rfl, iteP (decide_eq_true rfl) ?_⟩
            refine k false _ (m6.trans m7) hT7 fun _ hc => ?_
            obtain ⟨c, hc⟩ := (sch6 hc).some hbe (fun z => hne (List.map_eq_nil_iff.mp z))
            exact hno c hc
          · have z7 := z6.mv m7
            have d7 := m7.lst d6
            have e7 := m7.lst e6
            obtain ⟨tt, qd, ez, htt, hqd⟩ := (z7 z hz).1
            refine ⟨_, rfl, rfl, _, rfl, iteN (by rw [ez]; exact fun z => (by cases of_decide_eq_true z)) ?_⟩
            -- remove
            obtain ⟨j, e, hj, hje, hjf⟩ := find_first (fun e : Cl => PySem.Spec.same (callD e) (callD z.2)) (l := zC zs) ⟨z.2, List.mem_map.mpr ⟨z, hz, rfl⟩, same_self _⟩
            have hez := same_call hje
            subst hez
            rw [List.getElem?_map] at hj
            obtain ⟨zj, hzj, ezj⟩ := Option.map_eq_some_iff.mp hj
            have hperm : (zC zs).Perm (z.2 :: zC (zs.eraseIdx j)) := by
              rw [← ezj]
              exact (eraseIdx_perm hzj).map (·.2)
            have hlt : (zs.eraseIdx j).length < zs.length := by
              have := (eraseIdx_perm hzj).length_eq
              rw [List.length_cons] at this
              omega
            refine ⟨_, rfl, .inl ⟨rfl, _, SqL.of d7⟩, _, rfl, D2, zV zs, z.1, (zC zs).map callD, callD z.2, j, callD z.2, rfl, rfl, d7, isAll_calls z7.calls, is_call (z7 z hz).1, cmp_calls z7.calls, cmp_call1 (z7 z hz).1 (z7 z hz).2, ?_, same_self _, fun q hq e' he' => ?_, ?_⟩
            · rw [List.getElem?_map, List.getElem?_map, hzj]
              show some (callD zj.2) = _
              rw [ezj]
            · rw [List.getElem?_map] at he'
              obtain ⟨c', hc', rfl⟩ := Option.map_eq_some_iff.mp he'
              exact hjf q hq c' hc'
            rw [map_erase]
            have m8 : Mv H (upd H7 D2 (.lst (zV (zs.eraseIdx j)))) := Mv.updN (m6.trans m7) nD2
            have hT8 : LamTab Pt lamP lamQ (upd H7 D2 (.lst (zV (zs.eraseIdx j)))) := hT7.upd d7 (fun _ z => by cases z) (fun _ z => by cases z)
            have d8 : (upd H7 D2 (.lst (zV (zs.eraseIdx j)))) D2 = some (.lst (zV (zs.eraseIdx j))) := upd_same
            have e8 : (upd H7 D2 (.lst (zV (zs.eraseIdx j)))) D3 = some (.lst ((laterW cs gs).map V.int)) := by rw [upd_ne n32]; exact e7
            have z8 : Cz K (upd H7 D2 (.lst (zV (zs.eraseIdx j)))) "row" (zs.eraseIdx j) := fun y hy => (z7.updL d7) y (List.mem_of_mem_eraseIdx hy)
            have htt8 : SqT K (upd H7 D2 (.lst (zV (zs.eraseIdx j)))) tt _ := SqT.updL d7 htt
            have hqd8 : SqT K (upd H7 D2 (.lst (zV (zs.eraseIdx j)))) qd _ := SqT.updL d7 hqd
            generalize upd H7 D2 (.lst (zV (zs.eraseIdx j))) = H8 at m8 hT8 d8 e8 z8 htt8 hqd8 ⊢
            refine ⟨_, rfl, tt, _, 2, _, ez, rfl, htt8, at2, qd, _, 0, _, rfl, rfl, hqd8, at0, rfl, _, rfl, ?_⟩
            rw [str_dec]
            have hl8 : (zs.eraseIdx j).length ≤ 60 := by omega
            cases htk : isTk z.2 with
            | true =>
              refine iteP htk ⟨_, zs.eraseIdx j, rfl, m8, hT8, d8, e8, z8, hl8, fun hc => ?_⟩
              exact (sch6 hc).take hbe hperm htk hf (hmin htk)
            | false =>
              refine iteN (by rw [show decide (z.2.d.1 = "take") = isTk z.2 from rfl, htk]; decide) ⟨_, zs.eraseIdx j, hlt, rfl, m8, hT8, d8, e8, z8, hl8, fun hc => ?_⟩
              exact (sch6 hc).look hperm htk
      · rintro σ' H6 ⟨v5, zs, rfl, m6, hT6, d6, e6, z6, l6, sch6⟩
        have nxt : ∀ H7, Same H6 H7 → Mv H H7 ∧ LamTab Pt lamP lamQ H7 ∧ H7 D2 = some (.lst (zV zs)) ∧ H7 D3 = some (.lst ((laterW cs gs).map V.int)) ∧ Cz K H7 "row" zs ∧ zs.length ≤ 60 ∧ (CanEnd cs gs (.inl ts) → Sched (· ∈ laterW cs gs) (ts.drop (i + 1)) (zC zs)) := fun H7 s7 =>
          ⟨m6.trans s7.mv, LamTab.keep s7 hT6, s7 _ _ d6, s7 _ _ e6, z6.mv s7.mv, l6, sch6⟩
        have hx1 : HT.sIx (ts.map V.int).length 0 (some ((i : Int) + 1)) = i + 1 := by
          rw [show ((i : Int) + 1) = ((i + 1 : Nat) : Int) by push_cast; rfl, HT.sIx_nat, List.length_map]
          omega
        refine ⟨_, rfl, _, rfl, _, rfl, _, _, rfl, rfl, _, rfl, x, _, rfl, m6.tup hX, .inr ⟨fun z => ?_, fun p hp => ?_⟩⟩
        · rw [hx1] at z
          exact absurd z.1 (by omega)
        have ecut : cutV (ts.map V.int) (some ((i : Int) + 1)) none = (ts.drop (i + 1)).map V.int := by
          unfold cutV
          rw [hx1, HT.sIx_none, List.map_drop]
          exact List.take_of_length_le (by rw [List.length_drop]; omega)
        rw [ecut]
        have s7 : Same H6 (upd H6 p (.tup ((ts.drop (i + 1)).map V.int))) := Same.upd hp
        have q7 : (upd H6 p (.tup ((ts.drop (i + 1)).map V.int))) p = some (.tup ((ts.drop (i + 1)).map V.int)) := upd_same
        generalize upd H6 p (.tup ((ts.drop (i + 1)).map V.int)) = H7 at s7 q7 ⊢
        refine ⟨p, _, rfl, .inr (SqT.of q7), rfl, flat_ints _, _, rfl, ?_⟩
        cases e1 : inV (V.int v) ((ts.drop (i + 1)).map V.int) with
        | true => exact iteF (iteF ⟨v5, _, _, zs, rfl, nxt _ s7⟩)
        | false =>
          refine iteT ⟨_, rfl, _, rfl, D3, _, rfl, .inl (SqL.of (s7 _ _ e6)), rfl, flat_ints _, _, rfl, ?_⟩
          cases e2 : inV (V.int v) ((laterW cs gs).map V.int) with
          | true => exact iteF (iteF ⟨v5, _, _, zs, rfl, nxt _ s7⟩)
          | false =>
            refine iteT ⟨_, rfl, D2, rfl, ⟨_, SqL.of (s7 _ _ d6)⟩, lc_listZ (zs := zs) (fun _ => true) (fun z => .bl (decide (z.2.a = some v))) (SqL.of (s7 _ _ d6)) (by omega) ?_ ?_ ?_⟩
            · intro z hz D4 ys R hD4 hR
              exact hR
            · intro z hz _ D4 ys R hD4 hR
              obtain ⟨t4, q4, e4', ht4, hq4⟩ := (z6 z hz).1.mv (s7.trans (Same.upd (o := .lst ys) hD4)).mv
              refine ⟨_, rfl, t4, _, 3, _, e4', rfl, ht4, at3, _, rfl, ?_, ?_⟩
              · cases z.2.a <;> rfl
              · rw [aV_int]
                exact hR
            intro D4 hD4
            have emap : (zs.filter fun _ => true).map (fun z => V.bl (decide (z.2.a = some v))) = (zs.map fun z => decide (z.2.a = some v)).map V.bl := by
              rw [List.filter_eq_self.mpr fun _ _ => rfl, List.map_map]
              rfl
            rw [emap]
            refine ⟨D4, _, rfl, SqL.of upd_same, _, rfl, ?_⟩
            have s8 := s7.trans (Same.upd (o := .lst ((zs.map fun z => decide (z.2.a = some v)).map V.bl)) hD4)
            cases e3 : (zs.map fun z => decide (z.2.a = some v)).any id with
            | false => exact iteF ⟨v5, _, _, zs, rfl, nxt _ s8⟩
            | true =>
              refine iteT (k false _ (m6.trans s8.mv) (LamTab.keep s8 hT6) fun _ hc => ?_)
              rw [List.any_map, List.any_eq_true] at e3
              obtain ⟨z, hz, hz2⟩ := e3
              have hza : z.2.a = some v := of_decide_eq_true hz2
              obtain ⟨L, hL1, hL2, hL3⟩ := sch6 hc
              rcases Sees.mem hL3 z.2 (hL1.mem_iff.mpr (List.mem_map.mpr ⟨z, hz, rfl⟩)) v hza with h | h
              · rw [inV_ints, List.any_eq_false] at e1
                exact e1 v h (by simp)
              · rw [inV_ints, List.any_eq_false] at e2
                exact e2 v h (by simp)
    · rintro σ H4 ⟨v5, v7, v8, zs, rfl, m4, hT4, d4, e4, z4, l4, sch⟩
      exact k true _ m4 hT4 fun z => by cases z
--@split
def spWays (K : PySem.W.Frag) : Sp := fun vs H Q _ => ∃ (k : Str) (l g : Addr) (x : V) (xs : List V) (cs : List Cl) (gs : List Int) (t : Th), vs = [.str k, .ref l, .ref g, x] ∧ (k = "row" ∨ k = "number") ∧ SqL K H l xs ∧ Calls K H k xs cs ∧ H g = some (.lst (gs.map V.int)) ∧ gs.length ≤ 60 ∧ xs.length ≤ 60 ∧ Thing K H k x t ∧ sizeT t ≤ 1000 ∧
  ∀ (D : Addr) (ms : List V) (H' : Hp), Same H H' → H' D = some (.lst ms) → Rows K H' k ms (waysOf cs gs t) → Q (.ref D) H'
def wayF (cs : List Cl) (gs : List Int) (t : Th) (fs : List Int) : List Row := (fs.filter fun i => decide ((stp cs t i).2 = (clAt cs i).a)).map fun i => (gs ++ [i], (stp cs t i).1)
theorem wayF_snoc (cs : List Cl) (gs : List Int) (t : Th) (fs : List Int) (z : Int) : wayF cs gs t (fs ++ [z]) = if (stp cs t z).2 = (clAt cs z).a then wayF cs gs t fs ++ [(gs ++ [z], (stp cs t z).1)] else wayF cs gs t fs := by
  unfold wayF
  rw [List.filter_append, List.map_append]
  by_cases h : (stp cs t z).2 = (clAt cs z).a
  · rw [if_pos h]; simp [h]
  · rw [if_neg h]; simp [h]
theorem wayF_len (cs : List Cl) (gs : List Int) (t : Th) (fs : List Int) : (wayF cs gs t fs).length ≤ fs.length := by
  unfold wayF
  rw [List.length_map]
  exact List.length_filter_le _ _
theorem ok_ways_on (F : Fun K "ways_on" "ways_on" s_ways_on f fd) (B : Bl mg) (g_do_deed : FnX P w K mg base "do_deed" 2 (spDo K)) (g_free_calls : FnX P w K mg base "free_calls" 2 (spFree K)) : FnOk P w K mg base CX0 3 f fd ["kind", "calls", "order", "thing"] (spWays K) := by
  refine F.ok sc_ways_on (fun vs H Q E h => ?_) (fun cdv A outer s H vs Q E hr h => ?_)
  · obtain ⟨k, l, g, x, xs, cs, gs, t, rfl, _⟩ := h; rfl
  · obtain ⟨kd, l, g, x, xs, cs, gs, t, rfl, hk, hS, hC, hg, hgl, hlen, hTh, hsT, k⟩ := h
    have hsz : sizeLine = 16777216 := sizeLine_eq
    refine ⟨_, (pss_cons (ps_set (i := 4) sc_ways_on.nd rfl (by first | exact Or.inl rfl | exact Or.inr rfl) (pe_lst pa_nil))
    (pss_cons (ps_for PassesOwn.never rfl (pi_list (pe_fnX g_free_calls passN hr rfl (pa_cons (pv 1) (pa_cons (pv 2) pa_nil)))) (pg_name (i := 5) sc_ways_on.nd rfl (by first | exact Or.inl rfl | exact Or.inr rfl))
    (pss_cons (ps_set (i := 6) sc_ways_on.nd rfl (by first | exact Or.inl rfl | exact Or.inr rfl) (pe_fnX g_do_deed passN hr rfl (pa_cons (pv 0) (pa_cons (pv 3) (pa_cons (pe_ix ix_tup (pe_ix ix_list (pv 1) (pv 5) (fun _ _ => rfl)) pe_int (fun _ _ => rfl)) pa_nil)))))
    (pss_one (ps_if (pt_cmpR op_eq (pe_ix ix_tup (pv 6) pe_int (fun _ _ => rfl)) (pe_ix ix_tup (pe_ix ix_list (pv 1) (pv 5) (fun _ _ => rfl)) pe_int (fun _ _ => rfl)) (nomark _))
    (pss_one (ps_expr (pe_bm PySem.F.plainAttrs_list PySem.F.slot_list_append PySem.F.type_list_append mt_append (pv 4) (pa_cons (pe_tup (pa_cons (pe_op op_cat (pv 2) (pe_lst (pa_cons (pv 5) pa_nil))) (pa_cons (pe_ix ix_tup (pv 6) pe_int (fun _ _ => rfl)) pa_nil))) pa_nil)))) pss_nil))))
    (pss_one (ps_ret (pv 4))))), ?_⟩
    refine ⟨Nat.le_of_ble_eq_true rfl, fun D hD => ?_⟩
    have s0 : Same H (upd H D (.lst [])) := Same.upd hD
    have q0 : (upd H D (.lst [])) D = some (.lst []) := upd_same
    generalize upd H D (.lst []) = H0 at s0 q0 ⊢
    refine ⟨_, rfl, _, rfl, l, g, kd, xs, cs, gs, rfl, s0.seq hS, hC.keep s0, SqL.of (s0 _ _ hg), by omega, fun Dg H1 s1 hDg => ?_⟩
    have q1 := s1 _ _ q0
    have s01 := s0.trans s1
    have hDD : freeOf cs gs ≠ [] → Dg ≠ D := fun hne z => by
      rw [z, q1] at hDg
      have := HO.lst.inj (Option.some.inj hDg)
      exact hne (List.map_eq_nil_iff.mp this.symm)
    have hfl : (freeOf cs gs).length ≤ 60 := by
      have h1 : (freeOf cs gs).length ≤ (leftOf cs.length gs).length := List.length_filter_le _ _
      have h2 : (leftOf cs.length gs).length ≤ (iotaZ 0 cs.length).length := List.length_filter_le _ _
      have h3 : (iotaZ 0 cs.length).length = cs.length := by simp [iotaZ]
      have := hC.len
      omega
    refine ⟨Dg, rfl, ⟨_, SqL.of hDg⟩, for_list (K := K) (a := Dg) (xs := (freeOf cs gs).map V.int) (fun i σ H2 => ∃ (v5 v6 : Option V) (ms : List V), σ = [some (.str kd), some (.ref l), some (.ref g), some x, some (.ref D), v5, v6] ∧ Same H H2 ∧ H2 Dg = some (.lst ((freeOf cs gs).map V.int)) ∧ H2 D = some (.lst ms) ∧ Rows K H2 kd ms (wayF cs gs t ((freeOf cs gs).take i)))
      ⟨none, none, [], rfl, s01, hDg, q1, ⟨rfl, fun i v h => by simp at h⟩⟩ (fun i σ H2 _ ⟨_, _, _, _, _, h, _⟩ => SqL.of h) ?_ ?_⟩
    · rintro i y σ H2 hi ⟨v5, v6, ms, rfl, s2, f2, d2, r2⟩
      rw [List.getElem?_map] at hi
      obtain ⟨z, hz, rfl⟩ := Option.map_eq_some_iff.mp hi
      have hzm := List.mem_of_getElem? hz
      have hzz := free_in hzm
      have hil : i < (freeOf cs gs).length := (List.getElem?_eq_some_iff.mp hz).1
      obtain ⟨u, hu', ⟨tt, qd, rfl, ht, hqd⟩, hokc⟩ := (hC.keep s2).num hzz.1 hzz.2
      refine ⟨_, rfl, _, rfl, _, rfl, _, rfl, l, _, _, _, rfl, rfl, s2.seq hS, hu', tt, _, 2, _, rfl, rfl, ht, at2, kd, x, t, qd, (clAt cs z).d.1, (clAt cs z).d.2, rfl, hTh.keep s2, hsT, hqd, good_has hk hokc.2.1, fun H3 p y s3 hp hy => ?_⟩
      have s13 := s2.trans s3
      have etk := take_snoc hz
      refine ⟨_, rfl, p, _, 1, _, rfl, rfl, SqT.of hp, at1, _, rfl, _, rfl, l, _, _, _, rfl, rfl, s13.seq hS, hu', tt, _, 3, _, rfl, rfl, Same.tup s3 ht, at3, ?_, _, rfl, ?_⟩
      · cases (doT t (clAt cs z).d.1 (clAt cs z).d.2).2 <;> cases (clAt cs z).a <;> rfl
      rw [aV_dec]
      by_cases e1 : (stp cs t z).2 = (clAt cs z).a
      · refine iteP (decide_eq_true e1) ?_
        refine ⟨_, rfl, .inl ⟨rfl, _, SqL.of (s3 _ _ d2)⟩, _, rfl, _, rfl, Nat.le_of_ble_eq_true rfl, fun p1 hp1 => ?_⟩
        have t1 := Same.upd (o := .lst [.int z]) hp1
        refine ⟨g, p1, _, _, rfl, rfl, t1 _ _ (s13 _ _ hg), upd_same, ?_, fun p2 hp2 => ?_⟩
        · rw [List.length_map]
          show _ + 1 ≤ _
          omega
        have t2 := Same.upd (o := .lst (gs.map V.int ++ [.int z])) hp2
        have q2 := upd_same (H := upd H3 p1 (.lst [.int z])) (a := p2) (o := .lst (gs.map V.int ++ [.int z]))
        have t12 := t1.trans t2
        have hpD : p2 ≠ D := fun e => by rw [e, t1 _ _ (s3 _ _ d2)] at hp2; cases hp2
        generalize upd (upd H3 p1 (.lst [.int z])) p2 (.lst (gs.map V.int ++ [.int z])) = H4 at t2 q2 t12 ⊢
        refine ⟨_, rfl, p, _, 0, _, rfl, rfl, SqT.of (t12 _ _ hp), at0, Nat.le_of_ble_eq_true rfl, fun p5 hp5 => ?_⟩
        have t5 := Same.upd (o := .tup [.ref p2, y]) hp5
        have q5 := upd_same (H := H4) (a := p5) (o := .tup [.ref p2, y])
        generalize upd H4 p5 (.tup [.ref p2, y]) = H5 at t5 q5 ⊢
        have t35 := t12.trans t5
        have d5 := t35 _ _ (s3 _ _ d2)
        have r5 := r2.keep (s3.trans t35)
        refine ⟨D, ms, _, rfl, rfl, d5, ?_, ?_⟩
        · rw [r2.len]
          have h1 := wayF_len cs gs t ((freeOf cs gs).take i)
          have h2 : ((freeOf cs gs).take i).length ≤ (freeOf cs gs).length := by rw [List.length_take]; exact Nat.min_le_right _ _
          omega
        have hne : freeOf cs gs ≠ [] := fun z => by rw [z] at hzm; cases hzm
        refine ⟨_, _, _, rfl, fun b o h => ?_, ?_, upd_same, ?_⟩
        · rw [upd_ne (ne_of_none h hD)]
          exact t35 _ _ (s13 _ _ h)
        · rw [upd_ne (hDD hne)]
          exact t35 _ _ (s3 _ _ f2)
        · rw [etk, wayF_snoc, if_pos e1]
          refine Rows.snoc (g := p2) (x := y) (Rows.updD d5 r5) (SqT.updL d5 (SqT.of q5)) ?_ (Thing.updL d5 (hy.keep t35))
          rw [upd_ne hpD, t5 _ _ q2, List.map_append]
          rfl
      · refine iteN (by rw [show decide ((doT t (clAt cs z).d.1 (clAt cs z).d.2).2 = (clAt cs z).a) = false from decide_eq_false e1]; decide) ⟨_, _, _, rfl, s13, s3 _ _ f2, s3 _ _ d2, ?_⟩
        rw [etk, wayF_snoc, if_neg e1]
        exact r2.keep s3
    · rintro σ H2 ⟨v5, v6, ms, rfl, s2, f2, d2, r2⟩
      rw [List.length_map, List.take_length] at r2
      exact ⟨_, rfl, k D ms H2 s2 d2 r2⟩
def Mx (H H' : Hp) : Prop := ∀ b o, H b = some o → (∀ φ, o ≠ .ext φ) → (∀ ps, o ≠ .tbl ps) → H' b = some o
theorem Mx.of {H H' : Hp} (m : Mv H H') : Mx H H' := fun b o e _ n => m b o e n
theorem Mx.updE {H : Hp} {d : Addr} {φ : Heap → Prop} {o : HO} (h : H d = some (.ext φ)) : Mx H (upd H d o) := fun b ob e n _ => by
  rw [upd_ne (ne_of e h fun z => n _ z)]
  exact e
theorem Mx.lst {H H' : Hp} (m : Mx H H') {a : Addr} {xs : List V} (h : H a = some (.lst xs)) : H' a = some (.lst xs) := m _ _ h (fun _ z => by cases z) fun _ z => by cases z
theorem Mx.tup {K : PySem.W.Frag} {H H' : Hp} {a : Addr} {xs : List V} (m : Mx H H') (h : SqT K H a xs) : SqT K H' a xs := by
  rcases h with (h | ⟨o, h⟩) | h
  · exact .inl (.inl (m _ _ h (fun _ z => by cases z) fun _ z => by cases z))
  · exact .inl (.inr ⟨o, m _ _ h (fun _ z => by cases z) fun _ z => by cases z⟩)
  · exact .inr h
theorem Thing.mx {K : PySem.W.Frag} {H H' : Hp} {k : Str} {v : V} {t : Th} (m : Mx H H') (h : Thing K H k v t) : Thing K H' k v t := by
  cases h with
  | row h =>
    obtain ⟨a, e, h⟩ := h
    exact .row ⟨a, e, m.tup h⟩
  | num => exact .num
theorem Rows.mx {K : PySem.W.Frag} {H H' : Hp} {k : Str} {vs : List V} {rs : List Row} (m : Mx H H') (h : Rows K H k vs rs) : Rows K H' k vs rs :=
  ⟨h.len, fun i v e => let ⟨r, t, g, x, h1, h2, h3, h4, h5⟩ := h.at_ i v e; ⟨r, t, g, x, h1, h2, m.tup h3, m.lst h4, h5.mx m⟩⟩
theorem Rows.split {K : PySem.W.Frag} {H : Hp} {k : Str} {us : List V} {u : V} {rs : List Row} (h : Rows K H k (us ++ [u]) rs) : ∃ ws r t g x, rs = ws ++ [r] ∧ Rows K H k us ws ∧ u = .ref t ∧ SqT K H t [.ref g, x] ∧ H g = some (.lst (r.1.map V.int)) ∧ Thing K H k x r.2 := by
  have hl := h.len
  rw [List.length_append, List.length_singleton] at hl
  obtain ⟨ws, r, e⟩ : ∃ ws r, rs = ws ++ [r] := by
    rcases List.eq_nil_or_concat rs with e | ⟨ws, r, e⟩
    · rw [e] at hl; simp at hl
    · exact ⟨ws, r, by rw [e, List.concat_eq_append]⟩
  subst e
  rw [List.length_append, List.length_singleton] at hl
  have hl' : us.length = ws.length := by omega
  obtain ⟨r', t, g, x, h1, h2, h3, h4, h5⟩ := h.at_ us.length u (by simp)
  rw [hl', List.getElem?_concat_length] at h1
  cases h1
  refine ⟨ws, r, t, g, x, rfl, ⟨hl', fun i v e => ?_⟩, h2, h3, h4, h5⟩
  have hi : i < us.length := (List.getElem?_eq_some_iff.mp e).1
  obtain ⟨r2, t2, g2, x2, a1, a2⟩ := h.at_ i v (by rw [List.getElem?_append_left hi]; exact e)
  rw [List.getElem?_append_left (by omega)] at a1
  exact ⟨r2, t2, g2, x2, a1, a2⟩
theorem Rows.more {K : PySem.W.Frag} {H : Hp} {k : Str} {us ms : List V} {ws cw : List Row} {wa : Addr} {o : HO} (hw : H wa = some (.lst us)) (h1 : Rows K H k us ws) (h2 : Rows K H k ms cw) (hne : ∀ r ∈ cw, r.1 ≠ []) : Rows K (upd H wa o) k (us ++ ms) (ws ++ cw) := by
  have a1 := Rows.updD (o := o) hw h1
  have b1 : Rows K (upd H wa o) k ms cw := ⟨h2.len, fun i v e => by
    obtain ⟨r, t, g, x, c1, c2, c3, c4, c5⟩ := h2.at_ i v e
    refine ⟨r, t, g, x, c1, c2, SqT.updL hw c3, ?_, Thing.updL hw c5⟩
    have : g ≠ wa := fun z => by
      rw [z, hw] at c4
      have e2 := HO.lst.inj (Option.some.inj c4)
      cases us with
      | nil => exact hne r (List.mem_of_getElem? c1) (List.map_eq_nil_iff.mp e2.symm)
      | cons u us' =>
        obtain ⟨_, t', _, _, _, e3, _⟩ := h1.at_ 0 u rfl
        subst e3
        cases hr : r.1 with
        | nil => rw [hr] at e2; cases e2
        | cons i r' => rw [hr] at e2; cases e2
    rw [upd_ne this]
    exact c4⟩
  refine ⟨by rw [List.length_append, List.length_append, h1.len, h2.len], fun i v e => ?_⟩
  by_cases hi : i < us.length
  · rw [List.getElem?_append_left hi] at e
    obtain ⟨r, t, g, x, c1, c2⟩ := a1.at_ i v e
    exact ⟨r, t, g, x, by rw [List.getElem?_append_left (by rw [← h1.len]; exact hi)]; exact c1, c2⟩
  · rw [List.getElem?_append_right (by omega)] at e
    obtain ⟨r, t, g, x, c1, c2⟩ := b1.at_ _ v e
    exact ⟨r, t, g, x, by rw [List.getElem?_append_right (by rw [← h1.len]; omega), ← h1.len]; exact c1, c2⟩
theorem ways_ne {cs : List Cl} {gs : List Int} {t : Th} : ∀ r ∈ waysOf cs gs t, r.1 ≠ [] := by
  intro r hr
  obtain ⟨i, _, rfl⟩ := List.mem_map.mp hr
  simp
--@split
theorem Reach.len {cs : List Cl} {k : Str} {gs : List Int} {t : Th} (h : Reach cs k gs t) : gs.length ≤ cs.length := by
  have := h.left
  omega
def spSearch (K : PySem.W.Frag) (Pt : Addr) : Sp := fun vs H Q _ => ∃ (k : Str) (l : Addr) (xs : List V) (cs : List Cl) (wf : List Int → Nat), vs = [.str k, .ref l] ∧ (k = "row" ∨ k = "number") ∧ SqL K H l xs ∧ Calls K H k xs cs ∧ xs.length ≤ 60 ∧ Weigh cs wf ∧ wf [] ≤ 90000 ∧ LamTab Pt lamP lamQ H ∧
  (∀ H', Mv H H' → LamTab Pt lamP lamQ H' → ¬ CanEnd cs [] (t0 k) → Q .non H') ∧
  ∀ (H' : Hp) (g : Addr) (gs : List Int) (t : Th), Mv H H' → LamTab Pt lamP lamQ H' → H' g = some (.lst (gs.map V.int)) → Reach cs k gs t → gs.length = cs.length → Q (.ref g) H'
structure SI (P : Program) (w : World) (K : PySem.W.Frag) (Pt : Addr) (H : Hp) (kd : Str) (cs : List Cl) (wf : List Int → Nat) (wa sd : Addr) (H2 : Hp) (us : List V) (ws : List Row) (ks : List NK) : Prop where
  mv : Mv H H2
  lam : LamTab Pt lamP lamQ H2
  wai : H2 wa = some (.lst us)
  row : Rows K H2 kd us ws
  dic : NDict P w K H2 sd ks
  rea : ∀ x ∈ ws, Reach cs kd x.1 x.2
  clo : Closed cs ks ws
  beg : Begun kd ks ws
  sum : ks.length + sumW wf ws ≤ wf []
theorem sumW_snoc (wf : List Int → Nat) (ws : List Row) (x : Row) : sumW wf (ws ++ [x]) = sumW wf ws + wf x.1 := by
  rw [sumW_append]
  simp [sumW]
theorem addK_len (ks : List NK) (k : NK) : (addK ks k).length ≤ ks.length + 1 := by
  unfold addK
  split
  · omega
  · rw [List.length_append]; exact Nat.le_refl _
theorem ok_search_order {Pt : Addr} (F : Fun K "search_order" "search_order" s_search_order f fd) (B : Bl mg) (T : Tp P w K mg st pt r b n) (g_can_come_out : FnX P w K mg base "can_come_out" 4 (spCome K Pt)) (g_start : FnX P w K mg base "start" 2 (spStart r)) (g_ways_on : FnX P w K mg base "ways_on" 3 (spWays K)) : FnOk P w K mg base CX0 5 f fd ["kind", "calls"] (spSearch K Pt) := by
  refine F.ok sc_search_order (fun vs H Q E h => ?_) (fun cdv A outer s H vs Q E hr h => ?_)
  · obtain ⟨k, l, xs, cs, wf, rfl, _⟩ := h; rfl
  · obtain ⟨kd, l, xs, cs, wf, rfl, hk, hS, hC, hlen, hW, hW0, hT, k0, k1⟩ := h
    have hsz : sizeLine = 16777216 := sizeLine_eq
    have hu := hu100 hr
    have hn : xs.length = cs.length := hC.len
    refine ⟨_, (pss_cons (ps_set (i := 2) sc_search_order.nd rfl (by first | exact Or.inl rfl | exact Or.inr rfl) (pe_lst (pa_cons (pe_tup (pa_cons (pe_lst pa_nil) (pa_cons (pe_fnX g_start passN hr rfl (pa_cons (pv 0) pa_nil)) pa_nil))) pa_nil)))
    (pss_cons (ps_set (i := 3) sc_search_order.nd rfl (by first | exact Or.inl rfl | exact Or.inr rfl) pe_ndnew (hs := by kernel_rfl))
    (pss_cons (ps_while PassesOwn.never (pt_truth (pv 2) (fun _ => rfl))
    (pss_cons (ps_set (i := 4) sc_search_order.nd rfl (by first | exact Or.inl rfl | exact Or.inr rfl) (pe_bm0 PySem.F.plainAttrs_list PySem.F.slot_list_pop PySem.F.type_list_pop mt_pop (pv 2)))
    (pss_cons (ps_set (i := 5) sc_search_order.nd rfl (by first | exact Or.inl rfl | exact Or.inr rfl) (pe_ix ix_tup (pv 4) pe_int (fun _ _ => rfl)))
    (pss_cons (ps_set (i := 6) sc_search_order.nd rfl (by first | exact Or.inl rfl | exact Or.inr rfl) (pe_ix ix_tup (pv 4) pe_int (fun _ _ => rfl)))
    (pss_cons (ps_if (pt_cmpR op_eq (pe_callB call_len_seq rfl B.len_ PySem.boot_len (pa_cons (pv 5) pa_nil)) (pe_callB call_len_seq rfl B.len_ PySem.boot_len (pa_cons (pv 1) pa_nil)) (nomark _))
    (pss_one (ps_ret (pv 5))) pss_nil)
    (pss_cons (ps_set (i := 7) sc_search_order.nd rfl (by first | exact Or.inl rfl | exact Or.inr rfl) (pe_tup (pa_cons (pe_callTy call_tuple_of rfl B.tuple_ PyProof.Rows.boot_tuple (pa_cons (pe_callB call_sortedI rfl B.sorted_ PyProof.Rows.boot_sorted (pa_cons (pv 5) pa_nil)) pa_nil)) (pa_cons (pv 6) pa_nil))))
    (pss_cons (ps_if (pt_cmpR (op_inN hu) (pv 7) (pv 3) rfl)
    (pss_one ps_continue) pss_nil)
    (pss_cons (ps_asg pe_bl (pg_sub (pv 3) (pv 7) (set_nd hu)))
    (pss_one (ps_if (PW.pt (pw_or (pt_cmpR op_ne (pv 0) pe_str (nomark _)) (pw_or1 (pt_val (pe_fnX g_can_come_out passN hr rfl (pa_cons (pv 6) (pa_cons (pv 1) (pa_cons (pv 5) pa_nil))))))))
    (pss_one (ps_expr (pe_bm PySem.F.plainAttrs_list PySem.F.slot_list_extend PySem.F.type_list_extend mt_extend (pv 2) (pa_cons (pe_fnX g_ways_on passN hr rfl (pa_cons (pv 0) (pa_cons (pv 1) (pa_cons (pv 5) (pa_cons (pv 6) pa_nil))))) pa_nil)))) pss_nil))))))))))
    (pss_one (ps_ret pe_non))))), ?_⟩
    -- waiting
    refine ⟨Nat.le_of_ble_eq_true rfl, fun e he => ?_⟩
    have s1 : Same H (upd H e (.lst [])) := Same.upd he
    have q1 : (upd H e (.lst [])) e = some (.lst []) := upd_same
    generalize upd H e (.lst []) = H1 at s1 q1 ⊢
    refine ⟨_, rfl, ?_⟩
    dsimp only [tNil, List.append_nil, List.cons_append, List.nil_append]
    refine start_of T hk fun x0 hx0 => ?_
    refine ⟨Nat.le_of_ble_eq_true rfl, fun p hp => ?_⟩
    have s2 : Same H1 (upd H1 p (.tup [.ref e, x0])) := Same.upd hp
    have q2 : (upd H1 p (.tup [.ref e, x0])) p = some (.tup [.ref e, x0]) := upd_same
    generalize upd H1 p (.tup [.ref e, x0]) = H2 at s2 q2 ⊢
    refine ⟨Nat.le_of_ble_eq_true rfl, fun wa hwa => ?_⟩
    have s3 : Same H2 (upd H2 wa (.lst [.ref p])) := Same.upd hwa
    have q3 : (upd H2 wa (.lst [.ref p])) wa = some (.lst [.ref p]) := upd_same
    generalize upd H2 wa (.lst [.ref p]) = H3 at s3 q3 ⊢
    have nwa : H wa = none := none_of (s1.trans s2) hwa
    -- seen
    refine fun sd H4 hsd s4 hN4 => ?_
    have nsd : H sd = none := none_of ((s1.trans s2).trans s3) hsd
    have s04 := ((s1.trans s2).trans s3).trans s4
    have row0 : Rows K H4 kd [.ref p] [([], t0 kd)] := ⟨rfl, fun i v hv => by
      cases i with
      | zero =>
        cases hv
        exact ⟨([], t0 kd), p, e, x0, rfl, rfl, SqT.of (s4 _ _ (s3 _ _ q2)), s4 _ _ (s3 _ _ (s2 _ _ q1)), hx0.keep ((s2.trans s3).trans s4)⟩
      | succ i => simp at hv⟩
    have si0 : SI P w K Pt H kd cs wf wa sd H4 [.ref p] [([], t0 kd)] [] := ⟨s04.mv, LamTab.keep s04 hT, s4 _ _ q3, row0, hN4, (fun x hx => by rw [List.mem_singleton.mp hx]; exact .nil), (fun gs t hg => by cases hg), .inr ⟨_, List.mem_singleton.mpr rfl, rfl, rfl⟩, by simp [sumW]⟩
    -- the loop
    refine ⟨fun m σ' H6 => ∃ (v4 v5 v6 v7 : Option V) (us : List V) (ws : List Row) (ks : List NK), m = sumW wf ws ∧ σ' = [some (.str kd), some (.ref l), some (.ref wa), some (.ref sd), v4, v5, v6, v7] ∧ SI P w K Pt H kd cs wf wa sd H6 us ws ks,
      ⟨_, none, none, none, none, _, _, _, rfl, rfl, si0⟩, ?_⟩
    rintro m σ' H6 ⟨v4, v5, v6, v7, us, ws, ks, rfl, rfl, si⟩
    refine ⟨_, rfl, _, .inl ⟨_, SqL.of si.wai, rfl⟩, ?_⟩
    rcases List.eq_nil_or_concat us with hus | ⟨us', u, hus⟩
    · subst hus
      have hws : ws = [] := List.length_eq_zero_iff.mp si.row.len.symm
      subst hws
      exact iteF (k0 _ si.mv si.lam (no_end si.clo si.beg))
    rw [List.concat_eq_append] at hus
    subst hus
    refine iteP (by cases us' <;> rfl) ⟨fun σ' H7 => ∃ (v4 v5 v6 v7 : Option V) (us2 : List V) (ws2 : List Row) (ks2 : List NK), sumW wf ws2 < sumW wf ws ∧ σ' = [some (.str kd), some (.ref l), some (.ref wa), some (.ref sd), v4, v5, v6, v7] ∧ SI P w K Pt H kd cs wf wa sd H7 us2 ws2 ks2,
      fun σ' H7 ⟨v4, v5, v6, v7, us2, ws2, ks2, hlt, h⟩ => ⟨_, hlt, v4, v5, v6, v7, us2, ws2, ks2, rfl, h⟩, ?_⟩
    -- way
    refine ⟨_, rfl, .inl ⟨rfl, _, SqL.of si.wai⟩, wa, us' ++ [u], u, rfl, rfl, si.wai, by simp, ?_⟩
    rw [List.dropLast_concat]
    have row7 : Rows K (upd H6 wa (.lst us')) kd (us' ++ [u]) ws := Rows.updD si.wai si.row
    have lam7 : LamTab Pt lamP lamQ (upd H6 wa (.lst us')) := si.lam.upd si.wai (fun _ z => by cases z) fun _ z => by cases z
    have mv7 : Mv H (upd H6 wa (.lst us')) := Mv.updN si.mv nwa
    have dic7 : NDict P w K (upd H6 wa (.lst us')) sd ks := si.dic.updL si.wai
    have wai7 : (upd H6 wa (.lst us')) wa = some (.lst us') := upd_same
    generalize upd H6 wa (.lst us') = H7 at row7 lam7 mv7 dic7 wai7 ⊢
    obtain ⟨w1, ⟨gs, th⟩, t, g, x, rfl, row7', rfl, ht, hg, hTh⟩ := row7.split
    have hg' : H7 g = some (.lst (gs.map V.int)) := hg
    have hTh' : Thing K H7 kd x th := hTh
    have hre : Reach cs kd gs th := si.rea (gs, th) (by simp)
    have hgl := hre.len
    have hsT : sizeT th ≤ 1000 := by have := hre.size; omega
    have hsw : sumW wf (w1 ++ [(gs, th)]) = sumW wf w1 + wf gs := sumW_snoc wf w1 (gs, th)
    have hsum : ks.length + (sumW wf w1 + wf gs) ≤ wf [] := by rw [← hsw]; exact si.sum
    have hw1 := hW gs
    refine ⟨_, rfl, t, _, 0, _, rfl, rfl, ht, at0, ?_⟩
    refine ⟨_, rfl, t, _, 1, _, rfl, rfl, ht, at1, ?_⟩
    refine ⟨_, rfl, g, _, rfl, .inl (SqL.of hg'), _, rfl, l, xs, rfl, .inl (mv7.seq hS), rfl, _, rfl, ?_⟩
    rw [dec_int, List.length_map]
    by_cases hfull : gs.length = cs.length
    · exact iteP (by simp; omega) ⟨_, rfl, k1 _ g gs th mv7 lam7 hg' hre hfull⟩
    refine iteN (by simp; omega) ?_
    have hleft : leftOf cs.length gs ≠ [] := fun z => hfull (hre.full.mp z)
    -- key
    refine ⟨_, rfl, g, gs, rfl, SqL.of hg', by omega, fun p3 ns hp3 hpm hsr => ?_⟩
    rw [srt_eq hpm hsr]
    have t3 := Same.upd (o := .lst ((srt gs).map V.int)) hp3
    have r3 := upd_same (H := H7) (a := p3) (o := .lst ((srt gs).map V.int))
    generalize upd H7 p3 (.lst ((srt gs).map V.int)) = H8 at t3 r3 ⊢
    refine ⟨p3, _, rfl, .inl ⟨SqL.of r3, fun p4 hp4 => ?_⟩⟩
    have t4 := Same.upd (o := .tup ((srt gs).map V.int)) hp4
    have r4 := upd_same (H := H8) (a := p4) (o := .tup ((srt gs).map V.int))
    generalize upd H8 p4 (.tup ((srt gs).map V.int)) = H9 at t4 r4 ⊢
    refine ⟨_, rfl, Nat.le_of_ble_eq_true rfl, fun p5 hp5 => ?_⟩
    have t5 := Same.upd (o := .tup [.ref p4, x]) hp5
    have r5 := upd_same (H := H9) (a := p5) (o := .tup [.ref p4, x])
    generalize upd H9 p5 (.tup [.ref p4, x]) = H10 at t5 r5 ⊢
    have t35 := (t3.trans t4).trans t5
    have hkey : KeyAt K H10 (rowK (srt gs, th)) p5 := ⟨_, SqT.of r5, .cons ⟨p4, rfl, SqT.of (t5 _ _ r4)⟩ (.cons (thing_el (hTh'.keep t35)) .nil)⟩
    have lamX := LamTab.keep t35 lam7
    have mvX := mv7.trans t35.mv
    have dicX := dic7.keep t35
    have waiX := t35 _ _ wai7
    have rowX := row7'.keep t35
    have hgX := t35 _ _ hg'
    have hThX := hTh'.keep t35
    refine ⟨_, rfl, _, rfl, p5, sd, _, ks, rfl, rfl, hkey, dicX, _, rfl, ?_⟩
    cases hin : hasK ks (rowK (srt gs, th)) with
    | true =>
      refine iteT ⟨_, _, _, _, us', w1, ks, by omega, rfl, mvX, lamX, waiX, rowX, dicX, (fun y hy => si.rea y (by simp [hy])), closed_skip si.clo hin, begun_skip si.beg hin, by omega⟩
    | false =>
      refine iteF ?_
      refine ⟨_, rfl, _, rfl, sd, p5, _, ks, rfl, rfl, hkey, dicX, by omega, fun φ hN => ?_⟩
      have hN' : NDict P w K (upd H10 sd (.ext φ)) sd (addK ks (rowK (srt gs, th))) := hN
      have mx : Mx H10 (upd H10 sd (.ext φ)) := let ⟨_, h1, _⟩ := dicX; Mx.updE h1
      have lamY : LamTab Pt lamP lamQ (upd H10 sd (.ext φ)) := lamX.updN dicX
      have mvY : Mv H (upd H10 sd (.ext φ)) := Mv.updN mvX nsd
      have waiY := mx.lst waiX
      have rowY := rowX.mx mx
      have hgY := mx.lst hgX
      have hThY := hThX.mx mx
      generalize upd H10 sd (.ext φ) = H11 at hN' mx lamY mvY waiY rowY hgY hThY ⊢
      have hal := addK_len ks (rowK (srt gs, th))
      have ext : ∀ H12, Mv H11 H12 → LamTab Pt lamP lamQ H12 → ∀ (Qn : St → Hp → Prop) (σ5 : St), (∀ H' us2 ws2 ks2, sumW wf ws2 < sumW wf (w1 ++ [(gs, th)]) → SI P w K Pt H kd cs wf wa sd H' us2 ws2 ks2 → Qn σ5 H') →
          ∀ (D : Addr) (ms : List V) (H13 : Hp), Same H12 H13 → H13 D = some (.lst ms) → Rows K H13 kd ms (waysOf cs gs th) → us'.length + ms.length ≤ sizeLine ∧ H13 wa = some (.lst us') ∧ Qn σ5 (upd H13 wa (.lst (us' ++ ms))) := by
        intro H12 m12 lam12 Qn σ5 hQ D ms H13 s13 hD hR
        have wai13 := s13 _ _ (m12.lst waiY)
        have row13 := (rowY.mx (Mx.of m12)).keep s13
        have hwl : (waysOf cs gs th).length ≤ sumW wf (waysOf cs gs th) := sumW_len hW _
        have hws := ways_sum hW gs th
        have hul : w1.length ≤ sumW wf w1 := sumW_len hW _
        have hu1 : us'.length = w1.length := row7'.len
        have hm1 : ms.length = (waysOf cs gs th).length := hR.len
        refine ⟨by omega, wai13, hQ _ (us' ++ ms) (w1 ++ waysOf cs gs th) (addK ks (rowK (srt gs, th))) (by rw [sumW_append, hsw]; omega) ⟨?_, ?_, upd_same, ?_, ?_, ?_, ?_, ?_, ?_⟩⟩
        · exact Mv.updN ((mvY.trans m12).trans s13.mv) nwa
        · exact (LamTab.keep s13 lam12).upd wai13 (fun _ z => by cases z) fun _ z => by cases z
        · exact Rows.more wai13 row13 hR ways_ne
        · exact ((hN'.mv m12).keep s13).updL wai13
        · intro y hy
          rcases List.mem_append.mp hy with hy | hy
          · exact si.rea y (by simp [hy])
          · exact reach_ways hre y hy
        · exact closed_into (w := (gs, th)) si.clo hleft fun _ i hi ha => mem_ways hi ha
        · exact begun_into (w := (gs, th)) si.beg
        · rw [sumW_append]
          omega
      rcases hk with hk' | hk'
      · subst hk'
        refine ⟨_, rfl, rfl, _, rfl, iteF ?_⟩
        cases hThY with
        | @row v ts hX =>
          obtain ⟨xa, rfl, hX⟩ := hX
          refine ⟨_, rfl, _, rfl, _, rfl, xa, l, g, xs, cs, gs, ts, rfl, hX, hsT, mvY.seq hS, hC.mv mvY, hlen, SqL.of hgY, lamY, fun bo H12 m12 lam12 hbo => ⟨_, rfl, ?_⟩⟩
          cases bo with
          | false =>
            refine iteF (⟨_, _, _, _, us', w1, addK ks (rowK (srt gs, .inl ts)), by omega, rfl, mvY.trans m12, lam12, m12.lst waiY, rowY.mx (Mx.of m12), hN'.mv m12, (fun y hy => si.rea y (by simp [hy])), ?_, ?_, by omega⟩)
            · have := closed_into (w := (gs, .inl ts)) (cw := []) si.clo hleft fun hc => absurd hc (hbo rfl)
              rw [List.append_nil] at this
              exact this
            · have := begun_into (w := (gs, .inl ts)) (cw := []) si.beg
              rw [List.append_nil] at this
              exact this
          | true =>
            refine iteT ?_
            refine ⟨_, rfl, .inl ⟨rfl, _, SqL.of (m12.lst waiY)⟩, _, rfl, _, rfl, _, rfl, _, rfl, "row", l, g, .ref xa, xs, cs, gs, .inl ts, rfl, .inl rfl, (mvY.trans m12).seq hS, hC.mv (mvY.trans m12), m12.lst hgY, by omega, hlen, .row ⟨xa, rfl, m12.tup hX⟩, hsT, fun D ms H13 s13 hD hR => ?_⟩
            exact ⟨wa, D, us', ms, rfl, rfl, s13 _ _ (m12.lst waiY), hD, (ext H12 m12 lam12 (fun _ _ => True) [] (fun _ _ _ _ _ _ => trivial) D ms H13 s13 hD hR).1, (ext H12 m12 lam12 _ _ (fun H' us2 ws2 ks2 hlt h => ⟨_, _, _, _, us2, ws2, ks2, hlt, rfl, h⟩) D ms H13 s13 hD hR).2.2⟩
      · subst hk'
        refine ⟨_, rfl, rfl, _, rfl, iteT (iteT ?_)⟩
        refine ⟨_, rfl, .inl ⟨rfl, _, SqL.of waiY⟩, _, rfl, _, rfl, _, rfl, _, rfl, "number", l, g, x, xs, cs, gs, th, rfl, .inr rfl, mvY.seq hS, hC.mv mvY, hgY, by omega, hlen, hThY, hsT, fun D ms H13 s13 hD hR => ?_⟩
        exact ⟨wa, D, us', ms, rfl, rfl, s13 _ _ waiY, hD, (ext H11 (Mv.refl _) lamY (fun _ _ => True) [] (fun _ _ _ _ _ _ => trivial) D ms H13 s13 hD hR).1, (ext H11 (Mv.refl _) lamY _ _ (fun H' us2 ws2 ks2 hlt h => ⟨_, _, _, _, us2, ws2, ks2, hlt, rfl, h⟩) D ms H13 s13 hD hR).2.2⟩
--@split
theorem run_of {cs : List Cl} : ∀ (os : List Int) (gs : List Int) (t : Th), os.Perm (leftOf cs.length gs) → (os.map (clAt cs)).Pairwise tOk → (∀ i ∈ os, (clAt cs i).b < (clAt cs i).e) → ansT t (os.map fun i => (clAt cs i).d) = os.map (fun i => (clAt cs i).a) → Run cs gs t os
  | [], gs, t, hp, _, _, _ => hp.symm.eq_nil
  | i :: os, gs, t, hp, ht, hb, ha => by
    have hi : i ∈ leftOf cs.length gs := hp.mem_iff.mp (by simp)
    rw [List.map_cons, List.pairwise_cons] at ht
    have ha' : (stp cs t i).2 :: ansT (stp cs t i).1 (os.map fun i => (clAt cs i).d) = (clAt cs i).a :: os.map (fun i => (clAt cs i).a) := ha
    have ha1 := List.cons.inj ha'
    refine ⟨List.mem_filter.mpr ⟨hi, List.all_eq_true.mpr fun j hj => decide_eq_true ?_⟩, ha1.1, run_of os _ _ ?_ ht.2 (fun j hj => hb j (by simp [hj])) ha1.2⟩
    · rcases List.mem_cons.mp (hp.mem_iff.mpr hj) with rfl | h
      · exact Int.le_of_lt (hb _ (by simp))
      · exact ht.1 _ (List.mem_map.mpr ⟨j, h, rfl⟩)
    · exact (hp.trans (left_perm hi)).cons_inv
theorem perm_map {α β : Type} (f : α → β) : ∀ (L : List β) (xs : List α), (xs.map f).Perm L → ∃ ys : List α, ys.Perm xs ∧ ys.map f = L
  | [], xs, h => ⟨[], by rw [List.map_eq_nil_iff.mp h.eq_nil], rfl⟩
  | y :: L, xs, h => by
    obtain ⟨x, hx, rfl⟩ := List.mem_map.mp (h.mem_iff.mpr (List.mem_cons_self (a := y) (l := L)))
    obtain ⟨l1, l2, rfl⟩ := List.append_of_mem hx
    have p : (l1 ++ x :: l2).Perm (x :: (l1 ++ l2)) := List.perm_middle
    obtain ⟨ys, h1, h2⟩ := perm_map f L (l1 ++ l2) ((p.map f).symm.trans h).cons_inv
    exact ⟨x :: ys, (List.Perm.cons x h1).trans p.symm, by rw [List.map_cons, h2]⟩
theorem iota_map (cs : List Cl) : (iotaZ 0 cs.length).map (clAt cs) = cs := by
  refine List.ext_getElem (by simp [iotaZ]) fun i h1 h2 => ?_
  simp only [iotaZ, List.map_map, List.getElem_map, List.getElem_range, Function.comp]
  unfold clAt
  rw [show (0 + (i : Int)).toNat = i by omega, List.getD_eq_getElem?_getD, List.getElem?_eq_getElem h2]
  rfl
theorem left_nil (n : Nat) : leftOf n [] = iotaZ 0 n := List.filter_eq_self.mpr fun x _ => rfl
theorem can_end_of {cs L : List Cl} {t : Th} (hp : cs.Perm L) (ht : L.Pairwise tOk) (hb : ∀ c ∈ L, c.b < c.e) (ha : ansT t (L.map (·.d)) = L.map (·.a)) : CanEnd cs [] t := by
  obtain ⟨ys, h1, h2⟩ := perm_map (clAt cs) L (iotaZ 0 cs.length) (by rw [iota_map]; exact hp)
  refine ⟨ys, run_of ys [] t (by rw [left_nil]; exact h1) (by rw [h2]; exact ht) (fun i hi => hb _ (by rw [← h2]; exact List.mem_map.mpr ⟨i, hi, rfl⟩)) ?_⟩
  have e1 : (ys.map fun i => (clAt cs i).d) = L.map (·.d) := by rw [← h2, List.map_map]; rfl
  have e2 : (ys.map fun i => (clAt cs i).a) = L.map (·.a) := by rw [← h2, List.map_map]; rfl
  rw [e1, e2]
  exact ha
def InTime (cs : List Cl) : Prop := ∀ (i : Nat) (c : Cl), cs[i]? = some c → c.b ≤ 10 * (i : Int) - 1 ∧ 10 * (i : Int) + 1 ≤ c.e
def Drawn (k : Str) (cs : List Cl) : Prop := InTime cs ∧ ansT (t0 k) (cs.map (·.d)) = cs.map (·.a)
theorem Drawn.nil (k : Str) : Drawn k [] := ⟨fun i c h => by simp at h, rfl⟩
theorem Drawn.snoc {k : Str} {cs : List Cl} {c : Cl} {i : Nat} (h : Drawn k cs) (hi : cs.length = i) (h1 : c.b ≤ 10 * (i : Int) - 1) (h2 : 10 * (i : Int) + 1 ≤ c.e) (h3 : c.a = (doT (stT (t0 k) (cs.map (·.d))) c.d.1 c.d.2).2) : Drawn k (cs ++ [c]) := by
  subst hi
  refine ⟨fun j x hj => ?_, ?_⟩
  · by_cases hl : j < cs.length
    · rw [List.getElem?_append_left hl] at hj
      exact h.1 j x hj
    · rw [List.getElem?_append_right (by omega)] at hj
      cases q : j - cs.length with
      | zero =>
        rw [q] at hj
        cases hj
        rw [show j = cs.length by omega]
        exact ⟨h1, h2⟩
      | succ m => rw [q] at hj; simp at hj
  · rw [List.map_append, List.map_append]
    show ansT _ (_ ++ [c.d]) = _ ++ [c.a]
    rw [ansT_snoc, h.2, h3]
theorem Drawn.time {k : Str} {cs : List Cl} (h : Drawn k cs) : cs.Pairwise tOk := by
  rw [List.pairwise_iff_getElem]
  intro i j hi hj hij
  have h1 := h.1 i _ (List.getElem?_eq_getElem hi)
  have h2 := h.1 j _ (List.getElem?_eq_getElem hj)
  show cs[i].b ≤ cs[j].e
  omega
theorem Drawn.be {k : Str} {cs : List Cl} (h : Drawn k cs) : ∀ c ∈ cs, c.b < c.e := by
  intro c hc
  obtain ⟨i, hi⟩ := List.getElem?_of_mem hc
  have := h.1 i c hi
  omega
def later (z : Int) (c : Cl) : Cl := ⟨c.b + z, c.e + z, c.d, c.a⟩
theorem can_end_later {k : Str} {cs ds : List Cl} (z : Int) (hp : cs.Perm ds) (h : Drawn k ds) : CanEnd (cs.map (later z)) [] (t0 k) := by
  refine can_end_of (hp.map (later z)) ?_ ?_ ?_
  · rw [List.pairwise_map]
    exact h.time.imp fun {a b} hab => by
      have : a.b ≤ b.e := hab
      show a.b + z ≤ b.e + z
      omega
  · intro c hc
    obtain ⟨d, hd, rfl⟩ := List.mem_map.mp hc
    have := h.be d hd
    show d.b + z < d.e + z
    omega
  · rw [List.map_map, List.map_map]
    exact h.2
theorem reach_is {cs : List Cl} {k : Str} {gs : List Int} {t : Th} (h : Reach cs k gs t) (hn : gs.length = cs.length) : eachB cs.length gs = true ∧ timeB cs gs = true ∧ ansB k cs gs = true := by
  refine ⟨List.isPerm_iff.mpr (h.order hn), ?_, decide_eq_true h.ans.2⟩
  unfold timeB
  rw [List.all_eq_true]
  intro i hi
  have hil := List.mem_range.mp hi
  simp only [Bool.not_eq_true', List.any_eq_false, decide_eq_true_eq]
  intro f hf
  rw [mem_take] at hf
  obtain ⟨q, hq, hqi, rfl⟩ := hf
  have hp := List.pairwise_iff_getElem.mp h.tok.1 q i (by rw [List.length_map]; exact hq) (by rw [List.length_map]; exact hil) hqi
  rw [List.getElem_map, List.getElem_map] at hp
  have hp' : (clAt cs gs[q]).b ≤ (clAt cs gs[i]).e := hp
  rw [getD_at hil]
  omega
def tot : Nat → Nat
  | 0 => 1
  | m + 1 => (m + 1) * tot m + 1
theorem sum_const {f : Int → Nat} {c : Nat} : ∀ {l : List Int}, (∀ i ∈ l, f i = c) → (l.map f).sum = l.length * c
  | [], _ => by simp
  | x :: l, h => by
    rw [List.map_cons, List.sum_cons, h x (by simp), sum_const (l := l) fun i hi => h i (by simp [hi]), List.length_cons, Nat.succ_mul]
    omega
theorem weigh_tot (cs : List Cl) : Weigh cs fun gs => tot (leftOf cs.length gs).length := by
  intro gs
  cases hm : (leftOf cs.length gs).length with
  | zero =>
    have hf : freeOf cs gs = [] := free_nil (List.length_eq_zero_iff.mp hm)
    show ((freeOf cs gs).map fun i => tot (leftOf cs.length (gs ++ [i])).length).sum + 1 ≤ tot (leftOf cs.length gs).length
    rw [hf, hm]
    exact Nat.le_refl _
  | succ m =>
    have hc : ∀ i ∈ freeOf cs gs, tot (leftOf cs.length (gs ++ [i])).length = tot m := fun i hi => by
      have := (left_perm (free_left hi)).length_eq
      rw [List.length_cons] at this
      congr 1
      omega
    have hl : (freeOf cs gs).length ≤ m + 1 := by rw [← hm]; exact List.length_filter_le _ _
    show ((freeOf cs gs).map fun i => tot (leftOf cs.length (gs ++ [i])).length).sum + 1 ≤ tot (leftOf cs.length gs).length
    rw [sum_const hc, hm]
    show _ ≤ (m + 1) * tot m + 1
    exact Nat.add_le_add_right (Nat.mul_le_mul_right _ hl) 1
theorem tot_small {n : Nat} (h : n ≤ 7) : tot n ≤ 90000 := by
  have : ∀ m, m < 8 → tot m ≤ 90000 := by decide
  exact this n (by omega)
def spOrd (K : PySem.W.Frag) (Pt : Addr) : Sp := fun vs H Q _ => ∃ (k : Str) (l : Addr) (xs : List V) (cs : List Cl), vs = [.str k, .ref l] ∧ (k = "row" ∨ k = "number") ∧ SqL K H l xs ∧ Calls K H k xs cs ∧ xs.length ≤ 7 ∧ LamTab Pt lamP lamQ H ∧ CanEnd cs [] (t0 k) ∧
  ∀ (H' : Hp) (p g : Addr) (gs : List Int) (t : Th), Mv H H' → LamTab Pt lamP lamQ H' → H' p = some (.tup [.str "order", .ref g]) → H' g = some (.lst (gs.map V.int)) → Reach cs k gs t → gs.length = cs.length → Q (.ref p) H'
theorem ok_order_of {Pt : Addr} (F : Fun K "order_of" "order_of" s_order_of f fd) (B : Bl mg) (T : Tp P w K mg st pt r b n) (g_check_calls : FnX P w K mg base "check_calls" 5 (spCC K)) (g_search_order : FnX P w K mg base "search_order" 5 (spSearch K Pt)) : FnOk P w K mg base CX0 6 f fd ["kind", "calls"] (spOrd K Pt) := by
  refine F.ok sc_order_of (fun vs H Q E h => ?_) (fun cdv A outer s H vs Q E hr h => ?_)
  · obtain ⟨k, l, xs, cs, rfl, _⟩ := h; rfl
  · obtain ⟨kd, l, xs, cs, rfl, hk, hS, hC, hlen, hT, hce, k⟩ := h
    have hn : xs.length = cs.length := hC.len
    refine ⟨_, (pss_cons (ps_expr (pe_fnX g_check_calls passN hr rfl (pa_cons (pv 0) (pa_cons (pv 1) pa_nil))))
    (pss_cons (ps_set (i := 2) sc_order_of.nd rfl (by first | exact Or.inl rfl | exact Or.inr rfl) (pe_fnX g_search_order passN hr rfl (pa_cons (pv 0) (pa_cons (pv 1) pa_nil))))
    (pss_cons (ps_if (pt_cmpR op_isN (pv 2) pe_non (nomark _))
    (pss_one ps_never) pss_nil)
    (pss_one (ps_ret (pe_tup (pa_cons pe_str (pa_cons (pv 2) pa_nil)))))))), ?_⟩
    refine ⟨_, rfl, _, rfl, kd, l, xs, cs, rfl, hk, hS, hC, fun H1 s1 => ?_⟩
    refine ⟨_, rfl, _, rfl, kd, l, xs, cs, _, rfl, hk, s1.seq hS, hC.keep s1, by omega, weigh_tot cs, ?_, LamTab.keep s1 hT, fun H2 m2 l2 hno => absurd hce hno, fun H2 g gs t m2 l2 hg hre hfl => ?_⟩
    · refine tot_small ?_
      rw [left_nil]
      simp [iotaZ]
      omega
    · refine ⟨_, rfl, rfl, _, rfl, iteF ?_⟩
      refine ⟨_, rfl, Nat.le_of_ble_eq_true rfl, fun p hp => ?_⟩
      have s3 : Same H2 (upd H2 p (.tup [.str "order", .ref g])) := Same.upd hp
      exact k _ p g gs t ((s1.mv.trans m2).trans s3.mv) (LamTab.keep s3 l2) upd_same (s3 _ _ hg) hre hfl
--@split
theorem sh_w : ∀ wd ∈ (["put", "take", "look", "set", "add"] : List Str), Sh wd := by unfold Sh; decide +kernel
def spDeedOf (K : PySem.W.Frag) : Sp := fun vs H Q _ => ∃ z k, vs = [.int z, .str k, .str "a"] ∧ (k = "row" ∨ k = "number") ∧
  ∀ H' a d, Same H H' → DeedT K H' a d.1 d.2 → Good k d → Sh d.1 → Q (.ref a) H'
theorem ok__law_deed_of (F : Fun K "_law_deed_of" "_law_deed_of" s__law_deed_of f fd) (B : Bl mg) : FnOk P w K mg base CX0 1 f fd ["_law_cell", "_law_kind", "_law_thing"] (spDeedOf K) := by
  refine F.ok sc__law_deed_of (fun vs H Q E h => ?_) (fun cdv A outer s H vs Q E hr h => ?_)
  · obtain ⟨z, k, rfl, _⟩ := h; rfl
  · obtain ⟨z, kd, rfl, hk, k⟩ := h
    refine ⟨_, (pss_cons (ps_set (i := 3) sc__law_deed_of.nd rfl (by first | exact Or.inl rfl | exact Or.inr rfl) (pe_op op_mod (pv 0) (pe_callTy call_intS rfl B.int_ PyProof.Rows.boot_int (pa_cons (pe_op op_add_str pe_str (pe_op op_mulS pe_str pe_int)) pa_nil))))
    (pss_cons (ps_set (i := 4) sc__law_deed_of.nd rfl (by first | exact Or.inl rfl | exact Or.inr rfl) (pe_lst (pa_cons (pe_op op_sub (pe_op op_mod (pe_op op_mod (pe_op op_mul (pv 0) pe_int) pe_int) pe_int) pe_int) (pa_cons (pe_op op_sub (pe_op op_mod (pe_op op_mod (pe_op op_mul (pv 0) pe_int) pe_int) pe_int) pe_int) (pa_cons (pv 3) pa_nil)))))
    (pss_cons (ps_set (i := 5) sc__law_deed_of.nd rfl (by first | exact Or.inl rfl | exact Or.inr rfl) (pe_ix ix_list (pv 4) (pe_op op_mod (pe_op op_mod (pe_op op_mul (pv 0) pe_int) pe_int) pe_int) (fun _ _ => rfl)))
    (pss_cons (ps_if (pt_cmpR op_eq (pv 1) pe_str (nomark _))
    (pss_one (ps_set (i := 6) sc__law_deed_of.nd rfl (by first | exact Or.inl rfl | exact Or.inr rfl) (pe_ix ix_list (pe_lst (pa_cons pe_str (pa_cons pe_str (pa_cons pe_str (pa_cons pe_str (pa_cons pe_str pa_nil)))))) (pe_op op_mod (pe_op op_mod (pe_op op_mul (pv 0) pe_int) pe_int) pe_int) (fun _ _ => rfl)))) (pss_one (ps_set (i := 6) sc__law_deed_of.nd rfl (by first | exact Or.inl rfl | exact Or.inr rfl) (pe_ix ix_list (pe_lst (pa_cons pe_str (pa_cons pe_str (pa_cons pe_str (pa_cons pe_str pa_nil))))) (pe_op op_mod (pe_op op_mod (pe_op op_mul (pv 0) pe_int) pe_int) pe_int) (fun _ _ => rfl)))))
    (pss_cons (ps_if (pt_cmpR op_in_seq (pv 6) (pe_lst (pa_cons pe_str (pa_cons pe_str pa_nil))) rfl)
    (pss_one (ps_ret (pe_tup (pa_cons (pv 6) (pa_cons (pv 2) pa_nil))))) pss_nil)
    (pss_one (ps_ret (pe_tup (pa_cons (pv 6) (pa_cons (pv 2) (pa_cons (pv 5) pa_nil))))))))))), ?_⟩
    refine ⟨_, rfl, _, _, rfl, rfl, by decide, by decide, by decide +kernel, by decide +kernel, _, _, rfl, rfl, by decide +kernel, _, (10 ^ 30 : Int), rfl, by decide +kernel, by decide +kernel, _, _, rfl, rfl, (by show (0 : Int) < _; decide), ?_⟩
    refine ⟨_, rfl, _, _, rfl, rfl, .inr ⟨by decide, by decide⟩, _, _, rfl, rfl, (by show (0 : Int) < _; omega), _, _, rfl, rfl, (by show (0 : Int) < _; omega), _, _, rfl, rfl, _, rfl, _, _, rfl, rfl, .inr ⟨by decide, by decide⟩, _, _, rfl, rfl, (by show (0 : Int) < _; omega), _, _, rfl, rfl, (by show (0 : Int) < _; omega), _, _, rfl, rfl, _, rfl, Nat.le_of_ble_eq_true rfl, fun p hp => ?_⟩
    have s1 : Same H (upd H p (.lst [.int (z * 48271 % 1009 % 4 - 1), .int (z * 48271 % 1009 % 4 - 1), .int (z % 10 ^ 30)])) := Same.upd hp
    have hp1 : (upd H p (.lst [.int (z * 48271 % 1009 % 4 - 1), .int (z * 48271 % 1009 % 4 - 1), .int (z % 10 ^ 30)])) p = some (.lst [.int (z * 48271 % 1009 % 4 - 1), .int (z * 48271 % 1009 % 4 - 1), .int (z % 10 ^ 30)]) := upd_same
    generalize upd H p (.lst [.int (z * 48271 % 1009 % 4 - 1), .int (z * 48271 % 1009 % 4 - 1), .int (z % 10 ^ 30)]) = H1 at s1 hp1 ⊢
    obtain ⟨v, hv⟩ : ∃ i : Int, atI [V.int (z * 48271 % 1009 % 4 - 1), .int (z * 48271 % 1009 % 4 - 1), .int (z % 10 ^ 30)] (z * 48271 % 1013 % 3) = some (.int i) := by
      have : z * 48271 % 1013 % 3 = 0 ∨ z * 48271 % 1013 % 3 = 1 ∨ z * 48271 % 1013 % 3 = 2 := by omega
      rcases this with e | e | e <;> rw [e]
      · exact ⟨_, at0⟩
      · exact ⟨_, at1⟩
      · exact ⟨_, at2⟩
    refine ⟨_, rfl, _, rfl, _, _, rfl, rfl, .inr ⟨by decide, by decide⟩, _, _, rfl, rfl, (by show (0 : Int) < _; omega), _, _, rfl, rfl, (by show (0 : Int) < _; omega), p, _, _, _, rfl, rfl, SqL.of hp1, hv, ?_⟩
    have done : ∀ (wd : Str) (H4 : Hp) (dv : Option Int), Same H H4 → Good kd (wd, dv) → Sh wd → ∀ p5, H4 p5 = none → Q (.ref p5) (upd H4 p5 (.tup (.str wd :: .str "a" :: (dv.map V.int).toList))) := fun wd H4 dv s4 hG hSh p5 hp5 =>
      k _ p5 (wd, dv) (s4.trans (Same.upd hp5)) (SqT.of upd_same) hG hSh
    rcases hk with rfl | rfl
    · refine ⟨_, rfl, rfl, _, rfl, iteT ?_⟩
      refine ⟨Nat.le_of_ble_eq_true rfl, fun p2 hp2 => ?_⟩
      have s2 : Same H1 (upd H1 p2 (.lst [.str "put", .str "put", .str "take", .str "take", .str "look"])) := Same.upd hp2
      have hp3 : (upd H1 p2 (.lst [.str "put", .str "put", .str "take", .str "take", .str "look"])) p2 = some (.lst [.str "put", .str "put", .str "take", .str "take", .str "look"]) := upd_same
      generalize upd H1 p2 (.lst [.str "put", .str "put", .str "take", .str "take", .str "look"]) = H2 at s2 hp3 ⊢
      have s02 := s1.trans s2
      have i5 : z * 48271 % 1019 % 5 = 0 ∨ z * 48271 % 1019 % 5 = 1 ∨ z * 48271 % 1019 % 5 = 2 ∨ z * 48271 % 1019 % 5 = 3 ∨ z * 48271 % 1019 % 5 = 4 := by omega
      refine ⟨_, rfl, _, _, rfl, rfl, .inr ⟨by decide, by decide⟩, _, _, rfl, rfl, (by show (0 : Int) < _; omega), _, _, rfl, rfl, (by show (0 : Int) < _; omega), ?_⟩
      rcases i5 with e | e | e | e | e
      · refine ⟨p2, _, _, .str "put", rfl, rfl, SqL.of hp3, (by show atI _ (z * 48271 % 1019 % 5) = _; rw [e]; exact at0), ?_⟩
        refine ⟨_, rfl, Nat.le_of_ble_eq_true rfl, fun p4 hp4 => ⟨p4, _, rfl, .inl (SqL.of upd_same), rfl, rfl, _, rfl, iteF ?_⟩⟩
        exact ⟨_, rfl, _, rfl, _, rfl, Nat.le_of_ble_eq_true rfl, done "put" _ (some v) (s02.trans (Same.upd hp4)) rfl (sh_w _ (by decide))⟩
      · refine ⟨p2, _, _, .str "put", rfl, rfl, SqL.of hp3, (by show atI _ (z * 48271 % 1019 % 5) = _; rw [e]; exact at1), ?_⟩
        refine ⟨_, rfl, Nat.le_of_ble_eq_true rfl, fun p4 hp4 => ⟨p4, _, rfl, .inl (SqL.of upd_same), rfl, rfl, _, rfl, iteF ?_⟩⟩
        exact ⟨_, rfl, _, rfl, _, rfl, Nat.le_of_ble_eq_true rfl, done "put" _ (some v) (s02.trans (Same.upd hp4)) rfl (sh_w _ (by decide))⟩
      · refine ⟨p2, _, _, .str "take", rfl, rfl, SqL.of hp3, (by show atI _ (z * 48271 % 1019 % 5) = _; rw [e]; exact at2), ?_⟩
        refine ⟨_, rfl, Nat.le_of_ble_eq_true rfl, fun p4 hp4 => ⟨p4, _, rfl, .inl (SqL.of upd_same), rfl, rfl, _, rfl, iteT ?_⟩⟩
        exact ⟨_, rfl, _, rfl, Nat.le_of_ble_eq_true rfl, done "take" _ none (s02.trans (Same.upd hp4)) rfl (sh_w _ (by decide))⟩
      · refine ⟨p2, _, _, .str "take", rfl, rfl, SqL.of hp3, (by show atI _ (z * 48271 % 1019 % 5) = _; rw [e]; exact at3), ?_⟩
        refine ⟨_, rfl, Nat.le_of_ble_eq_true rfl, fun p4 hp4 => ⟨p4, _, rfl, .inl (SqL.of upd_same), rfl, rfl, _, rfl, iteT ?_⟩⟩
        exact ⟨_, rfl, _, rfl, Nat.le_of_ble_eq_true rfl, done "take" _ none (s02.trans (Same.upd hp4)) rfl (sh_w _ (by decide))⟩
      · refine ⟨p2, _, _, .str "look", rfl, rfl, SqL.of hp3, (by show atI _ (z * 48271 % 1019 % 5) = _; rw [e]; exact atI_nat (j := 4) rfl), ?_⟩
        refine ⟨_, rfl, Nat.le_of_ble_eq_true rfl, fun p4 hp4 => ⟨p4, _, rfl, .inl (SqL.of upd_same), rfl, rfl, _, rfl, iteT ?_⟩⟩
        exact ⟨_, rfl, _, rfl, Nat.le_of_ble_eq_true rfl, done "look" _ none (s02.trans (Same.upd hp4)) rfl (sh_w _ (by decide))⟩
    · refine ⟨_, rfl, rfl, _, rfl, iteF ?_⟩
      refine ⟨Nat.le_of_ble_eq_true rfl, fun p2 hp2 => ?_⟩
      have s2 : Same H1 (upd H1 p2 (.lst [.str "set", .str "add", .str "add", .str "look"])) := Same.upd hp2
      have hp3 : (upd H1 p2 (.lst [.str "set", .str "add", .str "add", .str "look"])) p2 = some (.lst [.str "set", .str "add", .str "add", .str "look"]) := upd_same
      generalize upd H1 p2 (.lst [.str "set", .str "add", .str "add", .str "look"]) = H2 at s2 hp3 ⊢
      have s02 := s1.trans s2
      have i4 : z * 48271 % 1021 % 4 = 0 ∨ z * 48271 % 1021 % 4 = 1 ∨ z * 48271 % 1021 % 4 = 2 ∨ z * 48271 % 1021 % 4 = 3 := by omega
      refine ⟨_, rfl, _, _, rfl, rfl, .inr ⟨by decide, by decide⟩, _, _, rfl, rfl, (by show (0 : Int) < _; omega), _, _, rfl, rfl, (by show (0 : Int) < _; omega), ?_⟩
      rcases i4 with e | e | e | e
      · refine ⟨p2, _, _, .str "set", rfl, rfl, SqL.of hp3, (by show atI _ (z * 48271 % 1021 % 4) = _; rw [e]; exact at0), ?_⟩
        refine ⟨_, rfl, Nat.le_of_ble_eq_true rfl, fun p4 hp4 => ⟨p4, _, rfl, .inl (SqL.of upd_same), rfl, rfl, _, rfl, iteF ?_⟩⟩
        exact ⟨_, rfl, _, rfl, _, rfl, Nat.le_of_ble_eq_true rfl, done "set" _ (some v) (s02.trans (Same.upd hp4)) rfl (sh_w _ (by decide))⟩
      · refine ⟨p2, _, _, .str "add", rfl, rfl, SqL.of hp3, (by show atI _ (z * 48271 % 1021 % 4) = _; rw [e]; exact at1), ?_⟩
        refine ⟨_, rfl, Nat.le_of_ble_eq_true rfl, fun p4 hp4 => ⟨p4, _, rfl, .inl (SqL.of upd_same), rfl, rfl, _, rfl, iteF ?_⟩⟩
        exact ⟨_, rfl, _, rfl, _, rfl, Nat.le_of_ble_eq_true rfl, done "add" _ (some v) (s02.trans (Same.upd hp4)) rfl (sh_w _ (by decide))⟩
      · refine ⟨p2, _, _, .str "add", rfl, rfl, SqL.of hp3, (by show atI _ (z * 48271 % 1021 % 4) = _; rw [e]; exact at2), ?_⟩
        refine ⟨_, rfl, Nat.le_of_ble_eq_true rfl, fun p4 hp4 => ⟨p4, _, rfl, .inl (SqL.of upd_same), rfl, rfl, _, rfl, iteF ?_⟩⟩
        exact ⟨_, rfl, _, rfl, _, rfl, Nat.le_of_ble_eq_true rfl, done "add" _ (some v) (s02.trans (Same.upd hp4)) rfl (sh_w _ (by decide))⟩
      · refine ⟨p2, _, _, .str "look", rfl, rfl, SqL.of hp3, (by show atI _ (z * 48271 % 1021 % 4) = _; rw [e]; exact at3), ?_⟩
        refine ⟨_, rfl, Nat.le_of_ble_eq_true rfl, fun p4 hp4 => ⟨p4, _, rfl, .inl (SqL.of upd_same), rfl, rfl, _, rfl, iteT ?_⟩⟩
        exact ⟨_, rfl, _, rfl, Nat.le_of_ble_eq_true rfl, done "look" _ none (s02.trans (Same.upd hp4)) rfl (sh_w _ (by decide))⟩
--@split
def spKept (K : PySem.W.Frag) : Sp := fun vs H Q _ => ∃ (l : Addr) (ns : List Int) (k : Str) (wd : Int), vs = [.ref l, .str k, .str "a", .int wd] ∧ SqL K H l (ns.map V.int) ∧ ns.length ≤ 63 ∧ (k = "row" ∨ k = "number") ∧ 0 < wd ∧
  ∀ (H' : Hp) (g : Addr) (vs : List V) (cs ds : List Cl), Same H H' → H' g = some (.lst vs) → Calls K H' k vs cs → vs.length = ns.length → cs.Perm ds → Drawn k ds → Q (.ref g) H'
theorem ok__law_kept (F : Fun K "_law_kept" "_law_kept" s__law_kept f fd) (B : Bl mg) (g__law_deed_of : FnX P w K mg base "_law_deed_of" 1 (spDeedOf K)) (g__law_done : FnX P w K mg base "_law_done" 1 (spDone K)) :
    FnOk P w K mg base CX0 2 f fd ["_law_cells", "_law_kind", "_law_thing", "_law_wide"] (spKept K) := by
  refine F.ok sc__law_kept (fun vs H Q E h => ?_) (fun cdv A outer s H vs Q E hr h => ?_)
  · obtain ⟨l, ns, k, wd, rfl, _⟩ := h; rfl
  · obtain ⟨l, ns, kd, wd, rfl, hS, hlen, hk, hwd, k⟩ := h
    have hsz : sizeLine = 16777216 := sizeLine_eq
    refine ⟨_, (pss_cons (ps_set (i := 4) sc__law_kept.nd rfl (by first | exact Or.inl rfl | exact Or.inr rfl) (pe_lst pa_nil))
    (pss_cons (ps_set (i := 5) sc__law_kept.nd rfl (by first | exact Or.inl rfl | exact Or.inr rfl) (pe_ix ix_list (pe_lst (pa_cons pe_int (pa_cons (pe_lst pa_nil) pa_nil))) (pe_callTy call_int1 rfl B.int_ PyProof.Rows.boot_int (pa_cons (pe_cmpR op_eq (pv 1) pe_str (nomark _)) pa_nil)) (fun _ _ => rfl)))
    (pss_cons (ps_for PassesOwn.never rfl (pi_range1 rfl B.range_ (pa_cons (pe_callB call_len_seq rfl B.len_ PySem.boot_len (pa_cons (pv 0) pa_nil)) pa_nil)) (pg_name (i := 6) sc__law_kept.nd rfl (by first | exact Or.inl rfl | exact Or.inr rfl))
    (pss_cons (ps_set (i := 7) sc__law_kept.nd rfl (by first | exact Or.inl rfl | exact Or.inr rfl) (pe_op op_add (pe_ix ix_list (pv 0) (pv 6) (fun _ _ => rfl)) (pe_op op_mul pe_int (pv 6))))
    (pss_cons (ps_set (i := 8) sc__law_kept.nd rfl (by first | exact Or.inl rfl | exact Or.inr rfl) (pe_op op_sub (pe_op op_sub (pe_op op_mul pe_int (pv 6)) pe_int) (pe_op op_mod (pe_op op_mod (pe_op op_mul (pv 7) pe_int) pe_int) (pv 3))))
    (pss_cons (ps_set (i := 9) sc__law_kept.nd rfl (by first | exact Or.inl rfl | exact Or.inr rfl) (pe_op op_add (pe_op op_add (pe_op op_mul pe_int (pv 6)) pe_int) (pe_op op_mod (pe_op op_mod (pe_op op_mul (pv 7) pe_int) pe_int) (pv 3))))
    (pss_cons (ps_set (i := 10) sc__law_kept.nd rfl (by first | exact Or.inl rfl | exact Or.inr rfl) (pe_fnX g__law_deed_of passN hr rfl (pa_cons (pv 7) (pa_cons (pv 1) (pa_cons (pv 2) pa_nil)))))
    (pss_cons (ps_asg (pe_fnX g__law_done passN hr rfl (pa_cons (pv 1) (pa_cons (pv 5) (pa_cons (pv 10) pa_nil)))) (pg_tup rfl (pgs_cons (pg_name (i := 5) sc__law_kept.nd rfl (by first | exact Or.inl rfl | exact Or.inr rfl)) (pgs_cons (pg_name (i := 11) sc__law_kept.nd rfl (by first | exact Or.inl rfl | exact Or.inr rfl)) pgs_nil))))
    (pss_one (ps_expr (pe_bm PySem.F.plainAttrs_list PySem.F.slot_list_append PySem.F.type_list_append mt_append (pv 4) (pa_cons (pe_tup (pa_cons (pv 8) (pa_cons (pv 9) (pa_cons (pv 10) (pa_cons (pv 11) pa_nil))))) pa_nil))))))))))
    (pss_cons (ps_set (i := 12) sc__law_kept.nd rfl (by first | exact Or.inl rfl | exact Or.inr rfl) (pe_lst pa_nil))
    (pss_cons (ps_for PassesOwn.never rfl (pi_range1 rfl B.range_ (pa_cons (pe_callB call_len_seq rfl B.len_ PySem.boot_len (pa_cons (pv 4) pa_nil)) pa_nil)) (pg_name (i := 6) sc__law_kept.nd rfl (by first | exact Or.inl rfl | exact Or.inr rfl))
    (pss_cons (ps_set (i := 13) sc__law_kept.nd rfl (by first | exact Or.inl rfl | exact Or.inr rfl) (pe_op op_mod (pe_op op_mod (pe_op op_mul (pe_op op_add (pe_ix ix_list (pv 0) (pv 6) (fun _ _ => rfl)) (pe_op op_mul pe_int (pv 6))) pe_int) pe_int) (pe_op op_add (pe_callB call_len_seq rfl B.len_ PySem.boot_len (pa_cons (pv 12) pa_nil)) pe_int)))
    (pss_one (ps_expr (pe_bm PySem.F.plainAttrs_list PySem.F.slot_list_insert PySem.F.type_list_insert mt_insert (pv 12) (pa_cons (pv 13) (pa_cons (pe_ix ix_list (pv 4) (pv 6) (fun _ _ => rfl)) pa_nil)))))))
    (pss_one (ps_ret (pv 12)))))))), ?_⟩
    -- calls, state
    refine ⟨Nat.le_of_ble_eq_true rfl, fun c hc => ?_⟩
    refine ⟨Nat.le_of_ble_eq_true rfl, fun e he => ⟨Nat.le_of_ble_eq_true rfl, fun q hq => ?_⟩⟩
    have s1 : Same H (upd (upd (upd H c (.lst [])) e (.lst [])) q (.lst [.int 0, .ref e])) := ((Same.upd hc).trans (Same.upd he)).trans (Same.upd hq)
    have hc1 : (upd (upd (upd H c (.lst [])) e (.lst [])) q (.lst [.int 0, .ref e])) c = some (.lst []) := Same.upd hq _ _ (Same.upd he _ _ upd_same)
    have he1 : (upd (upd (upd H c (.lst [])) e (.lst [])) q (.lst [.int 0, .ref e])) e = some (.lst (([] : List Int).map V.int)) := Same.upd hq _ _ upd_same
    have hq1 : (upd (upd (upd H c (.lst [])) e (.lst [])) q (.lst [.int 0, .ref e])) q = some (.lst [.int 0, .ref e]) := upd_same
    have hec : e ≠ c := fun z => by rw [z, upd_same] at he; cases he
    generalize upd (upd (upd H c (.lst [])) e (.lst [])) q (.lst [.int 0, .ref e]) = H1 at s1 hc1 he1 hq1 ⊢
    obtain ⟨x0, hx0, hT0, hx0c⟩ : ∃ x0, atI [V.int 0, .ref e] (if decide (V.str kd = V.str "row") = true then 1 else 0) = some x0 ∧ LThing K H1 kd x0 (t0 kd) ∧ x0 ≠ .ref c := by
      rcases hk with rfl | rfl
      · exact ⟨_, at1, .row he1, fun z => hec (V.ref.inj z)⟩
      · exact ⟨_, at0, .num, fun z => nomatch z⟩
    refine ⟨_, rfl, rfl, .inr ⟨_, rfl, q, _, _, _, rfl, rfl, SqL.of hq1, hx0, ?_⟩⟩
    refine ⟨_, rfl, l, _, rfl, .inl (s1.seq hS), (ns.length : Int), by rw [List.length_map], by omega, by omega, for_range (lo := 0) (fun i σ H2 => ∃ x v6 v7 v8 v9 v10 v11 t vs cs, σ = [some (.ref l), some (.str kd), some (.str "a"), some (.int wd), some (.ref c), some x, v6, v7, v8, v9, v10, v11, none, none] ∧
      LThing K H2 kd x t ∧ sizeT t ≤ i ∧ x ≠ .ref c ∧ Same H H2 ∧ H2 c = some (.lst vs) ∧ Calls K H2 kd vs cs ∧ vs.length = i ∧ t = stT (t0 kd) (cs.map (·.d)) ∧ Drawn kd cs)
      ⟨x0, none, none, none, none, none, none, t0 kd, [], [], rfl, hT0, by rcases hk with rfl | rfl <;> exact Nat.le_refl _, hx0c, s1, hc1, Calls.nil, rfl, rfl, Drawn.nil kd⟩ ?_ ?_⟩
    · rintro i σ H2 hi ⟨x, v6, v7, v8, v9, v10, v11, t, vs, cs, rfl, hTh, hsT, hxc, s2, hc2, hC2, hl, ht0, hdr⟩
      obtain ⟨z1, hz1⟩ := script_at (ns := ns) (j := 0 + (i : Int)) (by omega) (by omega)
      refine ⟨_, rfl, _, rfl, l, _, _, _, rfl, rfl, s2.seq hS, hz1, _, rfl, _, _, rfl, rfl, .inl ⟨by decide, by decide⟩, _, _, rfl, rfl, ?_⟩
      refine ⟨_, rfl, _, _, rfl, rfl, .inl ⟨by decide, by decide⟩, _, _, rfl, rfl, _, rfl, _, _, rfl, rfl, .inr ⟨by decide, by decide⟩, _, _, rfl, rfl, (by show (0 : Int) < _; omega), _, rfl, _, _, rfl, rfl, hwd, _, _, rfl, rfl, ?_⟩
      refine ⟨_, rfl, _, _, rfl, rfl, .inl ⟨by decide, by decide⟩, _, _, rfl, rfl, _, rfl, _, _, rfl, rfl, .inr ⟨by decide, by decide⟩, _, _, rfl, rfl, (by show (0 : Int) < _; omega), _, rfl, _, _, rfl, rfl, hwd, _, _, rfl, rfl, ?_⟩
      refine ⟨_, rfl, _, rfl, _, rfl, _, kd, rfl, hk, fun H3 da d s3 hDe hG hSh => ?_⟩
      refine ⟨_, rfl, _, rfl, _, rfl, kd, x, t, da, d.1, d.2, rfl, hTh.keep s3, by omega, hDe, good_has hk hG, fun H4 p y s4 hp hy hyn => ?_⟩
      refine ⟨p, _, rfl, SqT.of hp, rfl, _, _, rfl, _, _, rfl, rfl, ?_⟩
      have s34 := s3.trans s4
      have hc4 := s34 _ _ hc2
      have hyc : y ≠ .ref c := fun z => by
        rcases hyn with hy | ⟨b, rfl, hb⟩ | ⟨j, rfl⟩
        · exact hxc (hy ▸ z)
        · rw [V.ref.inj z] at hb
          rw [s3 _ _ hc2] at hb
          cases hb
        · cases z
      refine ⟨_, rfl, .inl ⟨rfl, _, SqL.of hc4⟩, _, rfl, _, rfl, _, rfl, _, rfl, Nat.le_of_ble_eq_true rfl, fun t2 ht2 => ?_⟩
      have s5 := Same.upd (o := .tup [.int (10 * (0 + (i : Int)) - 1 - (z1 + 7 * (0 + (i : Int))) * 48271 % 1031 % wd), .int (10 * (0 + (i : Int)) + 1 + (z1 + 7 * (0 + (i : Int))) * 48271 % 1033 % wd), .ref da, aV (doT t d.1 d.2).2]) ht2
      have q5 := upd_same (H := H4) (a := t2) (o := .tup [.int (10 * (0 + (i : Int)) - 1 - (z1 + 7 * (0 + (i : Int))) * 48271 % 1031 % wd), .int (10 * (0 + (i : Int)) + 1 + (z1 + 7 * (0 + (i : Int))) * 48271 % 1033 % wd), .ref da, aV (doT t d.1 d.2).2])
      generalize upd H4 t2 (.tup [.int (10 * (0 + (i : Int)) - 1 - (z1 + 7 * (0 + (i : Int))) * 48271 % 1031 % wd), .int (10 * (0 + (i : Int)) + 1 + (z1 + 7 * (0 + (i : Int))) * 48271 % 1033 % wd), .ref da, aV (doT t d.1 d.2).2]) = H5 at s5 q5 ⊢
      have hc5 := s5 _ _ hc4
      refine ⟨c, vs, _, rfl, rfl, hc5, by omega, ?_⟩
      have hcl : CallT K H5 (.ref t2) ⟨10 * (0 + (i : Int)) - 1 - (z1 + 7 * (0 + (i : Int))) * 48271 % 1031 % wd, 10 * (0 + (i : Int)) + 1 + (z1 + 7 * (0 + (i : Int))) * 48271 % 1033 % wd, d, (doT t d.1 d.2).2⟩ := ⟨t2, da, rfl, SqT.of q5, Same.tup (s4.trans s5) hDe⟩
      have hok : Ok kd ⟨10 * (0 + (i : Int)) - 1 - (z1 + 7 * (0 + (i : Int))) * 48271 % 1031 % wd, 10 * (0 + (i : Int)) + 1 + (z1 + 7 * (0 + (i : Int))) * 48271 % 1033 % wd, d, (doT t d.1 d.2).2⟩ := by
        refine ⟨?_, hG, hSh⟩
        have m1 := Int.emod_nonneg ((z1 + 7 * (0 + (i : Int))) * 48271 % 1031) (Int.ne_of_gt hwd)
        have m2 := Int.emod_nonneg ((z1 + 7 * (0 + (i : Int))) * 48271 % 1033) (Int.ne_of_gt hwd)
        show 10 * (0 + (i : Int)) - 1 - (z1 + 7 * (0 + (i : Int))) * 48271 % 1031 % wd < 10 * (0 + (i : Int)) + 1 + (z1 + 7 * (0 + (i : Int))) * 48271 % 1033 % wd
        omega
      refine ⟨y, _, _, _, _, _, _, (doT t d.1 d.2).1, vs ++ [.ref t2], cs ++ [_], rfl, (hy.keep s5).updC hyc, ?_, hyc, fun b o h => ?_, upd_same, (Calls.updL hc5 (hC2.keep (s34.trans s5))).snoc (hcl.updL hc5) hok, by rw [List.length_append, hl]; rfl, ?_, hdr.snoc (by rw [← hC2.len, hl]) (by show 10 * (0 + (i : Int)) - 1 - (z1 + 7 * (0 + (i : Int))) * 48271 % 1031 % wd ≤ 10 * (i : Int) - 1; have := Int.emod_nonneg ((z1 + 7 * (0 + (i : Int))) * 48271 % 1031) (Int.ne_of_gt hwd); omega) (by show 10 * (i : Int) + 1 ≤ 10 * (0 + (i : Int)) + 1 + (z1 + 7 * (0 + (i : Int))) * 48271 % 1033 % wd; have := Int.emod_nonneg ((z1 + 7 * (0 + (i : Int))) * 48271 % 1033) (Int.ne_of_gt hwd); omega) (by rw [← ht0])⟩
      · have := size_do t d
        omega
      · rw [upd_ne (ne_of_none h hc)]
        exact s5 _ _ (s34 _ _ (s2 _ _ h))
      · rw [List.map_append]
        show _ = stT (t0 kd) (_ ++ [d])
        rw [stT_snoc, ← ht0]
    rintro σ H2 ⟨x, v6, v7, v8, v9, v10, v11, t, vs, cs, rfl, _, _, _, s2, hc2, hC2, hl, _, hdr⟩
    have hl' : vs.length = ns.length := by omega
    -- made
    refine ⟨Nat.le_of_ble_eq_true rfl, fun m hm => ?_⟩
    have hmH : H m = none := none_of s2 hm
    have s3 : Same H2 (upd H2 m (.lst [])) := Same.upd hm
    have hm3 : (upd H2 m (.lst [])) m = some (.lst []) := upd_same
    generalize upd H2 m (.lst []) = H3 at s3 hm3 ⊢
    refine ⟨_, rfl, c, _, rfl, .inl (SqL.of (s3 _ _ hc2)), (vs.length : Int), rfl, by omega, by omega, for_range (lo := 0) (fun i σ H4 => ∃ v6 v13 ws ds, σ = [some (.ref l), some (.str kd), some (.str "a"), some (.int wd), some (.ref c), some x, v6, v7, v8, v9, v10, v11, some (.ref m), v13] ∧
      Same H2 H4 ∧ H4 m = some (.lst ws) ∧ Calls K H4 kd ws ds ∧ ws.length = i ∧ ds.Perm (cs.take i)) ⟨_, none, [], [], rfl, s3, hm3, Calls.nil, rfl, .nil⟩ ?_ ?_⟩
    · rintro i σ H4 hi ⟨v6, v13, ws, ds, rfl, s4, hm4, hC4, hwl, hpm⟩
      obtain ⟨z1, hz1⟩ := script_at (ns := ns) (j := 0 + (i : Int)) (by omega) (by omega)
      have s24 := s2.trans s4
      refine ⟨_, rfl, _, rfl, l, _, _, _, rfl, rfl, s24.seq hS, hz1, _, rfl, _, _, rfl, rfl, .inl ⟨by decide, by decide⟩, _, _, rfl, rfl, _, _, rfl, rfl, .inr ⟨by decide, by decide⟩, _, _, rfl, rfl, (by show (0 : Int) < _; omega), _, rfl, m, _, rfl, .inl (SqL.of hm4), _, _, rfl, rfl, _, _, rfl, rfl, (by show (0 : Int) < _; omega), ?_⟩
      have m1 := Int.emod_nonneg ((z1 + 7 * (0 + (i : Int))) * 48271 % 1039) (show ((ws.length : Int) + 1) ≠ 0 by omega)
      have m2 := Int.emod_lt_of_pos ((z1 + 7 * (0 + (i : Int))) * 48271 % 1039) (show 0 < ((ws.length : Int) + 1) by omega)
      obtain ⟨u, hu, hcu, hou⟩ := (hC2.keep s4).num (i := 0 + (i : Int)) (by omega) (by rw [← hC2.len]; omega)
      refine ⟨_, rfl, .inl ⟨rfl, _, SqL.of hm4⟩, _, rfl, _, rfl, _, rfl, c, _, _, _, rfl, rfl, SqL.of (s4 _ _ hc2), hu, m, ws, _, _, rfl, rfl, hm4, m1, by omega, by omega, ?_⟩
      refine ⟨_, _, _, _, rfl, fun b o h => ?_, upd_same, (Calls.updL hm4 hC4).put _ (by omega) (hcu.updL hm4) hou, ?_, ?_⟩
      · rw [upd_ne (ne_of_none h hm)]
        exact s4 _ _ h
      · rw [List.length_append, List.length_cons, List.length_take, List.length_drop]
        omega
      · have hic : i < cs.length := by rw [← hC2.len]; omega
        have ec : cs[i]? = some (clAt cs (0 + (i : Int))) := by
          unfold clAt
          rw [List.getD_eq_getElem?_getD, show (0 + (i : Int)).toNat = i by omega, List.getElem?_eq_getElem hic]
          rfl
        rw [take_snoc ec]
        refine List.perm_middle.trans ?_
        rw [List.take_append_drop]
        exact (List.Perm.cons _ hpm).trans (List.perm_append_singleton _ _).symm
    · rintro σ H4 ⟨v6, v13, ws, ds, rfl, s4, hm4, hC4, hwl, hpm⟩
      rw [show ((vs.length : Int)).toNat = cs.length by rw [hC2.len]; omega, List.take_length] at hpm
      exact ⟨_, rfl, k H4 m ws ds cs (s2.trans s4) hm4 hC4 (by omega) hpm hdr⟩
--@split
def stepB (cs : List Cl) (os : List Int) (i : Nat) : Bool :=
  decide (0 ≤ os.getD i 0) && decide (os.getD i 0 < cs.length) && !(os.take i).contains (os.getD i 0) &&
    (iotaZ 0 cs.length).all fun j => (os.take i).contains j || decide (j = os.getD i 0) || !decide ((clAt cs j).e < (clAt cs (os.getD i 0)).b)
def lawT (cs : List Cl) (os : List Int) : Bool := (List.range os.length).all (stepB cs os) && (iotaZ 0 cs.length).all fun j => os.contains j
theorem time_eq (cs : List Cl) (os : List Int) : (eachB cs.length os && timeB cs os) = lawT cs os := by
  rw [Bool.eq_iff_iff, Bool.and_eq_true]
  unfold eachB timeB lawT stepB
  simp only [List.isPerm_iff, List.all_eq_true, List.mem_range, Bool.and_eq_true, Bool.or_eq_true, decide_eq_true_eq, Bool.not_eq_true', List.any_eq_false, decide_eq_false_iff_not, List.contains_iff_mem]
  constructor
  · rintro ⟨hp, ht⟩
    have hnd : os.Nodup := (hp.nodup_iff).mpr (nodup_iota _)
    have hm : ∀ x, x ∈ os ↔ 0 ≤ x ∧ x < cs.length := fun x => hp.mem_iff.trans mem_iota
    refine ⟨fun i hi => ?_, fun j hj => hp.mem_iff.mpr hj⟩
    rw [getD_at hi]
    have him := (hm os[i]).mp (List.getElem_mem hi)
    refine ⟨⟨⟨him.1, him.2⟩, ?_⟩, fun j hj => ?_⟩
    · rw [Bool.eq_false_iff]
      intro z
      obtain ⟨q, h, hq, e⟩ := mem_take.mp (List.contains_iff_mem.mp z)
      have := nodup_get hnd e
      omega
    · by_cases h1 : j ∈ os.take i
      · exact .inl (.inl h1)
      · by_cases h2 : j = os[i]
        · exact .inl (.inr h2)
        · refine .inr ?_
          obtain ⟨q, hq, e⟩ := List.getElem_of_mem (hp.mem_iff.mpr hj)
          have hqi : i < q := by
            rcases Nat.lt_trichotomy q i with z | z | z
            · exact absurd (mem_take.mpr ⟨q, hq, z, e⟩) h1
            · subst z; exact absurd e.symm h2
            · exact z
          have := ht q hq os[i] (mem_take.mpr ⟨i, hi, hqi, rfl⟩)
          rw [getD_at hq, e] at this
          exact this
  · rintro ⟨hs, ha⟩
    have hs' : ∀ i (hi : i < os.length), (0 ≤ os[i] ∧ os[i] < cs.length) ∧ os[i] ∉ os.take i ∧ ∀ j, j ∈ iotaZ 0 cs.length → (j ∈ os.take i ∨ j = os[i]) ∨ ¬ (clAt cs j).e < (clAt cs os[i]).b := fun i hi => by
      have := hs i hi
      rw [getD_at hi] at this
      obtain ⟨⟨h1, h2⟩, h3⟩ := this
      refine ⟨h1, fun z => ?_, h3⟩
      rw [List.contains_iff_mem.mpr z] at h2
      cases h2
    have hnd : os.Nodup := by
      rw [List.nodup_iff_pairwise_ne, List.pairwise_iff_getElem]
      intro i j hi hj hij e
      exact (hs' j hj).2.1 (mem_take.mpr ⟨i, hi, hij, e⟩)
    have hmem : ∀ x, x ∈ os ↔ x ∈ iotaZ 0 cs.length := fun x => by
      constructor
      · intro h
        obtain ⟨i, hi, rfl⟩ := List.getElem_of_mem h
        exact mem_iota.mpr (hs' i hi).1
      · exact ha x
    refine ⟨perm_of_mem hnd (nodup_iota _) hmem, fun i hi f hf => ?_⟩
    rw [getD_at hi]
    obtain ⟨q, hq, hqi, rfl⟩ := mem_take.mp hf
    rcases (hs' q hq).2.2 os[i] ((hmem _).mp (List.getElem_mem hi)) with (h | h) | h
    · obtain ⟨r, hr, hrq, e⟩ := mem_take.mp h
      have := nodup_get hnd e
      omega
    · have := nodup_get hnd h
      omega
    · exact h
def okJ (cs : List Cl) (os : List Int) (i : Nat) (j : Int) : Bool := (os.take i).contains j || decide (j = os.getD i 0) || !decide ((clAt cs j).e < (clAt cs (os.getD i 0)).b)
theorem step_no {cs : List Cl} {os : List Int} {i : Nat} (h : ¬ 0 ≤ os.getD i 0 ∨ ¬ os.getD i 0 < cs.length ∨ (os.take i).contains (os.getD i 0) = true ∨ ∃ j ∈ iotaZ 0 cs.length, okJ cs os i j = false) : stepB cs os i = false := by
  unfold stepB
  rcases h with h | h | h | ⟨j, hj, h⟩
  · rw [decide_eq_false h]; rfl
  · rw [decide_eq_false h, Bool.and_false]; rfl
  · rw [h]; simp
  · rw [Bool.and_eq_false_iff]
    exact .inr (List.all_eq_false.mpr ⟨j, hj, fun z => by unfold okJ at h; rw [h] at z; cases z⟩)
theorem step_yes {cs : List Cl} {os : List Int} {i : Nat} (h0 : 0 ≤ os.getD i 0) (h1 : os.getD i 0 < cs.length) (h2 : (os.take i).contains (os.getD i 0) = false) (h3 : ∀ j ∈ iotaZ 0 cs.length, okJ cs os i j = true) : stepB cs os i = true := by
  unfold stepB
  rw [decide_eq_true h0, decide_eq_true h1, h2]
  exact List.all_eq_true.mpr h3
theorem law_no {cs : List Cl} {os : List Int} {i : Nat} (hi : i < os.length) (h : stepB cs os i = false) : lawT cs os = false := by
  unfold lawT
  rw [Bool.and_eq_false_iff]
  exact .inl (List.all_eq_false.mpr ⟨i, List.mem_range.mpr hi, by rw [h]; decide⟩)
def goneL (n : Nat) (pre : List Int) : List Bool := (iotaZ 0 n).map fun j => pre.contains j
theorem goneL_len (n : Nat) (pre : List Int) : (goneL n pre).length = n := by simp [goneL, iotaZ]
theorem goneL_get {n : Nat} {pre : List Int} {k : Nat} (hk : k < n) : (goneL n pre)[k]? = some (pre.contains (k : Int)) := by
  unfold goneL iotaZ
  rw [List.getElem?_map, List.getElem?_map, List.getElem?_range hk]
  simp
theorem goneL_at {n : Nat} {pre : List Int} {z : Int} (h0 : 0 ≤ z) (h1 : z < n) : atI ((goneL n pre).map V.bl) z = some (.bl (pre.contains z)) := by
  obtain ⟨k, rfl⟩ : ∃ k : Nat, z = (k : Int) := ⟨z.toNat, by omega⟩
  refine atI_nat ?_
  rw [List.getElem?_map, goneL_get (by omega)]
  rfl
theorem goneL_set {n : Nat} {pre : List Int} {z : Int} (h0 : 0 ≤ z) (h1 : z < n) : ((goneL n pre).map V.bl).set z.toNat (.bl true) = (goneL n (pre ++ [z])).map V.bl := by
  rw [show V.bl true = V.bl (true) from rfl, ← List.map_set]
  congr 1
  apply List.ext_getElem?
  intro k
  rw [List.getElem?_set]
  by_cases hk : k < n
  · rw [goneL_get hk, goneL_get hk, goneL_len]
    by_cases e : z.toNat = k
    · rw [if_pos e, if_pos (by omega)]
      have : (pre ++ [z]).contains (k : Int) = true := by
        rw [List.contains_iff_mem]
        have : (k : Int) = z := by omega
        simp [this]
      rw [this]
    · rw [if_neg e]
      have : (pre ++ [z]).contains (k : Int) = pre.contains (k : Int) := by
        rw [Bool.eq_iff_iff, List.contains_iff_mem, List.contains_iff_mem, List.mem_append, List.mem_singleton]
        constructor
        · rintro (h | h)
          · exact h
          · exact absurd h (by omega)
        · exact .inl
      rw [this]
  · rw [List.getElem?_eq_none (by rw [goneL_len]; omega), if_neg (by omega), List.getElem?_eq_none (by rw [goneL_len]; omega)]
theorem flat_rep {α : Type} (n : Nat) (a : α) : (List.replicate n [a]).flatten = List.replicate n a := by
  induction n with
  | zero => rfl
  | succ k ih => rw [List.replicate_succ, List.flatten_cons, ih, List.replicate_succ]; rfl
theorem goneL_nil (n : Nat) : List.replicate n (V.bl false) = (goneL n []).map V.bl := by
  apply List.ext_getElem?
  intro k
  rw [List.getElem?_map]
  by_cases hk : k < n
  · rw [goneL_get hk, List.getElem?_replicate_of_lt hk]; rfl
  · rw [List.getElem?_eq_none (by simpa using hk), List.getElem?_eq_none (by rw [goneL_len]; omega)]; rfl
theorem goneL_all (n : Nat) (os : List Int) : decide (goneL n os = List.replicate n true) = (iotaZ 0 n).all fun j => os.contains j := by
  rw [Bool.eq_iff_iff, decide_eq_true_eq, List.all_eq_true]
  constructor
  · intro h j hj
    obtain ⟨h0, h1⟩ := mem_iota.mp hj
    have h2 := goneL_get (n := n) (pre := os) (k := j.toNat) (by omega)
    rw [h, List.getElem?_replicate_of_lt (by omega), show ((j.toNat : Nat) : Int) = j by omega] at h2
    exact (Option.some.inj h2).symm
  · intro h
    apply List.ext_getElem?
    intro k
    by_cases hk : k < n
    · rw [goneL_get hk, List.getElem?_replicate_of_lt hk, h (k : Int) (mem_iota.mpr ⟨by omega, by omega⟩)]
    · rw [List.getElem?_eq_none (by rw [goneL_len]; omega), List.getElem?_eq_none (by simpa using hk)]
def spLK (K : PySem.W.Frag) : Sp := fun vs H Q _ => ∃ (l o : Addr) (k : Str) (xs : List V) (cs : List Cl) (os : List Int), vs = [.ref l, .ref o] ∧ SqL K H l xs ∧ Calls K H k xs cs ∧ SqL K H o (os.map V.int) ∧ xs.length ≤ 63 ∧ ∀ H', Same H H' → Q (.bl (lawT cs os)) H'
theorem ok__law_keeps_time (F : Fun K "_law_keeps_time" "_law_keeps_time" s__law_keeps_time f fd) (B : Bl mg) : FnOk P w K mg base CX0 1 f fd ["_law_calls", "_law_order"] (spLK K) := by
  refine F.ok sc__law_keeps_time (fun vs H Q E h => ?_) (fun cdv A outer s H vs Q E hr h => ?_)
  · obtain ⟨l, o, k, xs, cs, os, rfl, _⟩ := h; rfl
  · obtain ⟨l, o, kd, xs, cs, os, rfl, hS, hC, hO, hlen, k⟩ := h
    have hsz : sizeLine = 16777216 := sizeLine_eq
    have hcl := hC.len
    refine ⟨_, (pss_cons (ps_set (i := 2) sc__law_keeps_time.nd rfl (by first | exact Or.inl rfl | exact Or.inr rfl) (pe_op op_rep (pe_lst (pa_cons pe_bl pa_nil)) (pe_callB call_len_seq rfl B.len_ PySem.boot_len (pa_cons (pv 0) pa_nil))))
    (pss_cons (ps_for PassesOwn.never rfl (pi_list (pv 1)) (pg_name (i := 3) sc__law_keeps_time.nd rfl (by first | exact Or.inl rfl | exact Or.inr rfl))
    (pss_cons (ps_if (PW.pt (pw_or (pt_cmpR op_lt (pv 3) pe_int (nomark _)) (pw_or (pt_cmpR op_ge (pv 3) (pe_callB call_len_seq rfl B.len_ PySem.boot_len (pa_cons (pv 0) pa_nil)) (nomark _)) (pw_or1 (pt_val (pe_ix ix_list (pv 2) (pv 3) (fun _ _ => rfl)))))))
    (pss_one (ps_ret pe_bl)) pss_nil)
    (pss_cons (ps_for PassesOwn.never rfl (pi_range1 rfl B.range_ (pa_cons (pe_callB call_len_seq rfl B.len_ PySem.boot_len (pa_cons (pv 0) pa_nil)) pa_nil)) (pg_name (i := 4) sc__law_keeps_time.nd rfl (by first | exact Or.inl rfl | exact Or.inr rfl))
    (pss_one (ps_if (PW.pt (pw_and (pt_not (pt_val (pe_ix ix_list (pv 2) (pv 4) (fun _ _ => rfl)))) (pw_and (pt_cmpR op_ne (pv 4) (pv 3) (nomark _)) (pw_and1 (pt_cmpR op_lt (pe_ix ix_tup (pe_ix ix_list (pv 0) (pv 4) (fun _ _ => rfl)) pe_int (fun _ _ => rfl)) (pe_ix ix_tup (pe_ix ix_list (pv 0) (pv 3) (fun _ _ => rfl)) pe_int (fun _ _ => rfl)) (nomark _))))))
    (pss_one (ps_ret pe_bl)) pss_nil)))
    (pss_one (ps_asg pe_bl (pg_sub (pv 2) (pv 3) set_list))))))
    (pss_one (ps_ret (pe_cmpR (op_eqBL hr.units) (pv 2) (pe_op op_rep (pe_lst (pa_cons pe_bl pa_nil)) (pe_callB call_len_seq rfl B.len_ PySem.boot_len (pa_cons (pv 0) pa_nil))) (nomark _)))))), ?_⟩
    refine ⟨Nat.le_of_ble_eq_true rfl, fun p hp => ?_⟩
    have t1 := Same.upd (o := .lst [.bl false]) hp
    refine ⟨_, rfl, l, xs, rfl, .inl (t1.seq hS), p, _, _, rfl, rfl, upd_same, by omega, by omega, ?_, fun g hg => ?_⟩
    · show 1 * _ ≤ _
      omega
    have hgH : H g = none := none_of t1 hg
    have t2 := Same.upd (o := .lst (List.replicate ((xs.length : Int)).toNat [V.bl false]).flatten) hg
    have q2 := upd_same (H := upd H p (.lst [.bl false])) (a := g) (o := .lst (List.replicate ((xs.length : Int)).toNat [V.bl false]).flatten)
    rw [flat_rep, show ((xs.length : Int)).toNat = cs.length by omega, goneL_nil] at t2 q2 ⊢
    have s2 : Same H _ := t1.trans t2
    generalize upd (upd H p (.lst [.bl false])) g (.lst ((goneL cs.length []).map V.bl)) = H2 at q2 s2 ⊢
    clear t1 t2
    have hget : ∀ (i : Nat) (y : V), (os.map V.int)[i]? = some y → i < os.length ∧ y = V.int (os.getD i 0) ∧ os.take (i + 1) = os.take i ++ [os.getD i 0] := fun i y hi => by
      rw [List.getElem?_map] at hi
      obtain ⟨z, hz, rfl⟩ := Option.map_eq_some_iff.mp hi
      have e : os.getD i 0 = z := by rw [List.getD_eq_getElem?_getD, hz]; rfl
      exact ⟨(List.getElem?_eq_some_iff.mp hz).1, by rw [e], by rw [e]; exact take_snoc hz⟩
    refine ⟨_, rfl, o, rfl, ⟨_, s2.seq hO⟩, for_list (K := K) (a := o) (xs := os.map V.int) (fun i σ H3 => ∃ v3 v4, σ = [some (.ref l), some (.ref o), some (.ref g), v3, v4] ∧ Same H H3 ∧ H3 g = some (.lst ((goneL cs.length (os.take i)).map V.bl)) ∧ ∀ q < i, stepB cs os q = true)
      ⟨none, none, rfl, s2, q2, fun q hq => absurd hq (Nat.not_lt_zero _)⟩ (fun i σ H3 _ ⟨_, _, _, s3, _⟩ => s3.seq hO) ?_ ?_⟩
    · rintro i y σ H3 hi ⟨v3, v4, rfl, s3, hg3, hok⟩
      obtain ⟨hil, rfl, htk⟩ := hget i y hi
      have no : stepB cs os i = false → Q (.bl false) H3 := fun h => by
        have := k _ s3
        rw [law_no hil h] at this
        exact this
      refine ⟨_, rfl, _, _, rfl, rfl, _, rfl, ?_⟩
      by_cases h1 : os.getD i 0 < 0
      · exact iteP (decide_eq_true h1) (iteT (no (step_no (.inl (by omega)))))
      refine iteN (by rw [decide_eq_false h1]; decide) ⟨_, rfl, _, rfl, l, _, rfl, .inl (s3.seq hS), _, _, rfl, rfl, _, rfl, ?_⟩
      by_cases h2 : (((xs.length : Nat) : Int)) ≤ os.getD i 0
      · exact iteP (decide_eq_true h2) (iteT (no (step_no (.inr (.inl (by omega))))))
      have h0 : 0 ≤ os.getD i 0 := by omega
      have hlt : os.getD i 0 < (cs.length : Int) := by omega
      refine iteN (by rw [decide_eq_false h2]; decide) ⟨_, rfl, _, rfl, g, _, _, _, rfl, rfl, SqL.of hg3, goneL_at h0 hlt, _, rfl, ?_⟩
      cases h3 : (os.take i).contains (os.getD i 0) with
      | true => exact iteT (no (step_no (.inr (.inr (.inl h3)))))
      | false =>
      refine iteF ?_
      refine ⟨_, rfl, l, _, rfl, .inl (s3.seq hS), ((xs.length : Nat) : Int), rfl, by omega, by omega, for_range (lo := 0) (fun j σ H4 => ∃ v4, σ = [some (.ref l), some (.ref o), some (.ref g), some (.int (os.getD i 0)), v4] ∧ H4 = H3 ∧ ∀ q < j, okJ cs os i ((q : Nat) : Int) = true)
        ⟨_, rfl, rfl, fun q hq => absurd hq (Nat.not_lt_zero _)⟩ ?_ ?_⟩
      · rintro j σ H4 hj ⟨v4, rfl, rfl, hoj⟩
        have hjl : (0 + (j : Int)) < (cs.length : Int) := by omega
        have hj0 : (0 : Int) ≤ 0 + (j : Int) := by omega
        have hjm : (0 + (j : Int)) ∈ iotaZ 0 cs.length := mem_iota.mpr ⟨hj0, hjl⟩
        have stay : okJ cs os i (0 + (j : Int)) = true → ∃ v4, [some (V.ref l), some (.ref o), some (.ref g), some (.int (os.getD i 0)), some (.int (0 + (j : Int)))] = [some (.ref l), some (.ref o), some (.ref g), some (.int (os.getD i 0)), v4] ∧ H4 = H4 ∧ ∀ q < j + 1, okJ cs os i ((q : Nat) : Int) = true := fun h => by
          refine ⟨_, rfl, rfl, fun q hq => ?_⟩
          rcases Nat.lt_succ_iff_lt_or_eq.mp hq with hq | rfl
          · exact hoj q hq
          · rw [show ((q : Nat) : Int) = 0 + (q : Int) by omega]; exact h
        refine ⟨_, rfl, _, rfl, g, _, _, _, rfl, rfl, SqL.of hg3, goneL_at hj0 hjl, _, rfl, ?_⟩
        cases e1 : (os.take i).contains (0 + (j : Int)) with
        | true => exact iteF (iteF (stay (by unfold okJ; rw [e1]; rfl)))
        | false =>
        refine iteT ⟨_, rfl, _, rfl, rfl, _, rfl, ?_⟩
        by_cases e2 : (0 + (j : Int)) = os.getD i 0
        · refine iteN (by rw [decide_eq_true (congrArg V.int e2)]; decide) (iteF (stay ?_))
          unfold okJ
          rw [decide_eq_true e2]
          simp
        refine iteP (by rw [decide_eq_false (fun z => e2 (V.int.inj z))]; rfl) ?_
        obtain ⟨u, hu, ⟨t, q, rfl, ht, _⟩, _⟩ := (hC.keep s3).num (i := 0 + (j : Int)) hj0 hjl
        obtain ⟨u', hu', ⟨t', q', rfl, ht', _⟩, _⟩ := (hC.keep s3).num h0 hlt
        refine ⟨_, rfl, _, rfl, l, _, _, _, rfl, rfl, s3.seq hS, hu, t, _, 1, _, rfl, rfl, ht, at1, _, rfl, _, rfl, l, _, _, _, rfl, rfl, s3.seq hS, hu', t', _, 0, _, rfl, rfl, ht', at0, _, _, rfl, rfl, _, rfl, ?_⟩
        by_cases e3 : (clAt cs (0 + (j : Int))).e < (clAt cs (os.getD i 0)).b
        · refine iteP (decide_eq_true e3) (no (step_no (.inr (.inr (.inr ⟨_, hjm, ?_⟩)))))
          unfold okJ
          rw [e1, decide_eq_false e2, decide_eq_true e3]
          rfl
        · refine iteN (by rw [decide_eq_false e3]; decide) (stay ?_)
          unfold okJ
          rw [decide_eq_false e3]
          simp
      · rintro σ H4 ⟨v4, rfl, rfl, hoj⟩
        have i1 : ixN ((goneL cs.length (os.take i)).map V.bl).length (os.getD i 0) = some (os.getD i 0).toNat := by
          unfold ixN
          rw [if_pos h0, if_pos (by rw [List.length_map, goneL_len]; exact hlt)]
        refine ⟨_, rfl, _, rfl, g, _, _, _, rfl, rfl, hg3, i1, ?_⟩
        refine ⟨_, _, rfl, fun b ob h => ?_, ?_, fun q hq => ?_⟩
        · rw [upd_ne (ne_of_none h hgH)]
          exact s3 _ _ h
        · rw [upd_same, htk, goneL_set h0 hlt]
        · rcases Nat.lt_succ_iff_lt_or_eq.mp hq with hq | rfl
          · exact hok q hq
          · refine step_yes h0 hlt h3 fun j hj => ?_
            obtain ⟨a1, a2⟩ := mem_iota.mp hj
            have := hoj j.toNat (by omega)
            rw [show ((j.toNat : Nat) : Int) = j by omega] at this
            exact this
    · rintro σ H3 ⟨v3, v4, rfl, s3, hg3, hok⟩
      rw [List.length_map] at hok hg3
      rw [List.take_length] at hg3
      refine ⟨_, rfl, Nat.le_of_ble_eq_true rfl, fun p hp => ?_⟩
      have t1 := Same.upd (o := .lst [.bl true]) hp
      refine ⟨_, rfl, l, xs, rfl, .inl ((s3.trans t1).seq hS), p, _, _, rfl, rfl, upd_same, by omega, by omega, ?_, fun q hq => ?_⟩
      · show 1 * _ ≤ _
        omega
      have t2 := Same.upd (o := .lst (List.replicate ((xs.length : Int)).toNat [V.bl true]).flatten) hq
      refine ⟨g, q, goneL cs.length os, List.replicate cs.length true, rfl, rfl, SqL.of (t2 _ _ (t1 _ _ hg3)), SqL.of ?_, ?_⟩
      · rw [upd_same, flat_rep, show ((xs.length : Int)).toNat = cs.length by omega, List.map_replicate]
      · rw [goneL_all]
        have := k _ ((s3.trans t1).trans t2)
        unfold lawT at this
        rw [List.all_eq_true.mpr fun i hi => hok i (List.mem_range.mp hi)] at this
        exact this
--@split
def spHolds (K : PySem.W.Frag) : Sp := fun vs H Q _ => ∃ (k : Str) (l o : Addr) (xs : List V) (cs : List Cl) (os : List Int), vs = [.str k, .ref l, .ref o] ∧ (k = "row" ∨ k = "number") ∧ SqL K H l xs ∧ Calls K H k xs cs ∧ SqL K H o (os.map V.int) ∧ xs.length ≤ 63 ∧ os.length < 64 ∧
  ∀ H', Same H H' → Q (.bl (lawT cs os && ansB k cs os)) H'
theorem ok__law_holds (F : Fun K "_law_holds" "_law_holds" s__law_holds f fd) (B : Bl mg) (g__law_done : FnX P w K mg base "_law_done" 1 (spDone K)) (g__law_keeps_time : FnX P w K mg base "_law_keeps_time" 1 (spLK K)) :
    FnOk P w K mg base CX0 2 f fd ["_law_kind", "_law_calls", "_law_order"] (spHolds K) := by
  refine F.ok sc__law_holds (fun vs H Q E h => ?_) (fun cdv A outer s H vs Q E hr h => ?_)
  · obtain ⟨k, l, o, xs, cs, os, rfl, _⟩ := h; rfl
  · obtain ⟨kd, l, o, xs, cs, os, rfl, hk, hS, hC, hO, hlen, h64, k⟩ := h
    refine ⟨_, (pss_cons (ps_if (pt_not (pt_val (pe_fnX g__law_keeps_time passN hr rfl (pa_cons (pv 1) (pa_cons (pv 2) pa_nil)))))
    (pss_one (ps_ret pe_bl)) pss_nil)
    (pss_cons (ps_set (i := 3) sc__law_holds.nd rfl (by first | exact Or.inl rfl | exact Or.inr rfl) (pe_ix ix_list (pe_lst (pa_cons pe_int (pa_cons (pe_lst pa_nil) pa_nil))) (pe_callTy call_int1 rfl B.int_ PyProof.Rows.boot_int (pa_cons (pe_cmpR op_eq (pv 0) pe_str (nomark _)) pa_nil)) (fun _ _ => rfl)))
    (pss_cons (ps_for PassesOwn.never rfl (pi_list (pv 2)) (pg_name (i := 4) sc__law_holds.nd rfl (by first | exact Or.inl rfl | exact Or.inr rfl))
    (pss_cons (ps_asg (pe_fnX g__law_done passN hr rfl (pa_cons (pv 0) (pa_cons (pv 3) (pa_cons (pe_ix ix_tup (pe_ix ix_list (pv 1) (pv 4) (fun _ _ => rfl)) pe_int (fun _ _ => rfl)) pa_nil)))) (pg_tup rfl (pgs_cons (pg_name (i := 3) sc__law_holds.nd rfl (by first | exact Or.inl rfl | exact Or.inr rfl)) (pgs_cons (pg_name (i := 5) sc__law_holds.nd rfl (by first | exact Or.inl rfl | exact Or.inr rfl)) pgs_nil))))
    (pss_one (ps_if (PW.pt (pw_or (pt_cmpR op_ne (pe_cmpR op_isN (pv 5) pe_non (nomark _)) (pe_cmpR op_isN (pe_ix ix_tup (pe_ix ix_list (pv 1) (pv 4) (fun _ _ => rfl)) pe_int (fun _ _ => rfl)) pe_non (nomark _)) (nomark _)) (pw_or1 (pt_cmpR op_ne (pv 5) (pe_ix ix_tup (pe_ix ix_list (pv 1) (pv 4) (fun _ _ => rfl)) pe_int (fun _ _ => rfl)) (nomark _)))))
    (pss_one (ps_ret pe_bl)) pss_nil))))
    (pss_one (ps_ret pe_bl))))), ?_⟩
    refine ⟨_, rfl, _, rfl, l, o, kd, xs, cs, os, rfl, hS, hC, hO, hlen, fun H1 s1 => ⟨_, rfl, ?_⟩⟩
    cases eT : lawT cs os with
    | false =>
      have := k _ s1
      rw [eT] at this
      exact iteT this
    | true =>
    refine iteF ?_
    have hin : ∀ i : Int, i ∈ os → 0 ≤ i ∧ i < cs.length := by
      have e := time_eq cs os
      rw [eT, Bool.and_eq_true] at e
      exact each_in e.1
    refine ⟨Nat.le_of_ble_eq_true rfl, fun e he => ⟨Nat.le_of_ble_eq_true rfl, fun q hq => ?_⟩⟩
    have s2 : Same H1 (upd (upd H1 e (.lst [])) q (.lst [.int 0, .ref e])) := (Same.upd he).trans (Same.upd hq)
    have he2 : (upd (upd H1 e (.lst [])) q (.lst [.int 0, .ref e])) e = some (.lst (([] : List Int).map V.int)) := Same.upd hq _ _ upd_same
    have hq2 : (upd (upd H1 e (.lst [])) q (.lst [.int 0, .ref e])) q = some (.lst [.int 0, .ref e]) := upd_same
    generalize upd (upd H1 e (.lst [])) q (.lst [.int 0, .ref e]) = H2 at s2 he2 hq2 ⊢
    obtain ⟨x0, hx0, hT0⟩ : ∃ x0, atI [V.int 0, .ref e] (if decide (V.str kd = V.str "row") = true then 1 else 0) = some x0 ∧ LThing K H2 kd x0 (t0 kd) := by
      rcases hk with rfl | rfl
      · exact ⟨_, at1, .row he2⟩
      · exact ⟨_, at0, .num⟩
    refine ⟨_, rfl, rfl, .inr ⟨_, rfl, q, _, _, _, rfl, rfl, SqL.of hq2, hx0, ?_⟩⟩
    have s12 := s1.trans s2
    have hget : ∀ (i : Nat) (y : V), (os.map V.int)[i]? = some y → ∃ z, os[i]? = some z ∧ y = V.int z := fun i y hi => by
      rw [List.getElem?_map] at hi
      obtain ⟨z, hz, rfl⟩ := Option.map_eq_some_iff.mp hi
      exact ⟨z, hz, rfl⟩
    refine ⟨_, rfl, o, rfl, ⟨_, s12.seq hO⟩, for_list (K := K) (a := o) (xs := os.map V.int) (fun i σ H3 => ∃ x v4 v5, σ = [some (.str kd), some (.ref l), some (.ref o), some x, v4, v5] ∧ LThing K H3 kd x (stT (t0 kd) ((os.map fun i => (clAt cs i).d).take i)) ∧ Same H H3 ∧
      ∀ (q : Nat) z, q < i → os[q]? = some z → (ansT (t0 kd) (os.map fun i => (clAt cs i).d))[q]? = some (clAt cs z).a) ⟨x0, none, none, rfl, hT0, s12, fun q z hq => absurd hq (Nat.not_lt_zero _)⟩ (fun i σ H3 _ ⟨_, _, _, _, _, s3, _⟩ => s3.seq hO) ?_ ?_⟩
    · rintro i y σ H3 hi ⟨x, v4, v5, rfl, hTh, s3, hok⟩
      obtain ⟨z, hz, rfl⟩ := hget i y hi
      have hzz := hin z (List.mem_of_getElem? hz)
      have hd : (os.map fun i => (clAt cs i).d)[i]? = some (clAt cs z).d := by rw [List.getElem?_map, hz]; rfl
      obtain ⟨u, hu, ⟨t, qd, rfl, ht, hqd⟩, hokc⟩ := (hC.keep s3).num hzz.1 hzz.2
      have hil : i < os.length := (List.getElem?_eq_some_iff.mp hz).1
      have hsz2 : sizeT (stT (t0 kd) ((os.map fun i => (clAt cs i).d).take i)) ≤ 1000 := by
        have h1 := size_st ((os.map fun i => (clAt cs i).d).take i) (t0 kd)
        have h2 : sizeT (t0 kd) = 0 := by rcases hk with rfl | rfl <;> rfl
        have h3 : ((os.map fun i => (clAt cs i).d).take i).length ≤ i := by rw [List.length_take]; exact Nat.min_le_left _ _
        omega
      refine ⟨_, rfl, _, rfl, _, rfl, _, rfl, l, _, _, _, rfl, rfl, s3.seq hS, hu, t, _, 2, _, rfl, rfl, ht, at2, kd, x, _, qd, (clAt cs z).d.1, (clAt cs z).d.2, rfl, hTh, hsz2, hqd, good_has hk hokc.2.1, fun H4 p y s4 hp hy _ => ?_⟩
      refine ⟨p, _, rfl, SqT.of hp, rfl, _, _, rfl, _, _, rfl, rfl, ?_⟩
      have s34 := s3.trans s4
      have hu4 : SqL K H4 l xs := s34.seq hS
      have ht4 := Same.tup s4 ht
      have han := ansT_at (os.map fun i => (clAt cs i).d) (t0 kd) i _ hd
      have hy' : LThing K H4 kd y (stT (t0 kd) ((os.map fun i => (clAt cs i).d).take (i + 1))) := by
        rw [take_snoc hd, stT_snoc]
        exact hy
      have no : (doT (stT (t0 kd) ((os.map fun i => (clAt cs i).d).take i)) (clAt cs z).d.1 (clAt cs z).d.2).2 ≠ (clAt cs z).a → Q (.bl false) H4 := fun h => by
        have := k _ s34
        have ef : ansB kd cs os = false := by
          unfold ansB
          refine decide_eq_false fun e => h ?_
          rw [e, List.getElem?_map, hz] at han
          exact (Option.some.inj han).symm
        rw [eT, ef] at this
        exact this
      have yes : (doT (stT (t0 kd) ((os.map fun i => (clAt cs i).d).take i)) (clAt cs z).d.1 (clAt cs z).d.2).2 = (clAt cs z).a → ∀ (q : Nat) z', q < i + 1 → os[q]? = some z' → (ansT (t0 kd) (os.map fun i => (clAt cs i).d))[q]? = some (clAt cs z').a := fun h q z' hq hz' => by
        rcases Nat.lt_succ_iff_lt_or_eq.mp hq with hq | rfl
        · exact hok q z' hq hz'
        · rw [hz] at hz'
          rw [← Option.some.inj hz', han, h]
      refine ⟨_, rfl, rfl, _, rfl, _, rfl, l, _, _, _, rfl, rfl, hu4, hu, t, _, 3, _, rfl, rfl, ht4, at3, rfl, rfl, _, rfl, ?_⟩
      generalize (doT (stT (t0 kd) ((os.map fun i => (clAt cs i).d).take i)) (clAt cs z).d.1 (clAt cs z).d.2).2 = o1 at no yes ⊢
      generalize hao : (clAt cs z).a = o2 at no yes ⊢
      have hne : decide (aV o1 = aV o2) = decide (o1 = o2) := by
        rw [decide_eq_decide]
        constructor
        · intro h
          cases o1 <;> cases o2 <;> first | rfl | (cases h; rfl) | cases h
        · rintro rfl; rfl
      rw [hao] at ht4
      by_cases e0 : decide (aV o1 = V.non) = decide (aV o2 = V.non)
      · refine iteN (by rw [e0]; simp) ⟨_, rfl, _, rfl, _, rfl, l, _, _, _, rfl, rfl, hu4, hu, t, _, 3, _, rfl, rfl, ht4, at3, ?_⟩
        refine ⟨by cases o1 <;> cases o2 <;> rfl, _, rfl, ?_⟩
        by_cases e1 : o1 = o2
        · exact iteN (by rw [hne, decide_eq_true e1]; decide) ⟨y, _, _, rfl, hy', s34, yes e1⟩
        · exact iteP (by rw [hne, decide_eq_false e1]; rfl) (no e1)
      · refine iteP ?_ (iteT (no fun h => e0 (by rw [h])))
        cases ea : decide (aV o1 = V.non) <;> cases eb : decide (aV o2 = V.non) <;> first | rfl | (rw [ea, eb] at e0; exact absurd rfl e0)
    · rintro σ H3 ⟨x, v4, v5, rfl, _, s3, hok⟩
      rw [List.length_map] at hok
      have ea : ansB kd cs os = true := by
        unfold ansB
        refine decide_eq_true ?_
        apply List.ext_getElem?
        intro i
        by_cases hil : i < os.length
        · rw [hok i os[i] hil (List.getElem?_eq_getElem hil), List.getElem?_map, List.getElem?_eq_getElem hil]
          rfl
        · rw [List.getElem?_eq_none (by rw [ansT_len, List.length_map]; omega), List.getElem?_eq_none (by rw [List.length_map]; omega)]
      have := k _ s3
      rw [eT, ea] at this
      exact this
--@split
theorem ok__law_whole (F : Fun K "_law_whole" "_law_whole" s__law_whole f fd) (B : Bl mg) : FnOk P w K mg base CX0 1 f fd ["_law_found"] spWhole := by
  refine F.ok sc__law_whole (fun vs H Q E h => ?_) (fun cdv A outer s H vs Q E hr h => ?_)
  · obtain ⟨i, rfl, _⟩ := h; rfl
  · obtain ⟨i, rfl, k⟩ := h
    refine ⟨_, (pss_one (ps_ret (pe_and (pe_callB call_isi rfl B.isinstance_ PyProof.Rows.boot_isinstance (pa_cons (pv 0) (pa_cons (pe_bltn (v := .ty "int") rfl B.int_ PyProof.Rows.boot_int rfl) pa_nil))) (pe_one (pe_not (pe_callB call_isi rfl B.isinstance_ PyProof.Rows.boot_isinstance (pa_cons (pv 0) (pa_cons (pe_bltn (v := .ty "bool") rfl B.bool_ PyProof.Rows.boot_bool rfl) pa_nil)))))))), ?_⟩
    refine ⟨_, rfl, _, _, .type "int", true, rfl, TyOf.int i, kit_ii, true, rfl, ?_⟩
    exact ⟨_, rfl, _, _, .type "int", false, rfl, TyOf.int i, kit_ib, false, rfl, k⟩
def spNums (K : PySem.W.Frag) : Sp := fun vs H Q _ => ∃ (a : Addr) (ns : List Int), vs = [.ref a] ∧ SqL K H a (ns.map V.int) ∧ Q (.bl true) H
theorem ok__law_are_numbers (F : Fun K "_law_are_numbers" "_law_are_numbers" s__law_are_numbers f fd) (B : Bl mg) (g__law_whole : FnX P w K mg base "_law_whole" 1 spWhole) : FnOk P w K mg base CX0 2 f fd ["_law_found"] (spNums K) := by
  refine F.ok sc__law_are_numbers (fun vs H Q E h => ?_) (fun cdv A outer s H vs Q E hr h => ?_)
  · obtain ⟨a, ns, rfl, _⟩ := h; rfl
  · obtain ⟨a, ns, rfl, ha, k⟩ := h
    refine ⟨_, (pss_cons (ps_if (pt_not (pt_val (pe_callB call_isi2 rfl B.isinstance_ PyProof.Rows.boot_isinstance (pa_cons (pv 0) (pa_cons (pe_bltn (v := .ty "list") rfl B.list_ PyProof.Rows.boot_list rfl) pa_nil)))))
    (pss_one (ps_ret pe_bl)) pss_nil)
    (pss_cons (ps_for PassesOwn.never rfl (pi_list (pv 0)) (pg_name (i := 1) sc__law_are_numbers.nd rfl (by first | exact Or.inl rfl | exact Or.inr rfl))
    (pss_one (ps_if (pt_not (pt_val (pe_fnX g__law_whole passN hr rfl (pa_cons (pv 1) pa_nil))))
    (pss_one (ps_ret pe_bl)) pss_nil)))
    (pss_one (ps_ret pe_bl)))), ?_⟩
    refine ⟨_, rfl, _, _, .type "list", true, rfl, .inr (.inr ⟨rfl, a, _, rfl, ha⟩), .inl ⟨_, rfl, rfl⟩, _, rfl, iteF ?_⟩
    refine ⟨_, rfl, a, rfl, ⟨_, ha⟩, for_list (K := K) (a := a) (xs := ns.map V.int) (fun i σ H2 => (∃ v, σ = [some (.ref a), v]) ∧ H2 = H) ⟨⟨none, rfl⟩, rfl⟩ (fun i σ H2 _ q => by obtain ⟨_, rfl⟩ := q; exact ha) ?_ ?_⟩
    · rintro i y σ H2 hi ⟨⟨v, rfl⟩, rfl⟩
      obtain ⟨z, hz, rfl⟩ := List.mem_map.mp (List.mem_of_getElem? hi)
      exact ⟨_, rfl, _, rfl, _, rfl, iteF ⟨⟨_, rfl⟩, rfl⟩⟩
    · rintro σ H2 ⟨⟨v, rfl⟩, rfl⟩
      exact k
def spLaw (K : PySem.W.Frag) (Pt : Addr) : Sp := fun vs H Q _ => ∃ (a : Addr) (ns : List Int), vs = [.ref a] ∧ SqL K H a (ns.map V.int) ∧ ns.length ≤ 63 ∧ LamTab Pt lamP lamQ H ∧ ∀ H', Q (.bl true) H'
def cutI (os : List Int) (lo hi : Option Int) : List Int := (os.drop (HT.sIx os.length 0 lo)).take (HT.sIx os.length os.length hi - HT.sIx os.length 0 lo)
theorem cut_ints (os : List Int) (lo hi : Option Int) : cutV (os.map V.int) lo hi = (cutI os lo hi).map V.int := by
  unfold cutV cutI
  rw [List.length_map, List.map_take, List.map_drop]
theorem ok_law {Pt : Addr} (F : Fun K "law" "law" s_law f fd) (B : Bl mg) (g__law_are_numbers : FnX P w K mg base "_law_are_numbers" 2 (spNums K)) (g__law_at : FnX P w K mg base "_law_at" 1 (spAt K))
    (g__law_holds : FnX P w K mg base "_law_holds" 2 (spHolds K)) (g__law_kept : FnX P w K mg base "_law_kept" 2 (spKept K)) (g_is_order : FnX P w K mg base "is_order" 7 (spIs K)) (g_order_of : FnX P w K mg base "order_of" 6 (spOrd K Pt)) :
    FnOk P w K mg base CX0 8 f fd ["_law_script"] (spLaw K Pt) := by
  refine F.ok sc_law (fun vs H Q E h => ?_) (fun cdv A outer s H vs Q E hr h => ?_)
  · obtain ⟨a, ns, rfl, _⟩ := h; rfl
  · obtain ⟨a, ns, rfl, hS, hlen, hT, k⟩ := h
    have hsz : sizeLine = 16777216 := sizeLine_eq
    refine ⟨_, (pss_cons (ps_set (i := 1) sc_law.nd rfl (by first | exact Or.inl rfl | exact Or.inr rfl) (pe_ix ix_list (pe_lst (pa_cons pe_str (pa_cons pe_str pa_nil))) (pe_op op_mod (pe_op op_mod (pe_op op_mul (pe_fnX g__law_at passN hr rfl (pa_cons (pv 0) (pa_cons pe_int pa_nil))) pe_int) pe_int) pe_int) (fun _ _ => rfl)))
    (pss_cons (ps_set (i := 2) sc_law.nd rfl (by first | exact Or.inl rfl | exact Or.inr rfl) (pe_ix ix_list (pe_lst (pa_cons pe_int (pa_cons pe_int (pa_cons pe_int (pa_cons pe_int pa_nil))))) (pe_op op_mod (pe_op op_mod (pe_op op_mul (pe_fnX g__law_at passN hr rfl (pa_cons (pv 0) (pa_cons pe_int pa_nil))) pe_int) pe_int) pe_int) (fun _ _ => rfl)))
    (pss_cons (ps_set (i := 3) sc_law.nd rfl (by first | exact Or.inl rfl | exact Or.inr rfl) (pe_ix ix_list (pe_lst (pa_cons pe_int (pa_cons (pe_un un_neg pe_int) (pa_cons pe_int pa_nil)))) (pe_op op_mod (pe_op op_mod (pe_op op_mul (pe_fnX g__law_at passN hr rfl (pa_cons (pv 0) (pa_cons pe_int pa_nil))) pe_int) pe_int) pe_int) (fun _ _ => rfl)))
    (pss_cons (ps_set (i := 4) sc_law.nd rfl (by first | exact Or.inl rfl | exact Or.inr rfl) (pe_lst pa_nil))
    (pss_cons (ps_for PassesOwn.never rfl (pi_list (pe_fnX g__law_kept passN hr rfl (pa_cons (pe_slice sl_list (pv 0) (po_some pe_int) (po_some pe_int)) (pa_cons (pv 1) (pa_cons pe_str (pa_cons (pv 2) pa_nil)))))) (pg_tup rfl (pgs_cons (pg_name (i := 5) sc_law.nd rfl (by first | exact Or.inl rfl | exact Or.inr rfl)) (pgs_cons (pg_name (i := 6) sc_law.nd rfl (by first | exact Or.inl rfl | exact Or.inr rfl)) (pgs_cons (pg_name (i := 7) sc_law.nd rfl (by first | exact Or.inl rfl | exact Or.inr rfl)) (pgs_cons (pg_name (i := 8) sc_law.nd rfl (by first | exact Or.inl rfl | exact Or.inr rfl)) pgs_nil)))))
    (pss_one (ps_expr (pe_bm PySem.F.plainAttrs_list PySem.F.slot_list_append PySem.F.type_list_append mt_append (pv 4) (pa_cons (pe_tup (pa_cons (pe_op op_add (pv 5) (pv 3)) (pa_cons (pe_op op_add (pv 6) (pv 3)) (pa_cons (pv 7) (pa_cons (pv 8) pa_nil))))) pa_nil)))))
    (pss_cons (ps_set (i := 9) sc_law.nd rfl (by first | exact Or.inl rfl | exact Or.inr rfl) (pe_fnX g_order_of passN hr rfl (pa_cons (pv 1) (pa_cons (pe_callTy call_list_of rfl B.list_ PyProof.Rows.boot_list (pa_cons (pv 4) pa_nil)) pa_nil))))
    (pss_cons (ps_if (PW.pt (pw_or (pt_not (pt_val (pe_callB call_isi2 rfl B.isinstance_ PyProof.Rows.boot_isinstance (pa_cons (pv 9) (pa_cons (pe_bltn (v := .ty "tuple") rfl B.tuple_ PyProof.Rows.boot_tuple rfl) pa_nil))))) (pw_or (pt_cmpR op_ne (pe_callB call_len_seq rfl B.len_ PySem.boot_len (pa_cons (pv 9) pa_nil)) pe_int (nomark _)) (pw_or1 (pt_not (pt_val (pe_callB call_isi2 rfl B.isinstance_ PyProof.Rows.boot_isinstance (pa_cons (pe_ix ix_tup (pv 9) pe_int (fun _ _ => rfl)) (pa_cons (pe_bltn (v := .ty "str") rfl B.str_ PyProof.Rows.boot_str rfl) pa_nil)))))))))
    (pss_one (ps_ret pe_bl)) pss_nil)
    (pss_cons (ps_if (PW.pt (pw_or (pt_cmpR op_ne (pe_ix ix_tup (pv 9) pe_int (fun _ _ => rfl)) pe_str (nomark _)) (pw_or1 (pt_not (pt_val (pe_fnX g__law_are_numbers passN hr rfl (pa_cons (pe_ix ix_tup (pv 9) pe_int (fun _ _ => rfl)) pa_nil)))))))
    (pss_one (ps_ret pe_bl)) pss_nil)
    (pss_cons (ps_if (pt_not (pt_val (pe_fnX g__law_holds passN hr rfl (pa_cons (pv 1) (pa_cons (pv 4) (pa_cons (pe_ix ix_tup (pv 9) pe_int (fun _ _ => rfl)) pa_nil))))))
    (pss_one (ps_ret pe_bl)) pss_nil)
    (pss_one (ps_ret (pe_cmpR op_isB (pe_fnX g_is_order passN hr rfl (pa_cons (pv 1) (pa_cons (pe_callTy call_list_of rfl B.list_ PyProof.Rows.boot_list (pa_cons (pv 4) pa_nil)) (pa_cons (pe_callTy call_list_of rfl B.list_ PyProof.Rows.boot_list (pa_cons (pe_ix ix_tup (pv 9) pe_int (fun _ _ => rfl)) pa_nil)) pa_nil)))) pe_bl (nomark _))))))))))))), ?_⟩
    refine ⟨Nat.le_of_ble_eq_true rfl, fun p0 hp0 => ?_⟩
    have s0 : Same H (upd H p0 (.lst [.str "row", .str "number"])) := Same.upd hp0
    obtain ⟨kd, hk, hkd⟩ : ∃ kd : Str, (kd = "row" ∨ kd = "number") ∧ atI [V.str "row", .str "number"] (ns.getD (0 : Int).toNat 0 * 48271 % 1091 % 2) = some (.str kd) := by
      have : ns.getD (0 : Int).toNat 0 * 48271 % 1091 % 2 = 0 ∨ ns.getD (0 : Int).toNat 0 * 48271 % 1091 % 2 = 1 := by omega
      rcases this with e | e <;> rw [e]
      · exact ⟨_, .inl rfl, at0⟩
      · exact ⟨_, .inr rfl, at1⟩
    refine ⟨_, rfl, a, ns, 0, rfl, s0.seq hS, by decide, _, _, rfl, rfl, .inr ⟨by decide, by decide⟩, _, _, rfl, rfl, (by show (0 : Int) < _; omega), _, _, rfl, rfl, (by show (0 : Int) < _; omega), p0, _, _, _, rfl, rfl, SqL.of upd_same, hkd, ?_⟩
    generalize upd H p0 (.lst [.str "row", .str "number"]) = H0 at s0 ⊢
    refine ⟨Nat.le_of_ble_eq_true rfl, fun p1 hp1 => ?_⟩
    have s1 : Same H0 (upd H0 p1 (.lst [.int 3, .int 12, .int 25, .int 40])) := Same.upd hp1
    obtain ⟨wd, hwd, hwa⟩ : ∃ wd : Int, 0 < wd ∧ atI [V.int 3, .int 12, .int 25, .int 40] (ns.getD (0 : Int).toNat 0 * 48271 % 1093 % 4) = some (.int wd) := by
      have : ns.getD (0 : Int).toNat 0 * 48271 % 1093 % 4 = 0 ∨ ns.getD (0 : Int).toNat 0 * 48271 % 1093 % 4 = 1 ∨ ns.getD (0 : Int).toNat 0 * 48271 % 1093 % 4 = 2 ∨ ns.getD (0 : Int).toNat 0 * 48271 % 1093 % 4 = 3 := by omega
      rcases this with e | e | e | e <;> rw [e]
      · exact ⟨_, by decide, at0⟩
      · exact ⟨_, by decide, at1⟩
      · exact ⟨_, by decide, at2⟩
      · exact ⟨_, by decide, at3⟩
    refine ⟨_, rfl, a, ns, 0, rfl, (s0.trans s1).seq hS, by decide, _, _, rfl, rfl, .inr ⟨by decide, by decide⟩, _, _, rfl, rfl, (by show (0 : Int) < _; omega), _, _, rfl, rfl, (by show (0 : Int) < _; omega), p1, _, _, _, rfl, rfl, SqL.of upd_same, hwa, ?_⟩
    have s01 := s0.trans s1
    generalize upd H0 p1 (.lst [.int 3, .int 12, .int 25, .int 40]) = H1 at s01 ⊢
    refine ⟨_, rfl, Nat.le_of_ble_eq_true rfl, fun p2 hp2 => ?_⟩
    have s2 : Same H1 (upd H1 p2 (.lst [.int 0, .int (-7), .int 1000000000000])) := Same.upd hp2
    obtain ⟨bs, hbs⟩ : ∃ bs : Int, atI [V.int 0, .int (-7), .int 1000000000000] (ns.getD (0 : Int).toNat 0 * 48271 % 1097 % 3) = some (.int bs) := by
      have : ns.getD (0 : Int).toNat 0 * 48271 % 1097 % 3 = 0 ∨ ns.getD (0 : Int).toNat 0 * 48271 % 1097 % 3 = 1 ∨ ns.getD (0 : Int).toNat 0 * 48271 % 1097 % 3 = 2 := by omega
      rcases this with e | e | e <;> rw [e]
      · exact ⟨_, at0⟩
      · exact ⟨_, at1⟩
      · exact ⟨_, at2⟩
    refine ⟨_, rfl, a, ns, 0, rfl, (s01.trans s2).seq hS, by decide, _, _, rfl, rfl, .inr ⟨by decide, by decide⟩, _, _, rfl, rfl, (by show (0 : Int) < _; omega), _, _, rfl, rfl, (by show (0 : Int) < _; omega), p2, _, _, _, rfl, rfl, SqL.of upd_same, hbs, ?_⟩
    have s02 := s01.trans s2
    generalize upd H1 p2 (.lst [.int 0, .int (-7), .int 1000000000000]) = H2 at s02 ⊢
    -- the calls
    refine ⟨Nat.le_of_ble_eq_true rfl, fun c hc => ?_⟩
    have s3 : Same H2 (upd H2 c (.lst [])) := Same.upd hc
    have q3 : (upd H2 c (.lst [])) c = some (.lst []) := upd_same
    have ncH : H c = none := none_of s02 hc
    generalize upd H2 c (.lst []) = H3 at s3 q3 ⊢
    have s03 := s02.trans s3
    refine ⟨_, rfl, 1, rfl, 8, rfl, a, _, rfl, s03.seq hS, fun p4 hp4 => ?_⟩
    have s4 : Same H3 (upd H3 p4 (.lst (cutV (ns.map V.int) (some 1) (some 8)))) := Same.upd hp4
    have q4 : (upd H3 p4 (.lst (cutV (ns.map V.int) (some 1) (some 8)))) p4 = some (.lst ((cutI ns (some 1) (some 8)).map V.int)) := by rw [upd_same, cut_ints]
    have hcl : (cutI ns (some 1) (some 8)).length ≤ 7 := by
      unfold cutI
      rw [show (some (1 : Int)) = some (((1 : Nat)) : Int) from rfl, show (some (8 : Int)) = some (((8 : Nat)) : Int) from rfl, HT.sIx_nat, HT.sIx_nat, List.length_take, List.length_drop]
      omega
    generalize upd H3 p4 (.lst (cutV (ns.map V.int) (some 1) (some 8))) = H4 at s4 q4 ⊢
    have s04 := s03.trans s4
    refine ⟨_, rfl, _, rfl, p4, cutI ns (some 1) (some 8), kd, wd, rfl, SqL.of q4, by omega, hk, hwd, fun H5 g5 v5 c5 d5 s5 hg5 hC5 hl5 hp5 hd5 => ?_⟩
    have s05 := s04.trans s5
    have q5 := s5 _ _ (s4 _ _ q3)
    have n35 : g5 ≠ c ∨ v5 = [] := by
      by_cases z : g5 = c
      · rw [z, q5] at hg5
        exact .inr (HO.lst.inj (Option.some.inj hg5)).symm
      · exact .inl z
    refine ⟨g5, rfl, ⟨_, SqL.of hg5⟩, for_list (K := K) (a := g5) (xs := v5) (fun i σ H6 => ∃ (w5 w6 w7 w8 : Option V) (us : List V), σ = [some (.ref a), some (.str kd), some (.int wd), some (.int bs), some (.ref c), w5, w6, w7, w8, none] ∧ Same H H6 ∧ SqL K H6 g5 v5 ∧ Calls K H6 kd v5 c5 ∧ H6 c = some (.lst us) ∧ Calls K H6 kd us ((c5.take i).map (later bs)))
      ⟨none, none, none, none, [], rfl, s05, SqL.of hg5, hC5, q5, Calls.nil⟩ (fun i σ H6 _ ⟨_, _, _, _, _, _, _, h, _⟩ => h) ?_ ?_⟩
    · rintro i y σ H6 hi ⟨w5, w6, w7, w8, us, rfl, s6, g6, C6, q6, U6⟩
      obtain ⟨cl, hcl6, ⟨t, q, rfl, ht, hq⟩, hok⟩ := C6.at_ i y hi
      refine ⟨t, _, rfl, ht, rfl, _, _, rfl, _, _, rfl, _, _, rfl, _, _, rfl, rfl, ?_⟩
      refine ⟨_, rfl, .inl ⟨rfl, _, SqL.of q6⟩, _, rfl, _, rfl, _, _, rfl, rfl, _, rfl, _, rfl, _, _, rfl, rfl, _, rfl, _, rfl, Nat.le_of_ble_eq_true rfl, fun t2 ht2 => ?_⟩
      have s7 := Same.upd (o := .tup [.int (cl.b + bs), .int (cl.e + bs), .ref q, aV cl.a]) ht2
      have r7 := upd_same (H := H6) (a := t2) (o := .tup [.int (cl.b + bs), .int (cl.e + bs), .ref q, aV cl.a])
      generalize upd H6 t2 (.tup [.int (cl.b + bs), .int (cl.e + bs), .ref q, aV cl.a]) = H7 at s7 r7 ⊢
      have q7 := s7 _ _ q6
      have hil : i < v5.length := (List.getElem?_eq_some_iff.mp hi).1
      have hul : us.length ≤ i := by
        rw [U6.len, List.length_map, List.length_take]
        exact Nat.min_le_left _ _
      have ngc : g5 ≠ c := by
        rcases n35 with z | z
        · exact z
        · rw [z] at hil; simp at hil
      refine ⟨c, us, _, rfl, rfl, q7, by omega, ?_⟩
      refine ⟨_, _, _, _, us ++ [.ref t2], rfl, fun b o h => ?_, ?_, Calls.updL q7 (C6.keep s7), upd_same, ?_⟩
      · rw [upd_ne (ne_of_none h ncH)]
        exact s7 _ _ (s6 _ _ h)
      · rcases s7.seq g6 with (h | ⟨o, h⟩) | h
        · exact .inl (.inl (by rw [upd_ne ngc]; exact h))
        · exact .inl (.inr ⟨o, by rw [upd_ne ngc]; exact h⟩)
        · exact .inr h
      · rw [take_snoc hcl6, List.map_append]
        refine (Calls.updL q7 (U6.keep s7)).snoc (c := later bs cl) (CallT.updL q7 ⟨t2, q, rfl, SqT.of r7, Same.tup s7 hq⟩) ⟨?_, hok.2⟩
        have := hok.1
        show cl.b + bs < cl.e + bs
        omega
    rintro σ H6 ⟨w5, w6, w7, w8, us, rfl, s6, g6, C6, q6, U6⟩
    have hvc : v5.length = c5.length := hC5.len
    rw [hvc, List.take_length] at U6
    have hce := can_end_later bs hp5 hd5
    have hul : us.length ≤ 7 := by
      rw [U6.len, List.length_map, ← hvc]
      omega
    have hucl : us.length = (c5.map (later bs)).length := U6.len
    generalize c5.map (later bs) = cs at U6 hce hucl
    -- order_of
    refine ⟨_, rfl, _, rfl, c, us, rfl, .inl (SqL.of q6), fun l1 hl1 => ?_⟩
    have t1 : Same H6 (upd H6 l1 (.lst us)) := Same.upd hl1
    have r1 : (upd H6 l1 (.lst us)) l1 = some (.lst us) := upd_same
    generalize upd H6 l1 (.lst us) = H7 at t1 r1 ⊢
    refine ⟨kd, l1, us, cs, rfl, hk, SqL.of r1, U6.keep t1, hul, LamTab.keep (s6.trans t1) hT, hce, fun H8 p g gs th m8 lam8 hp hg hre hfl => ?_⟩
    have q8 := m8.lst (t1 _ _ q6)
    have U8 := (U6.keep t1).mv m8
    obtain ⟨e1, e2, e3⟩ := reach_is hre hfl
    refine ⟨_, rfl, _, _, .type "tuple", true, rfl, .inr (.inl ⟨rfl, p, _, rfl, SqT.of hp⟩), .inl ⟨_, rfl, rfl⟩, _, rfl, iteF ?_⟩
    refine ⟨_, rfl, p, _, rfl, .inr (SqT.of hp), rfl, _, rfl, iteF ?_⟩
    refine ⟨_, rfl, p, _, 0, _, rfl, rfl, SqT.of hp, at0, _, _, .type "str", true, rfl, .inl (TyOf.str _), .inl ⟨_, rfl, kit_ss⟩, _, rfl, iteF ?_⟩
    refine ⟨_, rfl, p, _, 0, _, rfl, rfl, SqT.of hp, at0, rfl, _, rfl, iteF ?_⟩
    refine ⟨_, rfl, p, _, 1, _, rfl, rfl, SqT.of hp, at1, g, gs, rfl, SqL.of hg, _, rfl, iteF ?_⟩
    refine ⟨_, rfl, _, rfl, _, rfl, p, _, 1, _, rfl, rfl, SqT.of hp, at1, kd, c, g, us, cs, gs, rfl, hk, SqL.of q8, U8, SqL.of hg, by omega, by omega, fun H9 s9 => ⟨_, rfl, ?_⟩⟩
    rw [← time_eq, e1, e2, e3]
    refine iteF ?_
    refine ⟨_, rfl, _, rfl, c, us, rfl, .inl (SqL.of (s9 _ _ q8)), fun l2 hl2 => ?_⟩
    have t2 : Same H9 (upd H9 l2 (.lst us)) := Same.upd hl2
    have r2 : (upd H9 l2 (.lst us)) l2 = some (.lst us) := upd_same
    generalize upd H9 l2 (.lst us) = H10 at t2 r2 ⊢
    have s92 := s9.trans t2
    refine ⟨_, rfl, p, _, 1, _, rfl, rfl, SqT.of (s92 _ _ hp), at1, g, _, rfl, .inl (SqL.of (s92 _ _ hg)), fun l3 hl3 => ?_⟩
    have t3 : Same H10 (upd H10 l3 (.lst (gs.map V.int))) := Same.upd hl3
    have r3 : (upd H10 l3 (.lst (gs.map V.int))) l3 = some (.lst (gs.map V.int)) := upd_same
    generalize upd H10 l3 (.lst (gs.map V.int)) = H11 at t3 r3 ⊢
    refine ⟨kd, l2, l3, us, cs, gs, rfl, hk, SqL.of (t3 _ _ r2), U8.keep (s92.trans t3), SqL.of r3, by omega, by omega, fun H12 s12 => ⟨_, _, rfl, rfl, ?_⟩⟩
    rw [e1, e2, e3]
    exact k _
end
theorem tp_mk {P : Program} {w : World} {K : PySem.W.Frag} {h : Heap} {mg : Str → Option Value} (X : K.In h) (G : h.Ns mainGlobals mg) {st pt r b n : Addr} {t1 t2 t3 ne : Nat} {its : List ((Str × Nat) × (Str × Nat) × Addr × Value)} {np : Nat}
    (aS : PySem.W.nsIn K mainGlobals "STARTS" = some (some (.ref st))) (aP : PySem.W.nsIn K mainGlobals "PARTS" = some (some (.ref pt))) (aN : PySem.W.nsIn K mainGlobals "NoKind" = some (some (.ref n))) (aB : PySem.W.nsIn K mainGlobals "BadCall" = some (some (.ref b)))
    (lS : K.lookup st = some ⟨.type "dict", none, .dict #[⟨PyData.keyHash w.params "row", .str "row" t1, .ref r⟩, ⟨PyData.keyHash w.params "number", .str "number" t2, .int 0 t3⟩] ne, #[]⟩)
    (lr : K.lookup r = some ⟨.type "tuple", none, .seq #[] 0, #[]⟩) (hS : (st == sysModules) = false) (hP : (pt == sysModules) = false)
    (lP : K.lookup pt = some ⟨.type "dict", none, .dict (its.map fun x => (⟨reduceHash (Builtin.Tuple.tupleHashOf [PyData.keyHash w.params x.1.1, PyData.keyHash w.params x.2.1.1]), .ref x.2.2.1, x.2.2.2⟩ : DictEntry)).toArray np, #[]⟩)
    (hit : ∀ x ∈ its, K.lookup x.2.2.1 = some ⟨.type "tuple", none, .seq #[.str x.1.1 x.1.2, .str x.2.1.1 x.2.1.2] 0, #[]⟩)
    (hk : Paired (fun (p : List Key × V) (q : List Key × Addr × Value) => p.1 = q.1 ∧ RelV p.2 q.2.2) partsV (its.map fun x => ([(Sum.inr x.1.1 : Key), Sum.inr x.2.1.1], x.2.2.1, x.2.2.2))) (nd : (its.map fun x => (x.1.1, x.2.1.1)).Nodup)
    (xN : PySem.W.excIn K n [.type "ValueError", .type "Exception", .type "BaseException", .type "object"] "ValueError.__new__" = true) (xB : PySem.W.excIn K b [.type "ValueError", .type "Exception", .type "BaseException", .type "object"] "ValueError.__new__" = true)
    (e1 : PySem.W.exmOne K (.ref b) (.ref b) = some true) (e2 : PySem.W.exmOne K (.ref n) (.ref b) = some false) (e3 : PySem.W.exmOne K (.ref n) (.ref n) = some true) : Tp P w K mg st pt r b n where
  mST := PySem.W.mg_of X G aS
  mPT := PySem.W.mg_of X G aP
  tST := topK_texts (xs := [("row", t1, .ref r), ("number", t2, .int 0 t3)]) lS hS (.cons ⟨rfl, rfl⟩ (.cons ⟨rfl, _, rfl⟩ .nil)) (by show (["row", "number"] : List Str).Nodup; decide)
  tPT := topT_pairs lP hit hP hk nd
  em := fun _ => .inr ⟨_, #[], 0, lr, rfl, rfl, Nat.zero_le _, .nil⟩
  kN := ⟨PySem.W.mg_of X G aN, xN⟩
  kB := ⟨PySem.W.mg_of X G aB, xB⟩
  e1 := e1
  e2 := e2
  e3 := e3
theorem all_mk {l : PySem.W.OpenLaw} {w : World} {K : PySem.W.Frag} {h : Heap} {mg : Str → Option Value} {fa : Addr} (X : K.In h) (G : h.Ns mainGlobals mg) (hfa : mg "law" = some (.ref fa)) {st pt r b n : Addr} (T : Tp l.prog w K mg st pt r b n) {c : Addr}
    {f0 : Addr} {od0 an0 : Option Addr} {sl0 : Array (Option Value)} {oc0 kV0 dc0 pm0 cd0 ct0 : Value}
    (a0 : PySem.W.nsIn K mainGlobals "check_kind" = some (some (.ref f0))) (l0 : K.lookup f0 = some ⟨oc0, od0, .func (PySem.W.fnOf "check_kind" "check_kind" (defArgs s_check_kind) (defBody s_check_kind) (defScope s_check_kind) .none kV0 dc0 pm0 an0 cd0 ct0), sl0⟩) (c0 : PySem.W.codeIn K cd0 "check_kind" = true) (k0 : PySem.W.keepIn K (.ref f0) = true)
    {f1 : Addr} {od1 an1 : Option Addr} {sl1 : Array (Option Value)} {oc1 kV1 dc1 pm1 cd1 ct1 : Value}
    (a1 : PySem.W.nsIn K mainGlobals "start" = some (some (.ref f1))) (l1 : K.lookup f1 = some ⟨oc1, od1, .func (PySem.W.fnOf "start" "start" (defArgs s_start) (defBody s_start) (defScope s_start) .none kV1 dc1 pm1 an1 cd1 ct1), sl1⟩) (c1 : PySem.W.codeIn K cd1 "start" = true) (k1 : PySem.W.keepIn K (.ref f1) = true)
    {f2 : Addr} {od2 an2 : Option Addr} {sl2 : Array (Option Value)} {oc2 kV2 dc2 pm2 cd2 ct2 : Value}
    (a2 : PySem.W.nsIn K mainGlobals "is_whole_number" = some (some (.ref f2))) (l2 : K.lookup f2 = some ⟨oc2, od2, .func (PySem.W.fnOf "is_whole_number" "is_whole_number" (defArgs s_is_whole_number) (defBody s_is_whole_number) (defScope s_is_whole_number) .none kV2 dc2 pm2 an2 cd2 ct2), sl2⟩) (c2 : PySem.W.codeIn K cd2 "is_whole_number" = true) (k2 : PySem.W.keepIn K (.ref f2) = true)
    {f3 : Addr} {od3 an3 : Option Addr} {sl3 : Array (Option Value)} {oc3 kV3 dc3 pm3 cd3 ct3 : Value}
    (a3 : PySem.W.nsIn K mainGlobals "has_parts" = some (some (.ref f3))) (l3 : K.lookup f3 = some ⟨oc3, od3, .func (PySem.W.fnOf "has_parts" "has_parts" (defArgs s_has_parts) (defBody s_has_parts) (defScope s_has_parts) .none kV3 dc3 pm3 an3 cd3 ct3), sl3⟩) (c3 : PySem.W.codeIn K cd3 "has_parts" = true) (k3 : PySem.W.keepIn K (.ref f3) = true)
    {f4 : Addr} {od4 an4 : Option Addr} {sl4 : Array (Option Value)} {oc4 kV4 dc4 pm4 cd4 ct4 : Value}
    (a4 : PySem.W.nsIn K mainGlobals "can_do" = some (some (.ref f4))) (l4 : K.lookup f4 = some ⟨oc4, od4, .func (PySem.W.fnOf "can_do" "can_do" (defArgs s_can_do) (defBody s_can_do) (defScope s_can_do) .none kV4 dc4 pm4 an4 cd4 ct4), sl4⟩) (c4 : PySem.W.codeIn K cd4 "can_do" = true) (k4 : PySem.W.keepIn K (.ref f4) = true)
    {f5 : Addr} {od5 an5 : Option Addr} {sl5 : Array (Option Value)} {oc5 kV5 dc5 pm5 cd5 ct5 : Value}
    (a5 : PySem.W.nsIn K mainGlobals "check_deed" = some (some (.ref f5))) (l5 : K.lookup f5 = some ⟨oc5, od5, .func (PySem.W.fnOf "check_deed" "check_deed" (defArgs s_check_deed) (defBody s_check_deed) (defScope s_check_deed) .none kV5 dc5 pm5 an5 cd5 ct5), sl5⟩) (c5 : PySem.W.codeIn K cd5 "check_deed" = true) (k5 : PySem.W.keepIn K (.ref f5) = true)
    {f6 : Addr} {od6 an6 : Option Addr} {sl6 : Array (Option Value)} {oc6 kV6 dc6 pm6 cd6 ct6 : Value}
    (a6 : PySem.W.nsIn K mainGlobals "do_row" = some (some (.ref f6))) (l6 : K.lookup f6 = some ⟨oc6, od6, .func (PySem.W.fnOf "do_row" "do_row" (defArgs s_do_row) (defBody s_do_row) (defScope s_do_row) .none kV6 dc6 pm6 an6 cd6 ct6), sl6⟩) (c6 : PySem.W.codeIn K cd6 "do_row" = true) (k6 : PySem.W.keepIn K (.ref f6) = true)
    {f7 : Addr} {od7 an7 : Option Addr} {sl7 : Array (Option Value)} {oc7 kV7 dc7 pm7 cd7 ct7 : Value}
    (a7 : PySem.W.nsIn K mainGlobals "do_number" = some (some (.ref f7))) (l7 : K.lookup f7 = some ⟨oc7, od7, .func (PySem.W.fnOf "do_number" "do_number" (defArgs s_do_number) (defBody s_do_number) (defScope s_do_number) .none kV7 dc7 pm7 an7 cd7 ct7), sl7⟩) (c7 : PySem.W.codeIn K cd7 "do_number" = true) (k7 : PySem.W.keepIn K (.ref f7) = true)
    {f8 : Addr} {od8 an8 : Option Addr} {sl8 : Array (Option Value)} {oc8 kV8 dc8 pm8 cd8 ct8 : Value}
    (a8 : PySem.W.nsIn K mainGlobals "do_deed" = some (some (.ref f8))) (l8 : K.lookup f8 = some ⟨oc8, od8, .func (PySem.W.fnOf "do_deed" "do_deed" (defArgs s_do_deed) (defBody s_do_deed) (defScope s_do_deed) .none kV8 dc8 pm8 an8 cd8 ct8), sl8⟩) (c8 : PySem.W.codeIn K cd8 "do_deed" = true) (k8 : PySem.W.keepIn K (.ref f8) = true)
    {f9 : Addr} {od9 an9 : Option Addr} {sl9 : Array (Option Value)} {oc9 kV9 dc9 pm9 cd9 ct9 : Value}
    (a9 : PySem.W.nsIn K mainGlobals "answers" = some (some (.ref f9))) (l9 : K.lookup f9 = some ⟨oc9, od9, .func (PySem.W.fnOf "answers" "answers" (defArgs s_answers) (defBody s_answers) (defScope s_answers) .none kV9 dc9 pm9 an9 cd9 ct9), sl9⟩) (c9 : PySem.W.codeIn K cd9 "answers" = true) (k9 : PySem.W.keepIn K (.ref f9) = true)
    {f10 : Addr} {od10 an10 : Option Addr} {sl10 : Array (Option Value)} {oc10 kV10 dc10 pm10 cd10 ct10 : Value}
    (a10 : PySem.W.nsIn K mainGlobals "check_times" = some (some (.ref f10))) (l10 : K.lookup f10 = some ⟨oc10, od10, .func (PySem.W.fnOf "check_times" "check_times" (defArgs s_check_times) (defBody s_check_times) (defScope s_check_times) .none kV10 dc10 pm10 an10 cd10 ct10), sl10⟩) (c10 : PySem.W.codeIn K cd10 "check_times" = true) (k10 : PySem.W.keepIn K (.ref f10) = true)
    {f11 : Addr} {od11 an11 : Option Addr} {sl11 : Array (Option Value)} {oc11 kV11 dc11 pm11 cd11 ct11 : Value}
    (a11 : PySem.W.nsIn K mainGlobals "ahead" = some (some (.ref f11))) (l11 : K.lookup f11 = some ⟨oc11, od11, .func (PySem.W.fnOf "ahead" "ahead" (defArgs s_ahead) (defBody s_ahead) (defScope s_ahead) .none kV11 dc11 pm11 an11 cd11 ct11), sl11⟩) (c11 : PySem.W.codeIn K cd11 "ahead" = true) (k11 : PySem.W.keepIn K (.ref f11) = true)
    {f12 : Addr} {od12 an12 : Option Addr} {sl12 : Array (Option Value)} {oc12 kV12 dc12 pm12 cd12 ct12 : Value}
    (a12 : PySem.W.nsIn K mainGlobals "free_calls" = some (some (.ref f12))) (l12 : K.lookup f12 = some ⟨oc12, od12, .func (PySem.W.fnOf "free_calls" "free_calls" (defArgs s_free_calls) (defBody s_free_calls) (defScope s_free_calls) .none kV12 dc12 pm12 an12 cd12 ct12), sl12⟩) (c12 : PySem.W.codeIn K cd12 "free_calls" = true) (k12 : PySem.W.keepIn K (.ref f12) = true)
    {f13 : Addr} {od13 an13 : Option Addr} {sl13 : Array (Option Value)} {oc13 kV13 dc13 pm13 cd13 ct13 : Value}
    (a13 : PySem.W.nsIn K mainGlobals "check_calls" = some (some (.ref f13))) (l13 : K.lookup f13 = some ⟨oc13, od13, .func (PySem.W.fnOf "check_calls" "check_calls" (defArgs s_check_calls) (defBody s_check_calls) (defScope s_check_calls) .none kV13 dc13 pm13 an13 cd13 ct13), sl13⟩) (c13 : PySem.W.codeIn K cd13 "check_calls" = true) (k13 : PySem.W.keepIn K (.ref f13) = true)
    {f14 : Addr} {od14 an14 : Option Addr} {sl14 : Array (Option Value)} {oc14 kV14 dc14 pm14 cd14 ct14 : Value}
    (a14 : PySem.W.nsIn K mainGlobals "has_each_once" = some (some (.ref f14))) (l14 : K.lookup f14 = some ⟨oc14, od14, .func (PySem.W.fnOf "has_each_once" "has_each_once" (defArgs s_has_each_once) (defBody s_has_each_once) (defScope s_has_each_once) .none kV14 dc14 pm14 an14 cd14 ct14), sl14⟩) (c14 : PySem.W.codeIn K cd14 "has_each_once" = true) (k14 : PySem.W.keepIn K (.ref f14) = true)
    {f15 : Addr} {od15 an15 : Option Addr} {sl15 : Array (Option Value)} {oc15 kV15 dc15 pm15 cd15 ct15 : Value}
    (a15 : PySem.W.nsIn K mainGlobals "keeps_time" = some (some (.ref f15))) (l15 : K.lookup f15 = some ⟨oc15, od15, .func (PySem.W.fnOf "keeps_time" "keeps_time" (defArgs s_keeps_time) (defBody s_keeps_time) (defScope s_keeps_time) .none kV15 dc15 pm15 an15 cd15 ct15), sl15⟩) (c15 : PySem.W.codeIn K cd15 "keeps_time" = true) (k15 : PySem.W.keepIn K (.ref f15) = true)
    {f16 : Addr} {od16 an16 : Option Addr} {sl16 : Array (Option Value)} {oc16 kV16 dc16 pm16 cd16 ct16 : Value}
    (a16 : PySem.W.nsIn K mainGlobals "gives_the_answers" = some (some (.ref f16))) (l16 : K.lookup f16 = some ⟨oc16, od16, .func (PySem.W.fnOf "gives_the_answers" "gives_the_answers" (defArgs s_gives_the_answers) (defBody s_gives_the_answers) (defScope s_gives_the_answers) .none kV16 dc16 pm16 an16 cd16 ct16), sl16⟩) (c16 : PySem.W.codeIn K cd16 "gives_the_answers" = true) (k16 : PySem.W.keepIn K (.ref f16) = true)
    {f17 : Addr} {od17 an17 : Option Addr} {sl17 : Array (Option Value)} {oc17 kV17 dc17 pm17 cd17 ct17 : Value}
    (a17 : PySem.W.nsIn K mainGlobals "is_order" = some (some (.ref f17))) (l17 : K.lookup f17 = some ⟨oc17, od17, .func (PySem.W.fnOf "is_order" "is_order" (defArgs s_is_order) (defBody s_is_order) (defScope s_is_order) .none kV17 dc17 pm17 an17 cd17 ct17), sl17⟩) (c17 : PySem.W.codeIn K cd17 "is_order" = true) (k17 : PySem.W.keepIn K (.ref f17) = true)
    {f18 : Addr} {od18 an18 : Option Addr} {sl18 : Array (Option Value)} {oc18 kV18 dc18 pm18 ct18 : Value}
    (a18 : PySem.W.nsIn K mainGlobals "fitting_call" = some (some (.ref f18))) (l18 : K.lookup f18 = some ⟨oc18, od18, .func (PySem.W.fnOf "fitting_call" "fitting_call" (defArgs s_fitting_call) (defBody s_fitting_call) (defScope s_fitting_call) .none kV18 dc18 pm18 an18 (.ref c) ct18), sl18⟩) (c18 : PySem.W.codeIn K (.ref c) "fitting_call" = true) (k18 : PySem.W.keepIn K (.ref f18) = true)
    {f19 : Addr} {od19 an19 : Option Addr} {sl19 : Array (Option Value)} {oc19 kV19 dc19 pm19 cd19 ct19 : Value}
    (a19 : PySem.W.nsIn K mainGlobals "can_come_out" = some (some (.ref f19))) (l19 : K.lookup f19 = some ⟨oc19, od19, .func (PySem.W.fnOf "can_come_out" "can_come_out" (defArgs s_can_come_out) (defBody s_can_come_out) (defScope s_can_come_out) .none kV19 dc19 pm19 an19 cd19 ct19), sl19⟩) (c19 : PySem.W.codeIn K cd19 "can_come_out" = true) (k19 : PySem.W.keepIn K (.ref f19) = true)
    {f20 : Addr} {od20 an20 : Option Addr} {sl20 : Array (Option Value)} {oc20 kV20 dc20 pm20 cd20 ct20 : Value}
    (a20 : PySem.W.nsIn K mainGlobals "ways_on" = some (some (.ref f20))) (l20 : K.lookup f20 = some ⟨oc20, od20, .func (PySem.W.fnOf "ways_on" "ways_on" (defArgs s_ways_on) (defBody s_ways_on) (defScope s_ways_on) .none kV20 dc20 pm20 an20 cd20 ct20), sl20⟩) (c20 : PySem.W.codeIn K cd20 "ways_on" = true) (k20 : PySem.W.keepIn K (.ref f20) = true)
    {f21 : Addr} {od21 an21 : Option Addr} {sl21 : Array (Option Value)} {oc21 kV21 dc21 pm21 cd21 ct21 : Value}
    (a21 : PySem.W.nsIn K mainGlobals "search_order" = some (some (.ref f21))) (l21 : K.lookup f21 = some ⟨oc21, od21, .func (PySem.W.fnOf "search_order" "search_order" (defArgs s_search_order) (defBody s_search_order) (defScope s_search_order) .none kV21 dc21 pm21 an21 cd21 ct21), sl21⟩) (c21 : PySem.W.codeIn K cd21 "search_order" = true) (k21 : PySem.W.keepIn K (.ref f21) = true)
    {f22 : Addr} {od22 an22 : Option Addr} {sl22 : Array (Option Value)} {oc22 kV22 dc22 pm22 cd22 ct22 : Value}
    (a22 : PySem.W.nsIn K mainGlobals "order_of" = some (some (.ref f22))) (l22 : K.lookup f22 = some ⟨oc22, od22, .func (PySem.W.fnOf "order_of" "order_of" (defArgs s_order_of) (defBody s_order_of) (defScope s_order_of) .none kV22 dc22 pm22 an22 cd22 ct22), sl22⟩) (c22 : PySem.W.codeIn K cd22 "order_of" = true) (k22 : PySem.W.keepIn K (.ref f22) = true)
    {f23 : Addr} {od23 an23 : Option Addr} {sl23 : Array (Option Value)} {oc23 kV23 dc23 pm23 cd23 ct23 : Value}
    (a23 : PySem.W.nsIn K mainGlobals "_law_whole" = some (some (.ref f23))) (l23 : K.lookup f23 = some ⟨oc23, od23, .func (PySem.W.fnOf "_law_whole" "_law_whole" (defArgs s__law_whole) (defBody s__law_whole) (defScope s__law_whole) .none kV23 dc23 pm23 an23 cd23 ct23), sl23⟩) (c23 : PySem.W.codeIn K cd23 "_law_whole" = true) (k23 : PySem.W.keepIn K (.ref f23) = true)
    {f24 : Addr} {od24 an24 : Option Addr} {sl24 : Array (Option Value)} {oc24 kV24 dc24 pm24 cd24 ct24 : Value}
    (a24 : PySem.W.nsIn K mainGlobals "_law_at" = some (some (.ref f24))) (l24 : K.lookup f24 = some ⟨oc24, od24, .func (PySem.W.fnOf "_law_at" "_law_at" (defArgs s__law_at) (defBody s__law_at) (defScope s__law_at) .none kV24 dc24 pm24 an24 cd24 ct24), sl24⟩) (c24 : PySem.W.codeIn K cd24 "_law_at" = true) (k24 : PySem.W.keepIn K (.ref f24) = true)
    {f25 : Addr} {od25 an25 : Option Addr} {sl25 : Array (Option Value)} {oc25 kV25 dc25 pm25 cd25 ct25 : Value}
    (a25 : PySem.W.nsIn K mainGlobals "_law_done" = some (some (.ref f25))) (l25 : K.lookup f25 = some ⟨oc25, od25, .func (PySem.W.fnOf "_law_done" "_law_done" (defArgs s__law_done) (defBody s__law_done) (defScope s__law_done) .none kV25 dc25 pm25 an25 cd25 ct25), sl25⟩) (c25 : PySem.W.codeIn K cd25 "_law_done" = true) (k25 : PySem.W.keepIn K (.ref f25) = true)
    {f26 : Addr} {od26 an26 : Option Addr} {sl26 : Array (Option Value)} {oc26 kV26 dc26 pm26 cd26 ct26 : Value}
    (a26 : PySem.W.nsIn K mainGlobals "_law_deed_of" = some (some (.ref f26))) (l26 : K.lookup f26 = some ⟨oc26, od26, .func (PySem.W.fnOf "_law_deed_of" "_law_deed_of" (defArgs s__law_deed_of) (defBody s__law_deed_of) (defScope s__law_deed_of) .none kV26 dc26 pm26 an26 cd26 ct26), sl26⟩) (c26 : PySem.W.codeIn K cd26 "_law_deed_of" = true) (k26 : PySem.W.keepIn K (.ref f26) = true)
    {f27 : Addr} {od27 an27 : Option Addr} {sl27 : Array (Option Value)} {oc27 kV27 dc27 pm27 cd27 ct27 : Value}
    (a27 : PySem.W.nsIn K mainGlobals "_law_kept" = some (some (.ref f27))) (l27 : K.lookup f27 = some ⟨oc27, od27, .func (PySem.W.fnOf "_law_kept" "_law_kept" (defArgs s__law_kept) (defBody s__law_kept) (defScope s__law_kept) .none kV27 dc27 pm27 an27 cd27 ct27), sl27⟩) (c27 : PySem.W.codeIn K cd27 "_law_kept" = true) (k27 : PySem.W.keepIn K (.ref f27) = true)
    {f28 : Addr} {od28 an28 : Option Addr} {sl28 : Array (Option Value)} {oc28 kV28 dc28 pm28 cd28 ct28 : Value}
    (a28 : PySem.W.nsIn K mainGlobals "_law_keeps_time" = some (some (.ref f28))) (l28 : K.lookup f28 = some ⟨oc28, od28, .func (PySem.W.fnOf "_law_keeps_time" "_law_keeps_time" (defArgs s__law_keeps_time) (defBody s__law_keeps_time) (defScope s__law_keeps_time) .none kV28 dc28 pm28 an28 cd28 ct28), sl28⟩) (c28 : PySem.W.codeIn K cd28 "_law_keeps_time" = true) (k28 : PySem.W.keepIn K (.ref f28) = true)
    {f29 : Addr} {od29 an29 : Option Addr} {sl29 : Array (Option Value)} {oc29 kV29 dc29 pm29 cd29 ct29 : Value}
    (a29 : PySem.W.nsIn K mainGlobals "_law_holds" = some (some (.ref f29))) (l29 : K.lookup f29 = some ⟨oc29, od29, .func (PySem.W.fnOf "_law_holds" "_law_holds" (defArgs s__law_holds) (defBody s__law_holds) (defScope s__law_holds) .none kV29 dc29 pm29 an29 cd29 ct29), sl29⟩) (c29 : PySem.W.codeIn K cd29 "_law_holds" = true) (k29 : PySem.W.keepIn K (.ref f29) = true)
    {f30 : Addr} {od30 an30 : Option Addr} {sl30 : Array (Option Value)} {oc30 kV30 dc30 pm30 cd30 ct30 : Value}
    (a30 : PySem.W.nsIn K mainGlobals "_law_are_numbers" = some (some (.ref f30))) (l30 : K.lookup f30 = some ⟨oc30, od30, .func (PySem.W.fnOf "_law_are_numbers" "_law_are_numbers" (defArgs s__law_are_numbers) (defBody s__law_are_numbers) (defScope s__law_are_numbers) .none kV30 dc30 pm30 an30 cd30 ct30), sl30⟩) (c30 : PySem.W.codeIn K cd30 "_law_are_numbers" = true) (k30 : PySem.W.keepIn K (.ref f30) = true)
    {f31 : Addr} {od31 an31 : Option Addr} {sl31 : Array (Option Value)} {oc31 kV31 dc31 pm31 cd31 ct31 : Value}
    (a31 : PySem.W.nsIn K mainGlobals "law" = some (some (.ref f31))) (l31 : K.lookup f31 = some ⟨oc31, od31, .func (PySem.W.fnOf "law" "law" (defArgs s_law) (defBody s_law) (defScope s_law) .none kV31 dc31 pm31 an31 cd31 ct31), sl31⟩) (c31 : PySem.W.codeIn K cd31 "law" = true) (k31 : PySem.W.keepIn K (.ref f31) = true)
    (hCP : lamOkB K c = true)
    (z_any : PySem.W.nsIn K mainGlobals "any" = some none)
    (z_bool : PySem.W.nsIn K mainGlobals "bool" = some none)
    (z_enumerate : PySem.W.nsIn K mainGlobals "enumerate" = some none)
    (z_int : PySem.W.nsIn K mainGlobals "int" = some none)
    (z_isinstance : PySem.W.nsIn K mainGlobals "isinstance" = some none)
    (z_len : PySem.W.nsIn K mainGlobals "len" = some none)
    (z_list : PySem.W.nsIn K mainGlobals "list" = some none)
    (z_min : PySem.W.nsIn K mainGlobals "min" = some none)
    (z_range : PySem.W.nsIn K mainGlobals "range" = some none)
    (z_sorted : PySem.W.nsIn K mainGlobals "sorted" = some none)
    (z_str : PySem.W.nsIn K mainGlobals "str" = some none)
    (z_tuple : PySem.W.nsIn K mainGlobals "tuple" = some none)
    : ∃ (fd : FuncData) (f c Pt : Addr) (o : Obj) (fl : FuncData), (∀ (s : Shared) (v : Value), BindsTo s fd ⟨[v], []⟩ [("_law_script", v)]) ∧ mg "fitting_call" = some (.ref f) ∧ K.lookup f = some o ∧ o.data = .func fl ∧ fl.code = .ref c ∧ PySem.W.codeHdIn K c Pt = true ∧ K.lookup Pt = none ∧ ∀ base : Heap, K.In base → base.Ns mainGlobals mg → BAt mg base → FnOk l.prog w K mg base CX0 40 fa fd ["_law_script"] (spLaw K Pt) := by
  obtain ⟨Pt, hC, hPK⟩ := lamOk_of hCP
  have e := hfa.symm.trans (PySem.W.mg_of X G a31)
  cases e
  have B : Bl mg := ⟨PySem.W.mg_none_of X G z_any, PySem.W.mg_none_of X G z_bool, PySem.W.mg_none_of X G z_enumerate, PySem.W.mg_none_of X G z_int, PySem.W.mg_none_of X G z_isinstance, PySem.W.mg_none_of X G z_len, PySem.W.mg_none_of X G z_list, PySem.W.mg_none_of X G z_min, PySem.W.mg_none_of X G z_range, PySem.W.mg_none_of X G z_sorted, PySem.W.mg_none_of X G z_str, PySem.W.mg_none_of X G z_tuple⟩
  have F0 := fun_mk (st := s_check_kind) l0 c0 k0
  have b0 := F0.binds (ps := ["kind"]) fun _ _ _ _ _ _ us hl => match us, hl with | [_], _ => rfl
  have m0 := PySem.W.mg_of X G a0
  have F1 := fun_mk (st := s_start) l1 c1 k1
  have b1 := F1.binds (ps := ["kind"]) fun _ _ _ _ _ _ us hl => match us, hl with | [_], _ => rfl
  have m1 := PySem.W.mg_of X G a1
  have F2 := fun_mk (st := s_is_whole_number) l2 c2 k2
  have b2 := F2.binds (ps := ["value"]) fun _ _ _ _ _ _ us hl => match us, hl with | [_], _ => rfl
  have m2 := PySem.W.mg_of X G a2
  have F3 := fun_mk (st := s_has_parts) l3 c3 k3
  have b3 := F3.binds (ps := ["deed", "parts"]) fun _ _ _ _ _ _ us hl => match us, hl with | [_, _], _ => rfl
  have m3 := PySem.W.mg_of X G a3
  have F4 := fun_mk (st := s_can_do) l4 c4 k4
  have b4 := F4.binds (ps := ["kind", "deed"]) fun _ _ _ _ _ _ us hl => match us, hl with | [_, _], _ => rfl
  have m4 := PySem.W.mg_of X G a4
  have F5 := fun_mk (st := s_check_deed) l5 c5 k5
  have b5 := F5.binds (ps := ["kind", "deed"]) fun _ _ _ _ _ _ us hl => match us, hl with | [_, _], _ => rfl
  have m5 := PySem.W.mg_of X G a5
  have F6 := fun_mk (st := s_do_row) l6 c6 k6
  have b6 := F6.binds (ps := ["row", "deed"]) fun _ _ _ _ _ _ us hl => match us, hl with | [_, _], _ => rfl
  have m6 := PySem.W.mg_of X G a6
  have F7 := fun_mk (st := s_do_number) l7 c7 k7
  have b7 := F7.binds (ps := ["number", "deed"]) fun _ _ _ _ _ _ us hl => match us, hl with | [_, _], _ => rfl
  have m7 := PySem.W.mg_of X G a7
  have F8 := fun_mk (st := s_do_deed) l8 c8 k8
  have b8 := F8.binds (ps := ["kind", "thing", "deed"]) fun _ _ _ _ _ _ us hl => match us, hl with | [_, _, _], _ => rfl
  have m8 := PySem.W.mg_of X G a8
  have F9 := fun_mk (st := s_answers) l9 c9 k9
  have b9 := F9.binds (ps := ["kind", "deeds"]) fun _ _ _ _ _ _ us hl => match us, hl with | [_, _], _ => rfl
  have m9 := PySem.W.mg_of X G a9
  have F10 := fun_mk (st := s_check_times) l10 c10 k10
  have b10 := F10.binds (ps := ["call"]) fun _ _ _ _ _ _ us hl => match us, hl with | [_], _ => rfl
  have m10 := PySem.W.mg_of X G a10
  have F11 := fun_mk (st := s_ahead) l11 c11 k11
  have b11 := F11.binds (ps := ["one", "other"]) fun _ _ _ _ _ _ us hl => match us, hl with | [_, _], _ => rfl
  have m11 := PySem.W.mg_of X G a11
  have F12 := fun_mk (st := s_free_calls) l12 c12 k12
  have b12 := F12.binds (ps := ["calls", "gone"]) fun _ _ _ _ _ _ us hl => match us, hl with | [_, _], _ => rfl
  have m12 := PySem.W.mg_of X G a12
  have F13 := fun_mk (st := s_check_calls) l13 c13 k13
  have b13 := F13.binds (ps := ["kind", "calls"]) fun _ _ _ _ _ _ us hl => match us, hl with | [_, _], _ => rfl
  have m13 := PySem.W.mg_of X G a13
  have F14 := fun_mk (st := s_has_each_once) l14 c14 k14
  have b14 := F14.binds (ps := ["calls", "order"]) fun _ _ _ _ _ _ us hl => match us, hl with | [_, _], _ => rfl
  have m14 := PySem.W.mg_of X G a14
  have F15 := fun_mk (st := s_keeps_time) l15 c15 k15
  have b15 := F15.binds (ps := ["calls", "order"]) fun _ _ _ _ _ _ us hl => match us, hl with | [_, _], _ => rfl
  have m15 := PySem.W.mg_of X G a15
  have F16 := fun_mk (st := s_gives_the_answers) l16 c16 k16
  have b16 := F16.binds (ps := ["kind", "calls", "order"]) fun _ _ _ _ _ _ us hl => match us, hl with | [_, _, _], _ => rfl
  have m16 := PySem.W.mg_of X G a16
  have F17 := fun_mk (st := s_is_order) l17 c17 k17
  have b17 := F17.binds (ps := ["kind", "calls", "order"]) fun _ _ _ _ _ _ us hl => match us, hl with | [_, _, _], _ => rfl
  have m17 := PySem.W.mg_of X G a17
  have Fc18 := funC_mk (st := s_fitting_call) l18 c18 k18
  have F18 := Fc18.fn
  have b18 := F18.binds (ps := ["seeing", "value"]) fun _ _ _ _ _ _ us hl => match us, hl with | [_, _], _ => rfl
  have m18 := PySem.W.mg_of X G a18
  have F19 := fun_mk (st := s_can_come_out) l19 c19 k19
  have b19 := F19.binds (ps := ["row", "calls", "order"]) fun _ _ _ _ _ _ us hl => match us, hl with | [_, _, _], _ => rfl
  have m19 := PySem.W.mg_of X G a19
  have F20 := fun_mk (st := s_ways_on) l20 c20 k20
  have b20 := F20.binds (ps := ["kind", "calls", "order", "thing"]) fun _ _ _ _ _ _ us hl => match us, hl with | [_, _, _, _], _ => rfl
  have m20 := PySem.W.mg_of X G a20
  have F21 := fun_mk (st := s_search_order) l21 c21 k21
  have b21 := F21.binds (ps := ["kind", "calls"]) fun _ _ _ _ _ _ us hl => match us, hl with | [_, _], _ => rfl
  have m21 := PySem.W.mg_of X G a21
  have F22 := fun_mk (st := s_order_of) l22 c22 k22
  have b22 := F22.binds (ps := ["kind", "calls"]) fun _ _ _ _ _ _ us hl => match us, hl with | [_, _], _ => rfl
  have m22 := PySem.W.mg_of X G a22
  have F23 := fun_mk (st := s__law_whole) l23 c23 k23
  have b23 := F23.binds (ps := ["_law_found"]) fun _ _ _ _ _ _ us hl => match us, hl with | [_], _ => rfl
  have m23 := PySem.W.mg_of X G a23
  have F24 := fun_mk (st := s__law_at) l24 c24 k24
  have b24 := F24.binds (ps := ["_law_script", "_law_k"]) fun _ _ _ _ _ _ us hl => match us, hl with | [_, _], _ => rfl
  have m24 := PySem.W.mg_of X G a24
  have F25 := fun_mk (st := s__law_done) l25 c25 k25
  have b25 := F25.binds (ps := ["_law_kind", "_law_state", "_law_deed"]) fun _ _ _ _ _ _ us hl => match us, hl with | [_, _, _], _ => rfl
  have m25 := PySem.W.mg_of X G a25
  have F26 := fun_mk (st := s__law_deed_of) l26 c26 k26
  have b26 := F26.binds (ps := ["_law_cell", "_law_kind", "_law_thing"]) fun _ _ _ _ _ _ us hl => match us, hl with | [_, _, _], _ => rfl
  have m26 := PySem.W.mg_of X G a26
  have F27 := fun_mk (st := s__law_kept) l27 c27 k27
  have b27 := F27.binds (ps := ["_law_cells", "_law_kind", "_law_thing", "_law_wide"]) fun _ _ _ _ _ _ us hl => match us, hl with | [_, _, _, _], _ => rfl
  have m27 := PySem.W.mg_of X G a27
  have F28 := fun_mk (st := s__law_keeps_time) l28 c28 k28
  have b28 := F28.binds (ps := ["_law_calls", "_law_order"]) fun _ _ _ _ _ _ us hl => match us, hl with | [_, _], _ => rfl
  have m28 := PySem.W.mg_of X G a28
  have F29 := fun_mk (st := s__law_holds) l29 c29 k29
  have b29 := F29.binds (ps := ["_law_kind", "_law_calls", "_law_order"]) fun _ _ _ _ _ _ us hl => match us, hl with | [_, _, _], _ => rfl
  have m29 := PySem.W.mg_of X G a29
  have F30 := fun_mk (st := s__law_are_numbers) l30 c30 k30
  have b30 := F30.binds (ps := ["_law_found"]) fun _ _ _ _ _ _ us hl => match us, hl with | [_], _ => rfl
  have m30 := PySem.W.mg_of X G a30
  have F31 := fun_mk (st := s_law) l31 c31 k31
  have b31 := F31.binds (ps := ["_law_script"]) fun _ _ _ _ _ _ us hl => match us, hl with | [_], _ => rfl
  have m31 := PySem.W.mg_of X G a31
  refine ⟨PySem.W.fnOf "law" "law" (defArgs s_law) (defBody s_law) (defScope s_law) .none kV31 dc31 pm31 an31 cd31 ct31, f18, c, Pt, _, _, fun s v => .of_eq rfl, m18, l18, rfl, rfl, hC, hPK, fun base _ _ hB => ?_⟩
  have g_check_kind := FnX.mk' (ok_check_kind (P := l.prog) (w := w) (base := base) F0 B T ) m0 k0 b0
  have g_start := (Fn.mk' (ok_start (P := l.prog) (w := w) (base := base) F1 B T g_check_kind) m1 k1 b1).x
  have g_is_whole_number := (Fn.mk' (ok_is_whole_number (P := l.prog) (w := w) (base := base) F2 B  ) m2 k2 b2).x
  have g_has_parts := (Fn.mk' (ok_has_parts (P := l.prog) (w := w) (base := base) F3 B  g_is_whole_number) m3 k3 b3).x
  have g_can_do := (Fn.mk' (ok_can_do (P := l.prog) (w := w) (base := base) F4 B T g_has_parts) m4 k4 b4).x
  have g_check_deed := FnX.mk' (ok_check_deed (P := l.prog) (w := w) (base := base) F5 B T g_can_do g_check_kind) m5 k5 b5
  have g_do_row := (Fn.mk' (ok_do_row (P := l.prog) (w := w) (base := base) F6 B  ) m6 k6 b6).x
  have g_do_number := (Fn.mk' (ok_do_number (P := l.prog) (w := w) (base := base) F7 B  ) m7 k7 b7).x
  have g_do_deed := (Fn.mk' (ok_do_deed (P := l.prog) (w := w) (base := base) F8 B  g_do_number g_do_row) m8 k8 b8).x
  have g_answers := (Fn.mk' (ok_answers (P := l.prog) (w := w) (base := base) F9 B T g_check_deed g_do_deed g_start) m9 k9 b9).x
  have g_check_times := (Fn.mk' (ok_check_times (P := l.prog) (w := w) (base := base) F10 B  ) m10 k10 b10).x
  have g_ahead := (Fn.mk' (ok_ahead (P := l.prog) (w := w) (base := base) F11 B  g_check_times) m11 k11 b11).x
  have g_free_calls := (Fn.mk' (ok_free_calls (P := l.prog) (w := w) (base := base) F12 B  g_check_times) m12 k12 b12).x
  have g_check_calls := (Fn.mk' (ok_check_calls (P := l.prog) (w := w) (base := base) F13 B T g_check_deed g_check_kind g_check_times) m13 k13 b13).x
  have g_has_each_once := (Fn.mk' (ok_has_each_once (P := l.prog) (w := w) (base := base) F14 B  ) m14 k14 b14).x
  have g_keeps_time := (Fn.mk' (ok_keeps_time (P := l.prog) (w := w) (base := base) F15 B  g_ahead) m15 k15 b15).x
  have g_gives_the_answers := (Fn.mk' (ok_gives_the_answers (P := l.prog) (w := w) (base := base) F16 B  g_answers) m16 k16 b16).x
  have g_is_order := (Fn.mk' (ok_is_order (P := l.prog) (w := w) (base := base) F17 B  g_check_calls g_gives_the_answers g_has_each_once g_keeps_time) m17 k17 b17).x
  have g_fitting_call := (Fn.mk' (ok_fitting_call (P := l.prog) (w := w) (base := base) Fc18 B hB hC ) m18 k18 b18).x
  have g_can_come_out := (Fn.mk' (ok_can_come_out (P := l.prog) (w := w) (base := base) F19 B  g_fitting_call) m19 k19 b19).x
  have g_ways_on := (Fn.mk' (ok_ways_on (P := l.prog) (w := w) (base := base) F20 B  g_do_deed g_free_calls) m20 k20 b20).x
  have g_search_order := (Fn.mk' (ok_search_order (P := l.prog) (w := w) (base := base) F21 B T g_can_come_out g_start g_ways_on) m21 k21 b21).x
  have g_order_of := (Fn.mk' (ok_order_of (P := l.prog) (w := w) (base := base) F22 B T g_check_calls g_search_order) m22 k22 b22).x
  have g__law_whole := (Fn.mk' (ok__law_whole (P := l.prog) (w := w) (base := base) F23 B  ) m23 k23 b23).x
  have g__law_at := (Fn.mk' (ok__law_at (P := l.prog) (w := w) (base := base) F24 B  ) m24 k24 b24).x
  have g__law_done := (Fn.mk' (ok__law_done (P := l.prog) (w := w) (base := base) F25 B  ) m25 k25 b25).x
  have g__law_deed_of := (Fn.mk' (ok__law_deed_of (P := l.prog) (w := w) (base := base) F26 B  ) m26 k26 b26).x
  have g__law_kept := (Fn.mk' (ok__law_kept (P := l.prog) (w := w) (base := base) F27 B  g__law_deed_of g__law_done) m27 k27 b27).x
  have g__law_keeps_time := (Fn.mk' (ok__law_keeps_time (P := l.prog) (w := w) (base := base) F28 B  ) m28 k28 b28).x
  have g__law_holds := (Fn.mk' (ok__law_holds (P := l.prog) (w := w) (base := base) F29 B  g__law_done g__law_keeps_time) m29 k29 b29).x
  have g__law_are_numbers := (Fn.mk' (ok__law_are_numbers (P := l.prog) (w := w) (base := base) F30 B  g__law_whole) m30 k30 b30).x
  exact (ok_law F31 B  g__law_are_numbers g__law_at g__law_holds g__law_kept g_is_order g_order_of).mono (by decide)
theorem walk {l : PySem.W.OpenLaw} {q : Program} {loose : List Str} {XP : (Str → Option Value) → Heap → Prop} {YP : World → Heap → Prop} {d : DefRec} {K : Params → PySem.W.Frag} (hn : l.most = some 63) (hdf : d.params.defaults = [])
    (hY : ∀ (w : World) (h : Heap), YP w h → (K w.params).In h)
    (hrec : (PyProof.Rows.recsOf q).any (fun dl => dl.name == "fitting_call") = true)
    (F : ∀ (w : World) (mg : Str → Option Value) (fa : Addr) (h : Heap), (K w.params).In h → h.Ns mainGlobals mg → mg d.name = some (.ref fa) →
      ∃ (fd : FuncData) (f c Pt : Addr) (o : Obj) (fl : FuncData), (∀ (s : Shared) (v : Value), BindsTo s fd ⟨[v], []⟩ [("_law_script", v)]) ∧ mg "fitting_call" = some (.ref f) ∧ (K w.params).lookup f = some o ∧ o.data = .func fl ∧ fl.code = .ref c ∧ PySem.W.codeHdIn (K w.params) c Pt = true ∧ (K w.params).lookup Pt = none ∧ ∀ base : Heap, (K w.params).In base → base.Ns mainGlobals mg → BAt mg base → FnOk l.prog w (K w.params) mg base CX0 40 fa fd ["_law_script"] (spLaw (K w.params) Pt)) :
    PySem.W.WalkO q loose XP YP l.row.toRowW d [] (fun f vs => PySem.call f vs) :=
  L2.walk_ofP (n := 63) (k := 40) (x := "_law_script") (lam := "fitting_call") (CX := fun _ => CX0) (sp := fun w Pt => spLaw (K w.params) Pt) hn (by decide) hdf ⟨rfl, by decide, by decide⟩ hY (by obtain ⟨dl, h1, h2⟩ := List.any_eq_true.mp hrec; exact ⟨dl, h1, by simpa using h2⟩) F (fun _ _ _ a ns hl hP hS => ⟨a, ns, rfl, hS, hl, .inl hP, fun _ => rfl⟩) fun _ _ _ _ _ z => z
end My


open PySem PySem.W PyProof.Rows
set_option maxRecDepth 100000 in
set_option maxHeartbeats 0 in
theorem PySem.Challenge.cw_callorder_k06_whole_kept_by_a_lock_holds : PySem.Challenge.rw_callorder_k06_whole_kept_by_a_lock.Holds := by
  w_on; o_law
  refine holds_open (q := HD.q0) (loose := HD.loose0) (Xt := HD.Xt0) (XP := XL HD.q0 []) (Yf := Hook.obs HD.hk) (Ya := Hook.val HD.hk) (YP := Hook.says HD.hk) HD.left0 (Hook.of HD.hk) (Hook.keeps HD.hk) (fun s e => xl_of s (Bool.and_eq_true_iff.mp e).1) XL.keeps (by rfl) (by rfl) (by rfl) (fun s e => recFacts_of (Bool.and_eq_true_iff.mp e).2) (by rfl) (by first | assumption | decide +kernel) (by decide +kernel) ⟨rfl, rfl, rfl, rfl, rfl, by decide +kernel⟩ ?hw ?hc
  (case hw => w_witness2)
  k_fill
  refine My.walk (l := PySem.Challenge.rw_callorder_k06_whole_kept_by_a_lock) rfl rfl (fun w h Y => PySem.W.kIn_of Y) ?rec ?F
  case rec => kernel_rfl
  case F =>
    intro w mg fa h KX G hmg
    have T := My.tp_mk (P := PySem.Challenge.rw_callorder_k06_whole_kept_by_a_lock.prog) (w := w) KX G (st := 52) (pt := 54) (r := 53) (its := [(("row", 247), ("put", 248), 55, .int 3 249), (("row", 250), ("take", 251), 56, .int 2 252), (("row", 253), ("look", 254), 57, .int 2 255), (("number", 256), ("set", 257), 58, .int 3 258), (("number", 259), ("add", 260), 59, .int 3 261), (("number", 262), ("look", 263), 60, .int 2 264)])
      rfl rfl rfl rfl rfl rfl (by decide) (by decide) rfl
      (fun x hx => by
        simp only [List.mem_cons, List.not_mem_nil, or_false] at hx
        rcases hx with rfl | rfl | rfl | rfl | rfl | rfl <;> rfl)
      (.cons ⟨rfl, _, rfl⟩ (.cons ⟨rfl, _, rfl⟩ (.cons ⟨rfl, _, rfl⟩ (.cons ⟨rfl, _, rfl⟩ (.cons ⟨rfl, _, rfl⟩ (.cons ⟨rfl, _, rfl⟩ .nil)))))) (by decide) (by kernel_rfl) (by kernel_rfl) (by kernel_rfl) (by kernel_rfl) (by kernel_rfl)
    refine' My.all_mk KX G hmg T ?a0 ?l0 ?c0 ?k0 ?a1 ?l1 ?c1 ?k1 ?a2 ?l2 ?c2 ?k2 ?a3 ?l3 ?c3 ?k3 ?a4 ?l4 ?c4 ?k4 ?a5 ?l5 ?c5 ?k5 ?a6 ?l6 ?c6 ?k6 ?a7 ?l7 ?c7 ?k7 ?a8 ?l8 ?c8 ?k8 ?a9 ?l9 ?c9 ?k9 ?a10 ?l10 ?c10 ?k10 ?a11 ?l11 ?c11 ?k11 ?a12 ?l12 ?c12 ?k12 ?a13 ?l13 ?c13 ?k13 ?a14 ?l14 ?c14 ?k14 ?a15 ?l15 ?c15 ?k15 ?a16 ?l16 ?c16 ?k16 ?a17 ?l17 ?c17 ?k17 ?a18 ?l18 ?c18 ?k18 ?a19 ?l19 ?c19 ?k19 ?a20 ?l20 ?c20 ?k20 ?a21 ?l21 ?c21 ?k21 ?a22 ?l22 ?c22 ?k22 ?a23 ?l23 ?c23 ?k23 ?a24 ?l24 ?c24 ?k24 ?a25 ?l25 ?c25 ?k25 ?a26 ?l26 ?c26 ?k26 ?a27 ?l27 ?c27 ?k27 ?a28 ?l28 ?c28 ?k28 ?a29 ?l29 ?c29 ?k29 ?a30 ?l30 ?c30 ?k30 ?a31 ?l31 ?c31 ?k31 ?hCP ?z_any ?z_bool ?z_enumerate ?z_int ?z_isinstance ?z_len ?z_list ?z_min ?z_range ?z_sorted ?z_str ?z_tuple
    (case a0 => exact rfl)
    (case l0 => exact rfl)
    (case c0 => exact rfl)
    (case k0 => exact rfl)
    (case a1 => exact rfl)
    (case l1 => exact rfl)
    (case c1 => exact rfl)
    (case k1 => exact rfl)
    (case a2 => exact rfl)
    (case l2 => exact rfl)
    (case c2 => exact rfl)
    (case k2 => exact rfl)
    (case a3 => exact rfl)
    (case l3 => exact rfl)
    (case c3 => exact rfl)
    (case k3 => exact rfl)
    (case a4 => exact rfl)
    (case l4 => exact rfl)
    (case c4 => exact rfl)
    (case k4 => exact rfl)
    (case a5 => exact rfl)
    (case l5 => exact rfl)
    (case c5 => exact rfl)
    (case k5 => exact rfl)
    (case a6 => exact rfl)
    (case l6 => exact rfl)
    (case c6 => exact rfl)
    (case k6 => exact rfl)
    (case a7 => exact rfl)
    (case l7 => exact rfl)
    (case c7 => exact rfl)
    (case k7 => exact rfl)
    (case a8 => exact rfl)
    (case l8 => exact rfl)
    (case c8 => exact rfl)
    (case k8 => exact rfl)
    (case a9 => exact rfl)
    (case l9 => exact rfl)
    (case c9 => exact rfl)
    (case k9 => exact rfl)
    (case a10 => exact rfl)
    (case l10 => exact rfl)
    (case c10 => exact rfl)
    (case k10 => exact rfl)
    (case a11 => exact rfl)
    (case l11 => exact rfl)
    (case c11 => exact rfl)
    (case k11 => exact rfl)
    (case a12 => exact rfl)
    (case l12 => exact rfl)
    (case c12 => exact rfl)
    (case k12 => exact rfl)
    (case a13 => exact rfl)
    (case l13 => exact rfl)
    (case c13 => exact rfl)
    (case k13 => exact rfl)
    (case a14 => exact rfl)
    (case l14 => exact rfl)
    (case c14 => exact rfl)
    (case k14 => exact rfl)
    (case a15 => exact rfl)
    (case l15 => exact rfl)
    (case c15 => exact rfl)
    (case k15 => exact rfl)
    (case a16 => exact rfl)
    (case l16 => exact rfl)
    (case c16 => exact rfl)
    (case k16 => exact rfl)
    (case a17 => exact rfl)
    (case l17 => exact rfl)
    (case c17 => exact rfl)
    (case k17 => exact rfl)
    (case a18 => exact rfl)
    (case l18 => exact rfl)
    (case c18 => exact rfl)
    (case k18 => exact rfl)
    (case a19 => exact rfl)
    (case l19 => exact rfl)
    (case c19 => exact rfl)
    (case k19 => exact rfl)
    (case a20 => exact rfl)
    (case l20 => exact rfl)
    (case c20 => exact rfl)
    (case k20 => exact rfl)
    (case a21 => exact rfl)
    (case l21 => exact rfl)
    (case c21 => exact rfl)
    (case k21 => exact rfl)
    (case a22 => exact rfl)
    (case l22 => exact rfl)
    (case c22 => exact rfl)
    (case k22 => exact rfl)
    (case a23 => exact rfl)
    (case l23 => exact rfl)
    (case c23 => exact rfl)
    (case k23 => exact rfl)
    (case a24 => exact rfl)
    (case l24 => exact rfl)
    (case c24 => exact rfl)
    (case k24 => exact rfl)
    (case a25 => exact rfl)
    (case l25 => exact rfl)
    (case c25 => exact rfl)
    (case k25 => exact rfl)
    (case a26 => exact rfl)
    (case l26 => exact rfl)
    (case c26 => exact rfl)
    (case k26 => exact rfl)
    (case a27 => exact rfl)
    (case l27 => exact rfl)
    (case c27 => exact rfl)
    (case k27 => exact rfl)
    (case a28 => exact rfl)
    (case l28 => exact rfl)
    (case c28 => exact rfl)
    (case k28 => exact rfl)
    (case a29 => exact rfl)
    (case l29 => exact rfl)
    (case c29 => exact rfl)
    (case k29 => exact rfl)
    (case a30 => exact rfl)
    (case l30 => exact rfl)
    (case c30 => exact rfl)
    (case k30 => exact rfl)
    (case a31 => exact rfl)
    (case l31 => exact rfl)
    (case c31 => exact rfl)
    (case k31 => exact rfl)
    (case hCP => kernel_rfl)
    (case z_any => exact rfl)
    (case z_bool => exact rfl)
    (case z_enumerate => exact rfl)
    (case z_int => exact rfl)
    (case z_isinstance => exact rfl)
    (case z_len => exact rfl)
    (case z_list => exact rfl)
    (case z_min => exact rfl)
    (case z_range => exact rfl)
    (case z_sorted => exact rfl)
    (case z_str => exact rfl)
    (case z_tuple => exact rfl)

