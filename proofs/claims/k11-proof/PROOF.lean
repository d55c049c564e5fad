import PyProof.Rows.All
import Wide.All
import OpenK.AllK
import Wide.FinOn
import Lean
import PyProof.EqAt
import PyProof.EqKinds
import PyProof.TupleCall
import KE.KLam
import KE.KNestM
import KE.KMinKey
import Open.Tops
import PySem.Challenge.RW_callorder_k11_refused
set_option Elab.async false
set_option linter.all false
set_option maxRecDepth 100000
namespace L2
open PySem PySem.Spec PyProof.Rows
abbrev Key := Sum Int Str
def zeh : Key -> Value -> Bool
  | .inl k, v => Value.isInt k v
  | .inr x, v => Value.isStrOf x v
def znL (w : World) : Key -> Int
  | .inl k => hashInt k
  | .inr x => hashStr w x
theorem zaL : ∀ {k : Key} {v : Value}, zeh k v = true -> (∃ i t, k = Sum.inl i /\ v = Value.int i t) \/ (∃ x t, k = Sum.inr x /\ v = Value.str x t)
  | .inl i, v, h => by
    obtain ⟨t, e⟩ := Value.isInt_shape (k := i) (v := v) h; exact .inl ⟨i, t, rfl, e⟩
  | .inr x, v, h => by
    obtain ⟨t, e⟩ := Value.isStrOf_shape (x := x) (v := v) h; exact .inr ⟨x, t, rfl, e⟩
theorem zil (i : Int) (t : Tok) : zeh (.inl i) (.int i t) = true := by simp [zeh, Value.isInt]
theorem zb9 (x : Str) (t : Tok) : zeh (.inr x) (.str x t) = true := by simp [zeh, Value.isStrOf]
theorem zlR (a b : Int) : decide ((Sum.inl a : Key) = Sum.inl b) = (a == b) := by
  by_cases e : a = b
  . subst e; simp
  . have h : ¬ (Sum.inl a : Key) = Sum.inl b := fun q => e (Sum.inl.inj q); rw [decide_eq_false h]; exact (beq_eq_false_iff_ne.mpr e).symm
theorem zlr (a b : Str) : decide ((Sum.inr a : Key) = Sum.inr b) = decide (a = b) := by
  by_cases e : a = b
  . subst e; simp
  . have h : ¬ (Sum.inr a : Key) = Sum.inr b := fun q => e (Sum.inr.inj q); rw [decide_eq_false h, decide_eq_false e]
theorem zle (a : Int) (b : Str) : decide ((Sum.inl a : Key) = Sum.inr b) = false := decide_eq_false (fun q => nomatch q)
theorem zli (a : Str) (b : Int) : decide ((Sum.inr a : Key) = Sum.inl b) = false := decide_eq_false (fun q => nomatch q)
def zaE (prog : Program) (w : World) : PySem.KeyKind prog w Key where
  is := zeh
  hash := znL w
  inj := fun v a b ha hb => by
    rcases zaL ha with ⟨i, t, rfl, rfl⟩ | ⟨x, t, rfl, rfl⟩
    . rcases zaL hb with ⟨j, u, rfl, e⟩ | ⟨y, u, rfl, e⟩
      . injection e with e1 _; rw [e1]
      . exact nomatch e
    . rcases zaL hb with ⟨j, u, rfl, e⟩ | ⟨y, u, rfl, e⟩
      . exact nomatch e
      . injection e with e1 _; rw [e1]
  byValue := fun k v h => by
    rcases zaL h with ⟨i, t, rfl, rfl⟩ | ⟨x, t, rfl, rfl⟩ <;> rfl
  pyHash := fun hv h => by
    rcases zaL hv with ⟨i, t, rfl, rfl⟩ | ⟨x, t, rfl, rfl⟩
    . exact wpAny_pyHash_int h
    . exact wpAny_pyHash_str h
  eqBool := fun hu hv h => by
    rcases zaL hu with ⟨i, t, rfl, rfl⟩ | ⟨x, t, rfl, rfl⟩
    . rcases zaL hv with ⟨j, u, rfl, rfl⟩ | ⟨y, u, rfl, rfl⟩
      . rw [zlR] at h; exact wpAny_eqBool_int h
      . rw [zle] at h; exact SeqAt.EqAt.int_str i t y u _ _ _ _ h
    . rcases zaL hv with ⟨j, u, rfl, rfl⟩ | ⟨y, u, rfl, rfl⟩
      . rw [zli] at h; exact SeqAt.EqAt.str_int x t j u _ _ _ _ h
      . rw [zlr] at h; exact wpAny_eqBool_str h
  «strs» := fun k x t v h => by
    rcases zaL h with ⟨i, u, rfl, e⟩ | ⟨y, u, rfl, e⟩
    . exact nomatch e
    . injection e with e1 _
      subst e1
      cases v <;> rfl
theorem zgW (prog : Program) (w : World) (k : Key) (v : Value) : (zaE prog w).is k v = zeh k v := rfl
theorem zf5 (prog : Program) (w : World) (i : Int) (t : Tok) : (zaE prog w).is (.inl i) (.int i t) = true := zil i t
theorem zgM (prog : Program) (w : World) (x : Str) (t : Tok) : (zaE prog w).is (.inr x) (.str x t) = true := zb9 x t
end L2
namespace L2
open PySem PySem.Spec PyProof.Rows
inductive V where
  | non | bl (b : Bool) | int (i : Int) | str (x : Str) | byt (b : Array UInt8) | flt (b : UInt64) | ref (a : Addr) | ty (n : String)
  deriving DecidableEq
def RelV : V -> Value -> Prop
  | .non, u => u = Value.none
  | .bl b, u => u = Value.bool b
  | .int i, u => ∃ t, u = Value.int i t
  | .str x, u => ∃ t, u = Value.str x t
  | .byt b, u => ∃ t, u = Value.bytes b t
  | .flt b, u => ∃ t, u = Value.float b t
  | .ref a, u => u = Value.ref a
  | .ty n, u => u = Value.type n
abbrev Vals : List V -> List Value -> Prop := Paired RelV
theorem Vals.length {xs : List V} {us : List Value} (r : Vals xs us) : xs.length = us.length := Paired.length r
theorem Vals.get : ∀ {xs : List V} {us : List Value} {i : Nat} {x : V}, Vals xs us -> xs[i]? = some x -> ∃ u, us[i]? = some u /\ RelV x u
  | _, _, _, _, .nil, e => by simp at e
  | _, _, 0, _, .cons r _, e => by simp at e; subst e; exact ⟨_, rfl, r⟩
  | _, _, i + 1, x, .cons _ t, e => by
    obtain ⟨u, h1, h2⟩ := Vals.get (i := i) (x := x) t (by simpa using e)
    exact ⟨u, by simpa using h1, h2⟩
theorem Vals.set {x : V} {u : Value} (r : RelV x u) : ∀ {xs : List V} {us : List Value} (i : Nat), Vals xs us -> Vals (xs.set i x) (us.set i u)
  | _, _, _, .nil => .nil
  | _, _, 0, .cons _ t => .cons r t
  | _, _, i + 1, .cons q t => .cons q (Vals.set r i t)
theorem Vals.append : ∀ {xs ys : List V} {us ws : List Value}, Vals xs us -> Vals ys ws -> Vals (xs ++ ys) (us ++ ws)
  | _, _, _, _, .nil, s => s
  | _, _, _, _, .cons r t, s => .cons r (Vals.append t s)
theorem Vals.take : ∀ {xs : List V} {us : List Value} (n : Nat), Vals xs us -> Vals (xs.take n) (us.take n)
  | _, _, 0, _ => .nil
  | _, _, _ + 1, .nil => .nil
  | _, _, n + 1, .cons r t => .cons r (Vals.take n t)
theorem Vals.drop : ∀ {xs : List V} {us : List Value} (n : Nat), Vals xs us -> Vals (xs.drop n) (us.drop n)
  | _, _, 0, r => r
  | _, _, _ + 1, .nil => .nil
  | _, _, n + 1, .cons _ t => Vals.drop n t
def RelO : Option V -> Option Value -> Prop
  | some v, some u => RelV v u
  | none, none => True
  | _, _ => False
def KV {κ : Type} : List (κ × V) -> List (κ × Value) -> Prop := Paired fun (p : κ × V) (q : κ × Value) => p.1 = q.1 /\ RelV p.2 q.2
def kV : Key -> V
  | .inl i => .int i
  | .inr x => .str x
inductive HO where
  /-- a list -/
  | lst (xs : List V)
  /-- a tuple (never changes) -/
  | tup (xs : List V)
  /-- a dict whose keys are ints and texts; one whose keys are tuples of ints and texts (the empty one is both) -/
  | dK (kvs : List (Key × V)) | dT (kvs : List (List Key × V))
  /-- a set of ints: its members, its size -/
  | set (S : Int -> Bool) (n : Nat)
  /-- an instance of the class at C, its dict at dx, its attributes -/
  | ins (C dx : Addr) (fs : List (Str × V))
  /-- the dict of the instance at x -/
  | own (x : Addr)
  /-- the dict of an exception -/
  | xd (fs : List (Str × V))
  /-- a bound method, f of x -/
  | met (f x : Addr)
  /-- a range object lo, lo + 1, .. below hi -/
  | rng (lo hi : Int)
  /-- a thing that is known to the object (the script; a dict while a loop walks it): read, never written while it is so -/
  | frz (o : Obj) (u : HO)
  /-- a code object's table -/
  | tbl (ps : Array Value)
  /-- any other thing, by what is true of its one object (a def of one's own: SetO a S n := HO.ext fun h => ..) -/
  | ext (φ : Heap -> Prop)
abbrev Hp := Addr -> Option HO
def upd (H : Hp) (a : Addr) (o : HO) : Hp := fun b => if b = a then some o else H b
theorem zab {H : Hp} {a : Addr} {o : HO} : upd H a o a = some o := by unfold upd; rw [if_pos rfl]
theorem zah {H : Hp} {a b : Addr} {o : HO} (h : b ≠ a) : upd H a o b = H b := by unfold upd; rw [if_neg h]
theorem zhV {H : Hp} {a : Addr} {o u : HO} : upd (upd H a o) a u = upd H a u := by
  funext b; unfold upd; split <;> rfl
theorem zbx {H : Hp} {a b : Addr} {o u : HO} (h : H a = some o) (h' : H b = some u) (d : o ≠ u) : a ≠ b := by
  intro e; subst e; rw [h] at h'; exact d (Option.some.inj h')
theorem zaq {H : Hp} {a b : Addr} {o : HO} (h : H a = some o) (h' : H b = none) : a ≠ b := by
  intro e; subst e; rw [h] at h'; cases h'
section
variable (P : Program) (w : World)
def ObjOk (H : Hp) (h : Heap) (a : Addr) : HO -> Prop
  | .lst xs => xs.length <= sizeLine /\ ∃ (its : List Value) (n : Nat), Vals xs its /\ h.get? a = some { cls := .type "list", data := .seq its.toArray n }
  | .tup xs => xs.length <= sizeLine /\ ∃ its : List Value, Vals xs its /\ IsTup h a its.toArray
  | .dK kvs => kvs.length <= sizeLine /\ (a == sysModules) = false /\ ∃ vs, KV kvs vs /\ h.DictOf (zaE P w) a vs
  | .dT kvs => kvs.length <= sizeLine /\ (a == sysModules) = false /\ ∃ xs : List (List Key × Addr × Value),
      Paired (fun (p : List Key × V) (q : List Key × Addr × Value) => p.1 = q.1 /\ H q.2.1 = some (.tup (p.1.map kV)) /\ RelV p.2 q.2.2) kvs xs ∧
      ∃ o es ep, h.get? a = some o /\ o.ExactDict /\ o.data = .dict es ep /\ es.toList = xs.map (entryOfKey (tupleKind (zaE P w))) /\ (xs.map (·.1)).Nodup
  | .set S n => h.SetOf (intKind P w) a S n
  | .ins C dx fs => H dx = some (.own a) /\ fs.length <= 1000 /\ dx ≠ a /\ h.get? a = some (PySem.W.instObj C dx) ∧
      ∃ mA, h.Ns1 dx mA /\ (∀ f, RelO (fs.lookup f) (mA f)) /\ PySem.Within mA (fs.map (·.1))
  | .own _ => ∃ o, h.get? a = some o
  | .xd fs => ∃ mA, h.Ns1 a mA /\ ∀ f, RelO (fs.lookup f) (mA f)
  | .rng lo hi => ∃ t u v, h.get? a = some { cls := .type "range", data := .fields #[.int lo t, .int hi u, .int 1 v] }
  | .frz o u => h.get? a = some o /\ ObjOk H h a u
  | .tbl ps => h.get? a = some { cls := .none, data := .fields ps }
  | .met f x => h.get? a = some (PySem.W.methodObj (.ref f) (.ref x))
  | .ext φ => φ h /\ (∃ o, h.get? a = some o) /\ ∀ h1 h2 : Heap, φ h1 -> (∀ o, h1.get? a = some o -> h2.get? a = some o) -> φ h2
def HOk (H : Hp) (h : Heap) : Prop := ∀ a o, H a = some o -> ObjOk P w H h a o
end
section
variable {P : Program} {w : World} {H H' : Hp} {h h' : Heap} {a : Addr} {o : HO}
theorem ObjOk.lt (x : ObjOk P w H h a o) : a < h.objs.size := by
  cases o with
  | lst xs => obtain ⟨_, _, _, _, e⟩ := x; exact Heap.lt_size e
  | tup xs => obtain ⟨_, _, _, p⟩ := x; exact p.lt
  | dK kvs => obtain ⟨_, _, _, _, o, _, _, e, _⟩ := x; exact Heap.lt_size e
  | dT kvs => obtain ⟨_, _, _, _, o, _, _, e, _⟩ := x; exact Heap.lt_size e
  | set S n => obtain ⟨o, _, _, _, e, _⟩ := x; exact Heap.lt_size e
  | ins C dx fs => obtain ⟨_, _, _, e, _⟩ := x; exact Heap.lt_size e
  | own y => obtain ⟨_, e⟩ := x; exact Heap.lt_size e
  | xd fs => obtain ⟨_, ⟨_, _, _, e, _⟩, _⟩ := x; exact Heap.lt_size e
  | rng lo hi => obtain ⟨_, _, _, e⟩ := x; exact Heap.lt_size e
  | frz ob u => obtain ⟨e, _⟩ := x; exact Heap.lt_size e
  | tbl ps => exact Heap.lt_size (show h.get? a = some _ from x)
  | met f y => exact Heap.lt_size (show h.get? a = some _ from x)
  | ext φ => obtain ⟨_, ⟨_, e⟩, _⟩ := x; exact Heap.lt_size e
theorem Paired.mapP {α β : Type} {F G : α -> β -> Prop} : ∀ {l₁ : List α} {l₂ : List β}, Paired F l₁ l₂ -> (∀ a b, F a b -> G a b) -> Paired G l₁ l₂
  | _, _, .nil, _ => .nil
  | _, _, .cons r t, f => .cons (f _ _ r) (Paired.mapP t f)
theorem Paired.imp' {α β : Type} {F G : α -> β -> Prop} (f : ∀ a b, F a b -> G a b) {l₁ : List α} {l₂ : List β} (r : Paired F l₁ l₂) : Paired G l₁ l₂ := Paired.mapP r f
theorem ObjOk.stay (x : ObjOk P w H h a o) (k : ∀ b u, (b = a \/ H b = some (.own a)) -> h.get? b = some u -> h'.get? b = some u)
    (ho : ∀ b, H b = some (.own a) -> H' b = some (.own a)) (ht : ∀ b xs, H b = some (.tup xs) -> H' b = some (.tup xs)) : ObjOk P w H' h' a o := by
  induction o with
  | lst xs => obtain ⟨z, its, n, r, e⟩ := x; exact ⟨z, its, n, r, k _ _ (.inl rfl) e⟩
  | tup xs => obtain ⟨z, its, r, ob, e, c⟩ := x; exact ⟨z, its, r, ob, k _ _ (.inl rfl) e, c⟩
  | dK kvs => obtain ⟨z, y, vs, r, ob, es, ep, e, c⟩ := x; exact ⟨z, y, vs, r, ob, es, ep, k _ _ (.inl rfl) e, c⟩
  | dT kvs =>
    obtain ⟨z, y, xs, r, ob, es, ep, e, c⟩ := x; exact ⟨z, y, xs, Paired.mapP r fun p q z => ⟨z.1, ht _ _ z.2.1, z.2.2⟩, ob, es, ep, k _ _ (.inl rfl) e, c⟩
  | set S n => obtain ⟨ob, es, ep, t, e, c⟩ := x; exact ⟨ob, es, ep, t, k _ _ (.inl rfl) e, c⟩
  | ins C dx fs =>
    obtain ⟨d, z, ne, e, mA, ⟨od, es, ep, e2, c⟩, r⟩ := x; exact ⟨ho _ d, z, ne, k _ _ (.inl rfl) e, mA, ⟨od, es, ep, k _ _ (.inr d) e2, c⟩, r⟩
  | own y => obtain ⟨ob, e⟩ := x; exact ⟨ob, k _ _ (.inl rfl) e⟩
  | xd fs => obtain ⟨mA, ⟨od, es, ep, e, c⟩, r⟩ := x; exact ⟨mA, ⟨od, es, ep, k _ _ (.inl rfl) e, c⟩, r⟩
  | rng lo hi => obtain ⟨t, u, v, e⟩ := x; exact ⟨t, u, v, k _ _ (.inl rfl) e⟩
  | frz ob u ih => obtain ⟨e, q⟩ := x; exact ⟨k _ _ (.inl rfl) e, ih q⟩
  | tbl ps =>
    have e : h.get? a = some { cls := .none, data := .fields ps } := x; show h'.get? a = some { cls := .none, data := .fields ps }; exact k a _ (.inl rfl) e
  | met f y =>
    have e : h.get? a = some (PySem.W.methodObj (.ref f) (.ref y)) := x; show h'.get? a = some (PySem.W.methodObj (.ref f) (.ref y)); exact k a _ (.inl rfl) e
  | ext φ => obtain ⟨p, ⟨o, e⟩, st⟩ := x; exact ⟨st _ _ p fun o q => k _ _ (.inl rfl) q, ⟨o, k _ _ (.inl rfl) e⟩, st⟩
theorem HOk.lt (x : HOk P w H h) (e : H a = some o) : a < h.objs.size := (x a o e).lt
theorem HOk.fresh (x : HOk P w H h) (e : h.objs.size <= a) : H a = none := by
  cases q : H a with
  | none => rfl
  | some u => exact absurd (Nat.lt_of_lt_of_le (x.lt q) e) (Nat.lt_irrefl _)
theorem HOk.kept (x : HOk P w H h) (k : ∀ b u, h.get? b = some u -> h'.get? b = some u) : HOk P w H h' := fun a o e =>
  (x a o e).stay (fun b u _ q => k b u q) (fun _ q => q) fun _ _ q => q
theorem HOk.laid (x : HOk P w H h) (k : ∀ b u, h.get? b = some u -> h'.get? b = some u) (hp : h.objs.size <= a) (new : ObjOk P w (upd H a o) h' a o) : HOk P w (upd H a o) h' := fun b u e => by
  have hn := x.fresh hp
  by_cases hb : b = a
  . subst hb; rw [zab] at e; cases e; exact new
  . rw [zah hb] at e; exact (x b u e).stay (fun c v _ q => k c v q) (fun c q => by rw [zah (zaq q hn)]; exact q) fun c xs q => by rw [zah (zaq q hn)]; exact q
end
def Rd (H : Hp) (a : Addr) (u : HO) : Prop := H a = some u \/ ∃ o, H a = some (.frz o u)
theorem Rd.ok {P : Program} {w : World} {H : Hp} {h : Heap} {a : Addr} {u : HO} (r : Rd H a u) (x : HOk P w H h) : ObjOk P w H h a u := by
  rcases r with r | ⟨o, r⟩
  . exact x a u r
  . obtain ⟨_, q⟩ := x a _ r; exact q
def Mut : Option HO -> Prop
  | some (.lst _) => True
  | some (.dK _) => True
  | some (.dT _) => True
  | some (.set _ _) => True
  | some (.ins _ _ _) => True
  | some (.ext _) => True
  | _ => False
section
variable {P : Program} {w : World} {H : Hp} {h h' : Heap} {x e : Addr} {o' : HO}
theorem HOk.write (ok : HOk P w H h) (mu : Mut (H x)) (he : e = x \/ H e = some (.own x)) (k : ∀ b u, b ≠ e -> h.get? b = some u -> h'.get? b = some u) (heo : ∃ u, h'.get? e = some u)
    (new : ObjOk P w (upd H x o') h' x o') : HOk P w (upd H x o') h' := fun b u q => by
  have nown : ∀ c y, H c = some (.own y) -> c ≠ x := fun c y r z => by subst z; rw [r] at mu; exact mu
  have ntup : ∀ c xs, H c = some (.tup xs) -> c ≠ x := fun c xs r z => by subst z; rw [r] at mu; exact mu
  by_cases hb : b = x
  . subst hb; rw [zab] at q; cases q; exact new
  . rw [zah hb] at q
    by_cases hbe : b = e
    . have q' : H b = some (.own x) := by
        rcases he with z | z
        . exact absurd (hbe.trans z) hb
        . rw [hbe]; exact z
      rw [q] at q'; cases q'; obtain ⟨v, hv⟩ := heo; exact ⟨v, by rw [hbe]; exact hv⟩
    . refine (ok b u q).stay (fun c v hc r => k c v ?_ r) (fun c r => by rw [zah (nown c b r)]; exact r) fun c xs r => by rw [zah (ntup c xs r)]; exact r
      rcases hc with rfl | hc
      . exact hbe
      . rintro rfl
        rcases he with z | z
        . exact nown c b hc z
        . rw [hc] at z; cases z; exact hb rfl
end
structure Un (fs ex : List Addr) (H H' : Hp) (h h' : Heap) : Prop where
  keep : ∀ b o, h.get? b = some o -> H b = none -> b ∉ fs -> b ∉ ex -> h'.get? b = some o
  slot : ∀ b o, h.get? b = some o -> H b = none -> b ∈ fs -> b ∉ ex -> ∃ sl, h'.get? b = some { o with slots := sl }
  free : ∀ b o, h.get? b = some o -> H b = none -> b ∉ ex -> H' b = none
  there : ∀ b o, h.get? b = some o -> b ∉ ex -> ∃ o', h'.get? b = some o'
  tups : ∀ b xs, H b = some (.tup xs) -> H' b = some (.tup xs)
  frzs : ∀ b o u, H b = some (.frz o u) -> H' b = some (.frz o u)
  tbls : ∀ b ps, H b = some (.tbl ps) -> ∃ more, H' b = some (.tbl (ps ++ more))
section
variable {fs fs' ex ex' : List Addr} {H H1 H2 : Hp} {h h1 h2 h' : Heap} {a x e : Addr} {o : HO}
theorem Un.any (u : Un fs ex H H1 h h1) {b : Addr} {ob : Obj} (q : h.get? b = some ob) (n : H b = none) (hx : b ∉ ex) : ∃ sl, h1.get? b = some { ob with slots := sl } := by
  by_cases hb : b ∈ fs
  . exact u.slot b ob q n hb hx
  . exact ⟨ob.slots, u.keep b ob q n hb hx⟩
theorem Un.kept (k : ∀ b u, h.get? b = some u -> h'.get? b = some u) : Un fs ex H H h h' :=
  ⟨fun b ob q _ _ _ => k b ob q, fun b ob q _ _ _ => ⟨ob.slots, k b ob q⟩, fun _ _ _ n _ => n, fun b ob q _ => ⟨ob, k b ob q⟩, fun _ _ q => q, fun _ _ _ q => q, fun _ ps q => ⟨#[], by rw [q]; simp⟩⟩
theorem Un.refl : Un fs ex H H h h := Un.kept fun _ _ q => q
theorem Un.laid (k : ∀ b u, h.get? b = some u -> h'.get? b = some u) (hp : h.objs.size <= a) (hn : H a = none) : Un fs ex H (upd H a o) h h' where
  keep := fun b u q _ _ _ => k b u q
  slot := fun b u q _ _ _ => ⟨u.slots, k b u q⟩
  free := fun b u q n _ => by rw [zah (Nat.ne_of_lt (Nat.lt_of_lt_of_le (Heap.lt_size q) hp))]; exact n
  there := fun b u q _ => ⟨u, k b u q⟩
  tups := fun b xs q => by rw [zah (zaq q hn)]; exact q
  frzs := fun b u xs q => by rw [zah (zaq q hn)]; exact q
  tbls := fun b ps q => ⟨#[], by rw [zah (zaq q hn), q]; simp⟩
theorem Un.write (mu : Mut (H x)) (he : e = x \/ H e = some (.own x)) (k : ∀ b u, b ≠ e -> h.get? b = some u -> h'.get? b = some u) (heo : ∃ u, h'.get? e = some u) : Un fs ex H (upd H x o) h h' := by
  have hx : ∀ b, H b = none -> b ≠ x := fun b n z => by subst z; rw [n] at mu; exact mu
  have hb : ∀ b, H b = none -> b ≠ e := fun b n z => by
    subst z
    rcases he with r | r
    . exact hx b n r
    . rw [n] at r; cases r
  have hm : ∀ b u, H b = some u -> ¬ Mut (some u) -> b ≠ x := fun b u q nm z => by subst z; rw [q] at mu; exact nm mu
  refine ⟨fun b u q n _ _ => k b u (hb b n) q, fun b u q n _ _ => ⟨u.slots, k b u (hb b n) q⟩, fun b u q n _ => by rw [zah (hx b n)]; exact n, fun b u q _ => ?_,
    fun b xs q => by rw [zah (hm b _ q fun z => z)]; exact q, fun b u xs q => by rw [zah (hm b _ q fun z => z)]; exact q, fun b ps q => ⟨#[], by rw [zah (hm b _ q fun z => z), q]; simp⟩⟩
  by_cases hbe : b = e
  . subst hbe; exact heo
  . exact ⟨u, k b u hbe q⟩
end
def trk (h : Heap) (H : Hp) : List Addr := (List.range h.objs.size).filter fun a => (H a).isSome
def zfQ (h : Heap) (H : Hp) : Heap := PySem.W.hideAll h (trk h H)
theorem zix (h : Heap) (H : Hp) : (zfQ h H).objs.size = h.objs.size := PySem.W.hideAll_size _ _
theorem zjW {h : Heap} {H : Hp} {b : Addr} {o : Obj} (e : h.get? b = some o) (n : H b = none) : (zfQ h H).get? b = some o :=
  PySem.W.hideAll_get _ e fun hm => by
    have q : (H b).isSome = true := (List.mem_filter.mp hm).2; rw [n] at q; simp at q
theorem zki {h : Heap} {H : Hp} {b : Addr} {o : Obj} (e : (zfQ h H).get? b = some o) : h.get? b = some o /\ H b = none := by
  have e' : h.get? b = some o := PySem.W.of_hideAll (trk h H) e; refine ⟨e', ?_⟩
  cases q : H b with
  | none => rfl
  | some x =>
    have hm : b ∈ trk h H := List.mem_filter.mpr ⟨List.mem_range.mpr (Heap.lt_size e'), by simp [q]⟩
    have z : (zfQ h H).get? b = none := PySem.W.hideAll_none (trk h H) hm; rw [z] at e; cases e
end L2
namespace L2
open PySem PySem.Spec PyProof.Rows
structure Mod (K : PySem.W.Frag) (mg : Str -> Option Value) (base : Heap) : Prop where
  kin : K.In base
  glob : base.Ns mainGlobals mg
  blt : ∃ mb, base.Ns builtinsNs mb /\ ∀ x : Str, x ≠ "__name__" -> mb x = bootBuiltins x
  nolimit : base.NoLimit
structure Cx where
  prog : Program
  w : World
  K : PySem.W.Frag
  mg : Str -> Option Value
  base : Heap
  A : Around
  N : List Str
  s₀ : Shared
  H₀ : Hp
  env : Env
  outer : List Env
  stack : List Env
  ex : List Addr
  fn : Str -> Bool
  calm : Bool
  pn : List (Addr × Obj)
  xe : Value -> Shared -> Prop
def frs (l : List Env) : List Addr := l.filterMap (·.frame)
abbrev Cx.fs (X : Cx) : List Addr := frs X.outer
def Vis (sc : Scope) (x : Str) : Prop := sc.names.lookup x = some .local \/ sc.names.lookup x = some .cell \/ sc.names.lookup x = some .free
def Loc (sc : Scope) (x : Str) : Prop := sc.names.lookup x = some .local \/ sc.names.lookup x = some .cell
def znw (env : Env) (h : Heap) (m : Str -> Option Value) (x : Str) (u : Value) : Prop :=
  (env.kindOf x = some .local /\ m x = some u) \/ ((env.kindOf x = some .cell \/ env.kindOf x = some .free) /\ ∃ c, env.cells.lookup x = some c /\ h.IsCell c (some u))
structure Cx.Ok (X : Cx) : Prop where
  mod : Mod X.K X.mg X.base
  kind : X.env.scope.kind = .function
  glob : X.env.globals = mainGlobals
  blt : X.env.builtins = builtinsNs
  above : X.s₀.heap.objs.size <= X.env.locals
  inj : ∀ x y c, X.env.cells.lookup x = some c -> X.env.cells.lookup y = some c -> x = y
  has : ∀ x, (X.env.kindOf x = some .cell \/ X.env.kindOf x = some .free) -> ∃ c, X.env.cells.lookup x = some c
  cab : ∀ x c, X.fn x = true -> X.env.cells.lookup x = some c -> X.s₀.heap.objs.size <= c
  hd : X.calm = true -> X.A.handled = none
  frames : X.A.frames = some X.stack
  stk : X.stack = X.outer \/ (X.stack = X.env :: X.outer /\ X.env.frame = some X.env.locals)
  exf : ∀ b ∈ X.ex, b ≠ X.env.locals /\ ∀ x c, X.env.cells.lookup x = some c -> c ≠ b
  bs : ∀ b o, X.base.get? b = some o -> X.s₀.heap.get? b = some o /\ X.H₀ b = none
  bsz : X.base.objs.size <= X.s₀.heap.objs.size
  noex : ∀ b o, X.base.get? b = some o -> b ∉ X.ex
  exfs : ∀ b ∈ X.ex, b ∉ X.fs
  funs : X.s₀.heap.FunFrames X.base X.outer
  frf : ∀ b ∈ X.fs, X.H₀ b = none
structure Inv (X : Cx) (pins : List (Addr × Obj)) (σ : List (Option V)) (H : Hp) (s : Shared) : Prop where
  ok : X.Ok
  os : s.os = X.s₀.os
  bare : AllBare s.gens
  base : Un X.fs X.ex X.H₀ H X.s₀.heap s.heap
  loc : ∃ m, s.heap.Ns X.env.locals m /\ ∀ (i : Nat) (x : Str) (v : V), X.N[i]? = some x -> σ[i]? = some (some v) -> Vis X.env.scope x -> ∃ u, RelV v u /\ znw X.env s.heap m x u
  cell : ∀ x c, X.env.cells.lookup x = some c -> ∃ v, s.heap.IsCell c v
  free : H X.env.locals = none
  freeC : ∀ x c, X.env.cells.lookup x = some c -> H c = none
  pin : ∀ p ∈ X.pn ++ pins, s.heap.get? p.1 = some p.2 /\ H p.1 = none /\ p.1 ≠ X.env.locals /\ p.1 ∉ X.fs /\ ∀ v, p.2.data ≠ .cell v
  hok : HOk X.prog X.w H s.heap
  len : σ.length = X.N.length
section
variable {X : Cx} {pins : List (Addr × Obj)} {σ : List (Option V)} {H H' : Hp} {s : Shared} {h' : Heap}
theorem Cx.Ok.nofr (ok : X.Ok) {b : Addr} {o : Obj} (e : X.base.get? b = some o) : b ∉ X.fs := fun hb => by
  have := (ok.funs.mem hb).1; rw [e] at this; cases this
theorem Inv.bs (I : Inv X pins σ H s) : ∀ b o, X.base.get? b = some o -> s.heap.get? b = some o /\ H b = none := fun b o e =>
  ⟨I.base.keep b o (I.ok.bs b o e).1 (I.ok.bs b o e).2 (I.ok.nofr e) (I.ok.noex b o e), I.base.free b o (I.ok.bs b o e).1 (I.ok.bs b o e).2 (I.ok.noex b o e)⟩
theorem Inv.bk (I : Inv X pins σ H s) : ∀ b o, X.base.get? b = some o -> s.heap.get? b = some o := fun b o e => (I.bs b o e).1
theorem Inv.mod (I : Inv X pins σ H s) : Mod X.K X.mg X.base := I.ok.mod
theorem Inv.kIn (I : Inv X pins σ H s) : X.K.In s.heap := I.ok.mod.kin.keeps I.bk
theorem Inv.fr (I : Inv X pins σ H s) : ∃ m, Fr X.base X.env.locals s.heap m :=
  let ⟨m, hn, _⟩ := I.loc
  ⟨m, hn, I.bk, Nat.le_trans I.ok.bsz I.ok.above⟩
theorem Inv.lt (I : Inv X pins σ H s) : X.env.locals < s.heap.objs.size := let ⟨_, hn, _⟩ := I.loc; hn.lt
theorem Inv.sz (I : Inv X pins σ H s) : X.s₀.heap.objs.size <= s.heap.objs.size := Nat.le_trans I.ok.above (Nat.le_of_lt I.lt)
theorem Inv.nofs (I : Inv X pins σ H s) {a : Addr} (h : s.heap.objs.size <= a) : a ∉ X.fs := fun hb => by
  obtain ⟨_, o, ho, _⟩ := I.ok.funs.mem hb; exact absurd (Nat.lt_of_lt_of_le (Heap.lt_size ho) (Nat.le_trans I.sz h)) (Nat.lt_irrefl _)
theorem Inv.cne (I : Inv X pins σ H s) : ∀ x c, X.env.cells.lookup x = some c -> c ≠ X.env.locals := fun x c e z => by
  obtain ⟨v, o, ho, hd⟩ := I.cell x c e; obtain ⟨m, ⟨o', es, ep, ho', hd', _⟩, _⟩ := I.loc; rw [z, ho'] at ho; cases ho; rw [hd'] at hd; cases hd
theorem Inv.funs (I : Inv X pins σ H s) : s.heap.FunFrames X.base X.outer := by
  have all : ∀ (l : List Env), (∀ b ∈ frs l, b ∈ X.fs) -> X.s₀.heap.FunFrames X.base l -> s.heap.FunFrames X.base l := by
    intro l
    induction l with
    | nil => intro _ _; trivial
    | cons env r ih =>
      intro hs hl; obtain ⟨hk, ⟨L, o, hf, hn, ho, hd⟩, hr⟩ := hl; have hL : L ∈ X.fs := hs L (by unfold frs; rw [List.filterMap_cons, hf]; exact List.mem_cons_self)
      obtain ⟨sl, e⟩ := I.base.slot L o ho (I.ok.frf L hL) hL fun z => I.ok.exfs L z hL; exact ⟨hk, ⟨L, _, hf, hn, e, hd⟩, ih (fun b hb => hs b (by unfold frs; rw [List.filterMap_cons, hf]; exact List.mem_cons_of_mem _ hb)) hr⟩
  exact all X.outer (fun _ hb => hb) I.ok.funs
theorem Inv.stack (I : Inv X pins σ H s) : s.heap.FunFrames X.base X.stack := by
  rcases I.ok.stk with e | ⟨e, hf⟩
  . rw [e]; exact I.funs
  . rw [e]; obtain ⟨m, hn, _⟩ := I.loc; refine .cons (by rw [I.ok.kind]; decide) hf hn ?_ I.funs
    exact Heap.get?_none_of_le (Nat.le_trans I.ok.bsz I.ok.above)
theorem Inv.stkSub (I : Inv X pins σ H s) : ∀ b ∈ frs X.stack, b ∈ X.env.locals :: X.fs := fun b hb => by
  rcases I.ok.stk with e | ⟨e, hf⟩
  . rw [e] at hb; exact List.mem_cons_of_mem _ hb
  . rw [e] at hb; unfold frs at hb; rw [List.filterMap_cons, hf] at hb; exact hb
theorem Inv.stkFree (I : Inv X pins σ H s) : ∀ b ∈ frs X.stack, H b = none := fun b hb => by
  rcases List.mem_cons.mp (I.stkSub b hb) with e | hb
  . rw [e]; exact I.free
  . obtain ⟨_, o, ho, _⟩ := I.ok.funs.mem hb; exact I.base.free b o ho (I.ok.frf b hb) fun z => I.ok.exfs b z hb
theorem Inv.step {g' : Array GenState} {t' : Nat} {d' : Drawn} {ch : List Addr} (I : Inv X pins σ H s)
    (hch : ∀ b ∈ ch, (b ∈ X.ex \/ X.s₀.heap.objs.size <= b) /\ b ≠ X.env.locals /\ (∀ x c, X.env.cells.lookup x = some c -> c ≠ b) /\ ∀ p ∈ X.pn ++ pins, p.1 ≠ b)
    (keep : ∀ b o, b ≠ X.env.locals -> b ∉ X.fs -> b ∉ ch -> s.heap.get? b = some o -> H b = none -> h'.get? b = some o)
    (slot : ∀ b o, b ≠ X.env.locals -> b ∈ X.fs -> b ∉ ch -> s.heap.get? b = some o -> H b = none -> ∃ sl, h'.get? b = some { o with slots := sl }) (free : ∀ b o, b ∉ ch -> s.heap.get? b = some o -> H b = none -> H' b = none)
    (there : ∀ b o, b ∉ ch -> s.heap.get? b = some o -> ∃ o', h'.get? b = some o')
    (tups : ∀ b xs, H b = some (.tup xs) -> H' b = some (.tup xs)) (frzs : ∀ b o u, H b = some (.frz o u) -> H' b = some (.frz o u)) (tbls : ∀ b ps, H b = some (.tbl ps) -> ∃ more, H' b = some (.tbl (ps ++ more)))
    (ns : ∀ m, s.heap.Ns X.env.locals m -> h'.Ns X.env.locals m) (hok : HOk X.prog X.w H' h') (hg : AllBare g') :
    Inv X pins σ H' { s with heap := h', gens := g', drawn := d', toks := t' } := by
  have neL : ∀ b o, X.s₀.heap.get? b = some o -> b ≠ X.env.locals := fun b o e => Nat.ne_of_lt (Nat.lt_of_lt_of_le (Heap.lt_size e) I.ok.above)
  have neC : ∀ b o, X.s₀.heap.get? b = some o -> b ∉ X.ex -> b ∉ ch := fun b o e hx hb => by
    rcases (hch b hb).1 with z | z
    . exact hx z
    . exact absurd (Nat.lt_of_lt_of_le (Heap.lt_size e) z) (Nat.lt_irrefl _)
  have cellK : ∀ x c, X.env.cells.lookup x = some c -> ∀ v, s.heap.IsCell c v -> h'.IsCell c v := fun x c e v ⟨o, ho, hd⟩ => by
    have nch : c ∉ ch := fun z => (hch c z).2.2.1 x c e rfl
    by_cases hc : c ∈ X.fs
    . obtain ⟨sl, q⟩ := slot c o (I.cne x c e) hc nch ho (I.freeC x c e); exact ⟨_, q, hd⟩
    . exact ⟨o, keep c o (I.cne x c e) hc nch ho (I.freeC x c e), hd⟩
  refine ⟨I.ok, I.os, hg, ⟨fun b o e n hb hx => ?_, fun b o e n hb hx => ?_, fun b o e n hx => ?_, fun b o e hx => ?_, fun b xs e => tups b xs (I.base.tups b xs e), fun b o xs e => frzs b o xs (I.base.frzs b o xs e), fun b ps e => ?_⟩, ?_, fun x c e => ?_, ?_, fun x c e => ?_, fun p hp => ?_, hok, I.len⟩
  . exact keep b o (neL b o e) hb (neC b o e hx) (I.base.keep b o e n hb hx) (I.base.free b o e n hx)
  . obtain ⟨sl, e1⟩ := I.base.slot b o e n hb hx; obtain ⟨sl', e2⟩ := slot b _ (neL b o e) hb (neC b o e hx) e1 (I.base.free b o e n hx); exact ⟨sl', e2⟩
  . obtain ⟨o', e1⟩ := I.base.there b o e hx; exact free b o' (neC b o e hx) e1 (I.base.free b o e n hx)
  . obtain ⟨o', e1⟩ := I.base.there b o e hx; exact there b o' (neC b o e hx) e1
  . obtain ⟨m1, e1⟩ := I.base.tbls b ps e; obtain ⟨m2, e2⟩ := tbls b _ e1; exact ⟨m1 ++ m2, by rw [e2, Array.append_assoc]⟩
  . obtain ⟨m, hn, hl⟩ := I.loc; refine ⟨m, ns m hn, fun i x v e1 e2 e3 => ?_⟩; obtain ⟨u, r, l⟩ := hl i x v e1 e2 e3; refine ⟨u, r, ?_⟩
    rcases l with l | ⟨k, c, e, z⟩
    . exact .inl l
    . exact .inr ⟨k, c, e, cellK x c e _ z⟩
  . obtain ⟨v, z⟩ := I.cell x c e; exact ⟨v, cellK x c e v z⟩
  . obtain ⟨m, ⟨o, _, _, ho, _⟩, _⟩ := I.loc; exact free _ o (fun z => (hch _ z).2.1 rfl) ho I.free
  . obtain ⟨v, o, ho, hd⟩ := I.cell x c e; exact free c o (fun z => (hch c z).2.2.1 x c e rfl) ho (I.freeC x c e)
  . obtain ⟨e, n, ne, nf, d⟩ := I.pin p hp; have nch : p.1 ∉ ch := fun z => (hch p.1 z).2.2.2 p hp rfl; exact ⟨keep p.1 p.2 ne nf nch e n, free p.1 p.2 nch e n, ne, nf, d⟩
theorem Inv.un {t' : Nat} (I : Inv X pins σ H s) (u : Un X.fs [] H H' s.heap h') (hok : HOk X.prog X.w H' h') : Inv X pins σ H' { s with heap := h', toks := t' } := by
  obtain ⟨m, ⟨o, es, ep, ho, r⟩, _⟩ := id I.loc; obtain ⟨sl, hL⟩ := u.any ho I.free (by simp)
  exact I.step (g' := s.gens) (d' := s.drawn) (ch := []) (fun _ z => nomatch z) (fun b o _ hb _ e n => u.keep b o e n hb (by simp)) (fun b o _ hb _ e n => u.slot b o e n hb (by simp)) (fun b o _ e n => u.free b o e n (by simp)) (fun b o _ e => u.there b o e (by simp)) u.tups u.frzs u.tbls (fun m' hm => by
    obtain ⟨o', es', ep', ho', r'⟩ := hm; rw [ho] at ho'; cases ho'
    exact ⟨_, es', ep', hL, r'⟩) hok I.bare
theorem Inv.call {g' : Array GenState} {t' : Nat} {d' : Drawn} {ch : List Addr} (I : Inv X pins σ H s) (u : Un (frs X.stack) ch H H' s.heap h') (hok : HOk X.prog X.w H' h') (hg : AllBare g')
    (hch : ∀ b ∈ ch, (b ∈ X.ex \/ X.s₀.heap.objs.size <= b) /\ b ≠ X.env.locals /\ (∀ x c, X.env.cells.lookup x = some c -> c ≠ b) /\ ∀ p ∈ X.pn ++ pins, p.1 ≠ b) :
    Inv X pins σ H' { s with heap := h', gens := g', drawn := d', toks := t' } := by
  obtain ⟨m, ⟨o, es, ep, ho, r⟩, _⟩ := id I.loc; obtain ⟨sl, hL⟩ := u.any ho I.free fun z => (hch _ z).2.1 rfl
  exact I.step (ch := ch) hch (fun b o hL hb hc e n => u.keep b o e n (fun z => (List.mem_cons.mp (I.stkSub b z)).elim hL hb) hc) (fun b o _ _ hc e n => u.any e n hc) (fun b o hc e n => u.free b o e n hc) (fun b o hc e => u.there b o e hc) u.tups u.frzs u.tbls (fun m' hm => by
    obtain ⟨o', es', ep', ho', r'⟩ := hm; rw [ho] at ho'; cases ho'
    exact ⟨_, es', ep', hL, r'⟩) hok hg
theorem Inv.turned {t' : Nat} {it : Addr} (I : Inv X pins σ H s) (k : ∀ b o, b ≠ it -> s.heap.get? b = some o -> h'.get? b = some o) (hn : H it = none) (hL : it ≠ X.env.locals)
    (h1 : it ∈ X.ex \/ X.s₀.heap.objs.size <= it) (h2 : ∀ x c, X.env.cells.lookup x = some c -> c ≠ it) (h3 : ∀ p ∈ X.pn ++ pins, p.1 ≠ it) : Inv X pins σ H { s with heap := h', toks := t' } := by
  have nit : ∀ b u, H b = some u -> b ≠ it := fun b u e z => by rw [z, hn] at e; cases e
  refine I.step (g' := s.gens) (d' := s.drawn) (ch := [it]) (fun b hb => ?_) (fun b o _ _ hc e _ => k b o (fun z => hc (by simp [z])) e) (fun b o _ _ hc e _ => ⟨o.slots, k b o (fun z => hc (by simp [z])) e⟩) (fun _ _ _ _ n => n)
    (fun b o hc e => ⟨o, k b o (fun z => hc (by simp [z])) e⟩) (fun _ _ e => e) (fun _ _ _ e => e) (fun b ps e => ⟨#[], by rw [e]; simp⟩) (fun m hm => ?_) (fun b u e => ?_) I.bare
  . have e : b = it := by simpa using hb
    subst e; exact ⟨h1, hL, h2, h3⟩
  . obtain ⟨o, es, ep, ho, r⟩ := hm; exact ⟨o, es, ep, k _ o (Ne.symm hL) ho, r⟩
  . refine (I.hok b u e).stay (fun c v hc q => k c v ?_ q) (fun _ q => q) fun _ _ q => q
    rcases hc with z | z
    . rw [z]; exact nit b u e
    . exact nit c _ z
theorem Inv.tok (I : Inv X pins σ H s) (t : Nat) : Inv X pins σ H { s with toks := t } := I.un (h' := s.heap) (t' := t) Un.refl I.hok
theorem Inv.kept {t' : Nat} (I : Inv X pins σ H s) (k : ∀ b u, s.heap.get? b = some u -> h'.get? b = some u) : Inv X pins σ H { s with heap := h', toks := t' } := I.un (Un.kept k) (I.hok.kept k)
theorem Inv.laid {a : Addr} {o : HO} {t' : Nat} (I : Inv X pins σ H s) (k : ∀ b u, s.heap.get? b = some u -> h'.get? b = some u) (hp : s.heap.objs.size <= a) (new : ObjOk X.prog X.w (upd H a o) h' a o) :
    Inv X pins σ (upd H a o) { s with heap := h', toks := t' } := I.un (Un.laid k hp (I.hok.fresh hp)) (I.hok.laid k hp new)
theorem Inv.write {x e : Addr} {o : HO} {t' : Nat} (I : Inv X pins σ H s) (mu : Mut (H x)) (he : e = x \/ H e = some (.own x)) (k : ∀ b u, b ≠ e -> s.heap.get? b = some u -> h'.get? b = some u) (heo : ∃ u, h'.get? e = some u)
    (new : ObjOk X.prog X.w (upd H x o) h' x o) : Inv X pins σ (upd H x o) { s with heap := h', toks := t' } := I.un (Un.write mu he k heo) (I.hok.write mu he k heo new)
theorem Inv.weak {σ' : List (Option V)} (I : Inv X pins σ H s) (hl : σ'.length = σ.length) (w : ∀ (i : Nat) v, σ'[i]? = some (some v) -> σ[i]? = some (some v)) : Inv X pins σ' H s :=
  ⟨I.ok, I.os, I.bare, I.base, let ⟨m, hn, hl'⟩ := I.loc; ⟨m, hn, fun i x v e1 e2 e3 => hl' i x v e1 (w i v e2) e3⟩, I.cell, I.free, I.freeC, I.pin, I.hok, hl.trans I.len⟩
theorem Inv.pins_of {pins' : List (Addr × Obj)} (I : Inv X pins σ H s) (h : ∀ p ∈ pins', s.heap.get? p.1 = some p.2 /\ H p.1 = none /\ p.1 ≠ X.env.locals /\ p.1 ∉ X.fs /\ ∀ v, p.2.data ≠ .cell v) : Inv X pins' σ H s :=
  ⟨I.ok, I.os, I.bare, I.base, I.loc, I.cell, I.free, I.freeC, fun p hp => (List.mem_append.mp hp).elim (fun z => I.pin p (List.mem_append_left _ z)) (h p), I.hok, I.len⟩
theorem zgG {N : List Str} (hN : N.Nodup) {i j : Nat} {x : Str} (a : N[i]? = some x) (b : N[j]? = some x) : i = j := by
  obtain ⟨h1, e1⟩ := List.getElem?_eq_some_iff.mp a; obtain ⟨h2, e2⟩ := List.getElem?_eq_some_iff.mp b; exact (List.getElem_inj hN).mp (e1.trans e2.symm)
theorem zfm {M : Model} {A : Around} {E : Value -> Shared -> Prop} {i : Nat} {x : Str} {v : V} {u : Value} {Q : Unit -> Shared -> Prop} (I : Inv X pins σ H s) (hN : X.N.Nodup) (hi : X.N[i]? = some x) (hx : Loc X.env.scope x) (r : RelV v u)
    (h : ∀ s', Inv X pins (σ.set i (some v)) H s' -> (∃ a, Heap.SameBut a s.heap s'.heap /\ (a = X.env.locals \/ X.env.cells.lookup x = some a)) -> Q () s') (hf : X.fn x = true \/ X.env.scope.names.lookup x = some .local := by first | exact .inl rfl | exact .inr rfl | assumption) : wpAny M A (storeName X.env x u) Q E s := by
  obtain ⟨m, hn, hl⟩ := id I.loc; have hcls : (X.env.scope.kind == .class || (X.env.scope.kind == .module && X.env.locals != X.env.globals)) = false := by rw [I.ok.kind]; rfl
  have hiσ : i < σ.length := by rw [I.len]; exact (List.getElem?_eq_some_iff.mp hi).1
  have cne := I.cne
  have tracked : ∀ {a : Addr} {h' : Heap}, (∃ o, s.heap.get? a = some o /\ H a = none) -> Heap.SameBut a s.heap h' -> HOk X.prog X.w H h' := fun {a h'} ha hs b ob e => by
    obtain ⟨_, _, hfree⟩ := ha; refine (I.hok b ob e).stay (fun c w' hc q => (hs.2 c ?_).trans q) (fun _ q => q) fun _ _ q => q; rintro rfl
    rcases hc with rfl | hc
    . rw [hfree] at e; cases e
    . rw [hfree] at hc; cases hc
  rcases hx with hk | hk
  . refine wpAny_storeName_local hk hn (fun h' hn' hs => ?_) hcls; obtain ⟨oL, _, _, hoL, _⟩ := id hn; refine h _ ⟨I.ok, I.os, I.bare, ⟨fun b o e n hb hx => ?_, fun b o e n hb hx => ?_, I.base.free, fun b o e hx => ?_, I.base.tups, I.base.frzs, I.base.tbls⟩, ⟨_, hn', fun j y v' e1 e2 e3 => ?_⟩, fun y c e => ?_, I.free, I.freeC, fun p hp => ?_, tracked ⟨oL, hoL, I.free⟩ hs, by simpa using I.len⟩ ⟨_, hs, .inl rfl⟩
    . exact (hs.2 b (Nat.ne_of_lt (Nat.lt_of_lt_of_le (Heap.lt_size e) I.ok.above))).trans (I.base.keep b o e n hb hx)
    . obtain ⟨sl, e1⟩ := I.base.slot b o e n hb hx; exact ⟨sl, (hs.2 b (Nat.ne_of_lt (Nat.lt_of_lt_of_le (Heap.lt_size e) I.ok.above))).trans e1⟩
    . obtain ⟨o', e1⟩ := I.base.there b o e hx; exact ⟨o', (hs.2 b (Nat.ne_of_lt (Nat.lt_of_lt_of_le (Heap.lt_size e) I.ok.above))).trans e1⟩
    . by_cases hj : j = i
      . subst hj; rw [hi] at e1; cases e1; rw [List.getElem?_set_self hiσ] at e2; cases e2; exact ⟨u, r, .inl ⟨hk, by simp⟩⟩
      . rw [List.getElem?_set_ne (Ne.symm hj)] at e2; obtain ⟨u', r', q⟩ := hl j y v' e1 e2 e3; refine ⟨u', r', ?_⟩
        rcases q with ⟨k, e⟩ | ⟨k, c, e, z⟩
        . refine .inl ⟨k, ?_⟩; have : y ≠ x := fun e => hj (zgG hN e1 (e ▸ hi)); simp [this, e]
        . exact .inr ⟨k, c, e, z.sameBut hs (cne y c e)⟩
    . obtain ⟨w', z⟩ := I.cell y c e; exact ⟨w', z.sameBut hs (cne y c e)⟩
    . obtain ⟨e, n, ne, nf, d⟩ := I.pin p hp; exact ⟨(hs.2 p.1 ne).trans e, n, ne, nf, d⟩
  . have hfn : X.fn x = true := by
      rcases hf with z | z
      . exact z
      . rw [z] at hk; cases hk
    obtain ⟨c, hc⟩ := I.ok.has x (.inl hk); obtain ⟨w', z⟩ := I.cell x c hc; refine wpAny_storeName_cell I.ok.kind hk hc z (fun h' hc' hs => ?_); obtain ⟨oc, hoc, hocd⟩ := id z; refine h { s with heap := h' } ⟨I.ok, I.os, I.bare, ⟨fun b o e n hb hx => ?_, fun b o e n hb hx => ?_, I.base.free, fun b o e hx => ?_, I.base.tups, I.base.frzs, I.base.tbls⟩, ⟨m, hn.sameBut hs (Ne.symm (cne x c hc)), fun j y v' e1 e2 e3 => ?_⟩, fun y c' e => ?_, I.free, I.freeC, fun p hp => ?_, tracked ⟨oc, hoc, I.freeC x c hc⟩ hs, by simpa using I.len⟩ ⟨c, hs, .inr hc⟩
    . exact (hs.2 b (Nat.ne_of_lt (Nat.lt_of_lt_of_le (Heap.lt_size e) (I.ok.cab x c hfn hc)))).trans (I.base.keep b o e n hb hx)
    . obtain ⟨sl, e1⟩ := I.base.slot b o e n hb hx; exact ⟨sl, (hs.2 b (Nat.ne_of_lt (Nat.lt_of_lt_of_le (Heap.lt_size e) (I.ok.cab x c hfn hc)))).trans e1⟩
    . obtain ⟨o', e1⟩ := I.base.there b o e hx; exact ⟨o', (hs.2 b (Nat.ne_of_lt (Nat.lt_of_lt_of_le (Heap.lt_size e) (I.ok.cab x c hfn hc)))).trans e1⟩
    . by_cases hj : j = i
      . subst hj; rw [hi] at e1; cases e1; rw [List.getElem?_set_self hiσ] at e2; cases e2; exact ⟨u, r, .inr ⟨.inl hk, c, hc, hc'⟩⟩
      . rw [List.getElem?_set_ne (Ne.symm hj)] at e2; obtain ⟨u', r', q⟩ := hl j y v' e1 e2 e3; refine ⟨u', r', ?_⟩
        rcases q with q | ⟨k, c', e, z'⟩
        . exact .inl q
        . refine .inr ⟨k, c', e, z'.sameBut hs ?_⟩; rintro rfl; exact hj (zgG hN e1 (I.ok.inj _ _ _ e hc ▸ hi))
    . by_cases hcc : c' = c
      . subst hcc; exact ⟨_, hc'⟩
      . obtain ⟨w2, z2⟩ := I.cell y c' e; exact ⟨w2, z2.sameBut hs hcc⟩
    . obtain ⟨e, n, ne, nf, d⟩ := I.pin p hp; refine ⟨(hs.2 p.1 ?_).trans e, n, ne, nf, d⟩; intro q; rw [q, hoc] at e; have q' : oc = p.2 := Option.some.inj e; exact d w' (by rw [<- q']; exact hocd)
theorem zeg {M : Model} {A : Around} {E : Value -> Shared -> Prop} {i : Nat} {x : Str} {v : V} {u : Value} {Q : Unit -> Shared -> Prop} (I : Inv X pins σ H s) (hN : X.N.Nodup) (hi : X.N[i]? = some x) (hx : Loc X.env.scope x) (r : RelV v u)
    (h : ∀ s', Inv X pins (σ.set i (some v)) H s' -> Q () s') (hf : X.fn x = true \/ X.env.scope.names.lookup x = some .local := by first | exact .inl rfl | exact .inr rfl | assumption) : wpAny M A (storeName X.env x u) Q E s :=
  zfm I hN hi hx r (fun s' I' _ => h s' I') hf
theorem Inv.call' {s' : Shared} {ch : List Addr} (I : Inv X pins σ H s) (ho : s'.os = s.os) (u : Un (frs X.stack) ch H H' s.heap s'.heap) (hok : HOk X.prog X.w H' s'.heap) (hg : AllBare s'.gens)
    (hch : ∀ b ∈ ch, (b ∈ X.ex \/ X.s₀.heap.objs.size <= b) /\ b ≠ X.env.locals /\ (∀ x c, X.env.cells.lookup x = some c -> c ≠ b) /\ ∀ p ∈ X.pn ++ pins, p.1 ≠ b) : Inv X pins σ H' s' := by
  obtain ⟨h', g', d', t', o'⟩ := s'; have e : o' = s.os := ho; subst e; exact I.call (g' := g') (t' := t') (d' := d') u hok hg hch
end
abbrev XK := Value -> Option Addr -> Hp -> Prop
abbrev St := List (Option V)
abbrev VK := V -> Hp -> Prop
abbrev TE := St -> Hp -> VK -> Prop
abbrev TT := St -> Hp -> (Bool -> Hp -> Prop) -> Prop
abbrev TA := St -> Hp -> (List V -> Hp -> Prop) -> Prop
structure zci where
  nx : St -> Hp -> Prop
  rt : VK
  bk : St -> Hp -> Prop := fun _ _ => False
  ct : St -> Hp -> Prop := fun _ _ => False
abbrev TS := zci -> St -> Hp -> Prop
def EP (X : Cx) (pins : List (Addr × Obj)) (σ : St) (Q : VK) (u : Value) (s' : Shared) : Prop := ∃ v H', Inv X pins σ H' s' /\ RelV v u /\ Q v H'
def TP (X : Cx) (pins : List (Addr × Obj)) (σ : St) (Q : Bool -> Hp -> Prop) (b : Bool) (s' : Shared) : Prop := ∃ H', Inv X pins σ H' s' /\ Q b H'
def AP (X : Cx) (pins : List (Addr × Obj)) (σ : St) (Q : List V -> Hp -> Prop) (us : List Value) (s' : Shared) : Prop := ∃ vs H', Inv X pins σ H' s' /\ Vals vs us /\ Q vs H'
def SP (X : Cx) (pins : List (Addr × Obj)) (D : zci) (f : Flow) (s' : Shared) : Prop :=
  match f with
  | .next => ∃ σ' H', Inv X pins σ' H' s' /\ D.nx σ' H'
  | .brk => ∃ σ' H', Inv X pins σ' H' s' /\ D.bk σ' H'
  | .cont => ∃ σ' H', Inv X pins σ' H' s' /\ D.ct σ' H'
  | .ret u => ∃ v σ' H', Inv X pins σ' H' s' /\ RelV v u /\ D.rt v H'
def PE (X : Cx) (e : Expr) (t : TE) : Prop :=
  ∀ (pins : List (Addr × Obj)) (s : Shared) (σ : St) (H : Hp) (Q : VK), Inv X pins σ H s -> t σ H Q -> wpAny (model X.prog X.w) X.A (eval e X.env) (EP X pins σ Q) X.xe s
def PT (X : Cx) (e : Expr) (t : TT) : Prop :=
  ∀ (pins : List (Addr × Obj)) (s : Shared) (σ : St) (H : Hp) (Q : Bool -> Hp -> Prop), Inv X pins σ H s -> t σ H Q -> wpAny (model X.prog X.w) X.A (isTrue e X.env (eval e X.env)) (TP X pins σ Q) X.xe s
def PW (X : Cx) (e : Expr) (t : TT) : Prop :=
  ∀ (whole : Sem Value) (pins : List (Addr × Obj)) (s : Shared) (σ : St) (H : Hp) (Q : Bool -> Hp -> Prop), Inv X pins σ H s -> t σ H Q -> wpAny (model X.prog X.w) X.A (isTrue e X.env whole) (TP X pins σ Q) X.xe s
theorem PW.pt {X : Cx} {e : Expr} {t : TT} (h : PW X e t) : PT X e t := h _
def PA (X : Cx) (es : List Expr) (t : TA) : Prop :=
  ∀ (pos : Pos) (pins : List (Addr × Obj)) (s : Shared) (σ : St) (H : Hp) (Q : List V -> Hp -> Prop), Inv X pins σ H s -> t σ H Q -> wpAny (model X.prog X.w) X.A (spliced (backTo pos (starEach es X.env))) (AP X pins σ Q) X.xe s
def PS (X : Cx) (st : Stmt) (t : TS) : Prop :=
  ∀ (pins : List (Addr × Obj)) (s : Shared) (σ : St) (H : Hp) (D : zci), Inv X pins σ H s -> t D σ H -> wpAny (model X.prog X.w) X.A (exec st X.env) (SP X pins D) X.xe s
def PSs (X : Cx) (st : List Stmt) (t : TS) : Prop :=
  ∀ (pins : List (Addr × Obj)) (s : Shared) (σ : St) (H : Hp) (D : zci), Inv X pins σ H s -> t D σ H -> wpAny (model X.prog X.w) X.A (execs st X.env) (SP X pins D) X.xe s
theorem thn {α : Type} {t : Sem α} {Q Q' : α -> Shared -> Prop} {M : Model} {A : Around} {E : Value -> Shared -> Prop} {s : Shared} (h : wpAny M A t Q E s) (hQ : ∀ a s, Q a s -> Q' a s) : wpAny M A t Q' E s := wpAny_mono h hQ fun _ _ x => x
end L2
namespace L2
open PySem PySem.Spec PyProof.Rows
section
variable {X : Cx}
theorem bin {a b : Expr} {ta tb : TE} (ha : PE X a ta) (hb : PE X b tb) {pins : List (Addr × Obj)} {s : Shared} {σ : St} {H : Hp} {R : V -> V -> Hp -> Prop} (I : Inv X pins σ H s) (h : ta σ H fun x H1 => tb σ H1 fun y H2 => R x y H2)
    {α : Type} {Q : α -> Shared -> Prop} {f : Value -> Value -> Sem α}
    (hf : ∀ v u s2 x y H2, Inv X pins σ H2 s2 -> RelV x v -> RelV y u -> R x y H2 -> wpAny (model X.prog X.w) X.A (f v u) Q X.xe s2) :
    wpAny (model X.prog X.w) X.A (eval a X.env) (fun v s₁ => wpAny (model X.prog X.w) X.A (eval b X.env) (fun u s₂ => wpAny (model X.prog X.w) X.A (f v u) Q X.xe s₂) X.xe s₁) X.xe s := by
  refine thn (ha pins s σ H _ I h) fun v s1 ⟨x, H1, I1, r1, q1⟩ => ?_; refine thn (hb pins s1 σ H1 _ I1 q1) fun u s2 ⟨y, H2, I2, r2, q2⟩ => ?_; exact hf v u s2 x y H2 I2 r1 r2 q2
inductive QVar (o : Option (Option V)) (Q : V → Prop) : Prop
  | mk (v : V) (h : o = some (some v)) (k : Q v) : QVar o Q
def zmP (i : Nat) : TE := fun σ H Q => QVar σ[i]? (fun v => Q v H)
def tC (v : V) : TE := fun _ H Q => Q v H
theorem zl7 {i : Nat} {x : Str} {pos : Pos} (hN : X.N[i]? = some x) (hv : Vis X.env.scope x) (hd : (x == ("__debug__" : Str)) = false := by decide) (hcd : (x == ("__classdict__" : Str)) = false := by decide) : PE X (.Name x pos) (zmP i) := by
  intro pins s σ H Q I h; obtain ⟨v, e, h⟩ := h; obtain ⟨m, hn, hl⟩ := I.loc; obtain ⟨u, r, l⟩ := hl i x v hN e hv; have fin : EP X pins σ Q u s := ⟨v, H, I, r, h⟩
  rcases l with ⟨hk, hm⟩ | ⟨hk, c, hc, hcell⟩
  . exact wpAny_Name (wpAny_loadName_local I.ok.kind hk hn hm fin) hd
  . rcases hk with hk | hk
    . exact wpAny_Name (wpAny_loadName_cell I.ok.kind hk hc hcell fin) hd
    . exact wpAny_Name (wpAny_loadName_free I.ok.kind hk hc hcell fin hcd) hd
theorem zag {i j pos} : PE X (.Constant (.int i) j pos) (tC (.int i)) := fun _ _ _ H _ I h => wpAny_Constant_int ⟨.int i, H, I.tok _, ⟨_, rfl⟩, h⟩
theorem zba {b j pos} : PE X (.Constant (.bool b) j pos) (tC (.bl b)) := fun _ _ _ H _ I h => Constant_bool ⟨.bl b, H, I, rfl, h⟩
theorem zbp {j pos} : PE X (.Constant .none j pos) (tC .non) := fun _ _ _ H _ I h => Constant_none ⟨.non, H, I, rfl, h⟩
theorem zaj {x j pos} : PE X (.Constant (.str x) j pos) (tC (.str x)) := fun _ _ _ H _ I h => Calls.Constant_str ⟨.str x, H, I.tok _, ⟨_, rfl⟩, h⟩
def Gl (X : Cx) (x : Str) : Prop := X.env.kindOf x = some .globalImplicit
theorem zdn {E : Value -> Shared -> Prop} {pins : List (Addr × Obj)} {s : Shared} {σ : St} {H : Hp} {x : Str} {u : Value} {pos : Pos} {Q : Value -> Shared -> Prop} (I : Inv X pins σ H s) (hg : Gl X x) (hm : X.mg x = some u) (h : Q u s)
    (hd : (x == ("__debug__" : Str)) = false := by decide) : wpAny (model X.prog X.w) X.A (eval (.Name x pos) X.env) Q E s :=
  Calls.Name_function_global I.ok.kind hg (Calls.loadGlobal_global (by rw [I.ok.glob]; exact I.mod.glob.keeps I.bk) hm h) hd
theorem zc8 {E : Value -> Shared -> Prop} {pins : List (Addr × Obj)} {s : Shared} {σ : St} {H : Hp} {x : Str} {u : Value} {pos : Pos} {Q : Value -> Shared -> Prop} (I : Inv X pins σ H s) (hg : Gl X x) (hm : X.mg x = none) (hv : bootBuiltins x = some u) (h : Q u s)
    (hn : x ≠ "__name__" := by decide) (hd : (x == ("__debug__" : Str)) = false := by decide) : wpAny (model X.prog X.w) X.A (eval (.Name x pos) X.env) Q E s := by
  obtain ⟨mb, h1, h2⟩ := I.mod.blt; exact Calls.Name_function_global I.ok.kind hg (Calls.loadGlobal_builtin (by rw [I.ok.glob]; exact I.mod.glob.keeps I.bk) hm (by rw [I.ok.blt]; exact h1.keeps I.bk) ((h2 x hn).trans hv) h) hd
theorem zbP {x : Str} {v : V} {u : Value} {pos : Pos} (hg : Gl X x) (hm : X.mg x = some u) (r : RelV v u) (hd : (x == ("__debug__" : Str)) = false := by decide) : PE X (.Name x pos) (tC v) :=
  fun _ _ _ H _ I h => zdn I hg hm ⟨v, H, I, r, h⟩ hd
theorem zd9 {x : Str} {v : V} {u : Value} {pos : Pos} (hg : Gl X x) (hm : X.mg x = none) (hv : bootBuiltins x = some u) (r : RelV v u) (hn : x ≠ "__name__" := by decide) (hd : (x == ("__debug__" : Str)) = false := by decide) : PE X (.Name x pos) (tC v) :=
  fun _ _ _ H _ I h => zc8 I hg hm hv ⟨v, H, I, r, h⟩ hn hd
variable {a b : Expr} {ta tb : TE} {pos : Pos}
def PC (X : Cx) (op : CmpOp) (a b : Expr) (t : TE) : Prop :=
  ∀ (pins : List (Addr × Obj)) (s : Shared) (σ : St) (H : Hp) (Q : VK), Inv X pins σ H s -> t σ H Q →
    wpAny (model X.prog X.w) X.A (eval a X.env) (fun v s₁ => wpAny (model X.prog X.w) X.A (eval b X.env) (fun u s₂ => wpAny (model X.prog X.w) X.A (compareOp op v u) (EP X pins σ Q) X.xe s₂) X.xe s₁) X.xe s
inductive QBl (x : V) (Q : Bool → Prop) : Prop
  | mk (c : Bool) (h : x = .bl c) (k : Q c) : QBl x Q
def tB (t : TE) : TT := fun σ H Q => t σ H fun x H1 => QBl x (fun c => Q c H1)
theorem zl6 {op : CmpOp} {t : TE} (h : PC X op a b t) (h1 : behindInMarks op b = false := by first | exact nobehind _ (by decide) (by decide) | rfl) : PE X (.Compare a [op] [b] pos) t := fun pins s σ H Q I hw => wpAny_Compare1 (h pins s σ H Q I hw) h1
theorem zjh {op : CmpOp} {t : TE} (h : PC X op a b t) (h1 : behindInMarks op b = false := by first | exact nobehind _ (by decide) (by decide) | rfl) : PT X (.Compare a [op] [b] pos) (tB t) := by
  intro pins s σ H Q I hw; refine wpAny_isTrue_Compare1 (thn (h pins s σ H _ I hw) fun v s1 h1 => thn h1 fun u s2 h2 => thn h2 fun c s3 ⟨x, H1, I1, r1, q1⟩ => ?_) h1; obtain ⟨d, rfl, q⟩ := q1; cases r1; exact wpAny_truthy_bool ⟨H1, I1, q⟩
theorem zcj {e : Expr} {t : TE} (h : PE X e t) (he : ∀ whole, isTrue e X.env whole = (do let v <- whole; standAt e.pos; holding [v] (truthy v)) := by intro _; rfl) : PT X e (tB t) := by
  intro pins s σ H Q I hw; refine isTrue_plain (thn (h pins s σ H _ I hw) fun v s1 ⟨x, H1, I1, r1, q1⟩ => ?_) (he _); obtain ⟨d, rfl, q⟩ := q1; cases r1; exact wpAny_truthy_bool ⟨H1, I1, q⟩
variable {tA tB' : TT} {rest : List Expr}
def tOr (t u : TT) : TT := fun σ H Q => t σ H fun c H1 => if c = true then Q true H1 else u σ H1 Q
def znM (t : TT) : TT := fun σ H Q => t σ H fun c H1 => Q (!c) H1
theorem zhr (ha : PT X a tA) : PW X (.BoolOp .Or [a] pos) tA := by
  intro wh pins s σ H Q I h; refine isTrue_or (thn (ha pins s σ H Q I h) fun c s1 e => ?_)
  cases c with
  | false => exact isTrue_or_nil e
  | true => exact e
theorem zi3 (ha : PT X a tA) (hb : PW X (.BoolOp .Or (b :: rest) pos) tB') : PW X (.BoolOp .Or (a :: b :: rest) pos) (tOr tA tB') := by
  intro wh pins s σ H Q I h; refine isTrue_or (thn (ha pins s σ H _ I h) fun c s1 ⟨H1, I1, q1⟩ => ?_)
  cases c with
  | true => exact ⟨H1, I1, q1⟩
  | false => exact hb wh pins s1 σ H1 Q I1 q1
theorem zc1 (ha : PT X a tA) : PT X (.UnaryOp .Not a pos) (znM tA) := by
  intro pins s σ H Q I h; exact isTrue_not (ha pins s σ H (fun c H1 => Q (!c) H1) I h)
def zmW (ta tb : TE) : TE := fun σ H Q => ta σ H fun x H1 => ∃ c, x = .bl c /\ if c = true then tb σ H1 Q else Q (.bl false) H1
def znB (ta tb : TE) : TE := fun σ H Q => ta σ H fun x H1 => ∃ c, x = .bl c /\ if c = true then Q (.bl true) H1 else tb σ H1 Q
def zm2 (ta : TE) : TE := fun σ H Q => ta σ H fun x H1 => ∃ c, x = .bl c /\ Q (.bl (!c)) H1
theorem zdy {op} {t : TE} (h : PE X a t) : PE X (.BoolOp op [a] pos) t := fun pins s σ H Q I hw => BoolOp_one (h pins s σ H Q I hw)
theorem zdF (ha : PE X a ta) (hb : PE X (.BoolOp .And (b :: rest) pos) tb) : PE X (.BoolOp .And (a :: b :: rest) pos) (zmW ta tb) := by
  intro pins s σ H Q I h; refine BoolOp_and (thn (ha pins s σ H _ I h) fun v s1 ⟨x, H1, I1, r1, q1⟩ => ?_); obtain ⟨c, rfl, q1⟩ := q1; cases r1; refine wpAny_truthy_bool ?_
  cases c with
  | true => exact hb pins s1 σ H1 Q I1 q1
  | false => exact ⟨.bl false, H1, I1, rfl, q1⟩
theorem znc (ha : PE X a ta) (hb : PE X (.BoolOp .Or (b :: rest) pos) tb) : PE X (.BoolOp .Or (a :: b :: rest) pos) (znB ta tb) := by
  intro pins s σ H Q I h; refine BoolOp_or (thn (ha pins s σ H _ I h) fun v s1 ⟨x, H1, I1, r1, q1⟩ => ?_); obtain ⟨c, rfl, q1⟩ := q1; cases r1; refine wpAny_truthy_bool ?_
  cases c with
  | false => exact hb pins s1 σ H1 Q I1 q1
  | true => exact ⟨.bl true, H1, I1, rfl, q1⟩
theorem zlq (ha : PE X a ta) : PE X (.UnaryOp .Not a pos) (zm2 ta) := by
  intro pins s σ H Q I h; refine UnaryOp_ (thn (ha pins s σ H _ I h) fun v s1 ⟨x, H1, I1, r1, q1⟩ => ?_); obtain ⟨c, rfl, q1⟩ := q1; cases r1; exact not_of (wpAny_truthy_bool ⟨.bl (!c), H1, I1, rfl, q1⟩)
def tIf (t : TT) (ta tb : TE) : TE := fun σ H Q => t σ H fun c H1 => if c = true then ta σ H1 Q else tb σ H1 Q
theorem zf8 {c : Expr} (hc : PT X c tA) (ha : PE X a ta) (hb : PE X b tb) : PE X (.IfExp c a b pos) (tIf tA ta tb) := by
  intro pins s σ H Q I h; refine wpAny_IfExp (thn (hc pins s σ H _ I h) fun d s1 ⟨H1, I1, q1⟩ => ?_)
  cases d with
  | true => exact ha pins s1 σ H1 Q I1 q1
  | false => exact hb pins s1 σ H1 Q I1 q1
end
end L2
namespace L2
open PySem PySem.Spec PyProof.Rows
def SqL (K : PySem.W.Frag) (H : Hp) (a : Addr) (xs : List V) : Prop :=
  Rd H a (.lst xs) ∨
    ∃ (o : Obj) (its : Array Value) (n : Nat), K.lookup a = some o /\ o.cls = .type "list" /\ o.dict = none /\ o.data = .seq its n /\ its.size <= sizeLine /\ Vals xs its.toList
def SqT (K : PySem.W.Frag) (H : Hp) (a : Addr) (xs : List V) : Prop :=
  Rd H a (.tup xs) ∨
    ∃ (o : Obj) (its : Array Value) (n : Nat), K.lookup a = some o /\ o.cls = .type "tuple" /\ o.data = .seq its n /\ its.size <= sizeLine /\ Vals xs its.toList
def znI : Value -> Option V
  | .none => some .non
  | .bool b => some (.bl b)
  | .int i _ => some (.int i)
  | .str x _ => some (.str x)
  | .bytes b _ => some (.byt b)
  | .float b _ => some (.flt b)
  | .ref a => some (.ref a)
  | .type n => some (.ty n)
  | _ => none
theorem RelV.abs {x : V} {u : Value} (r : RelV x u) : znI u = some x := by
  cases x with
  | non => cases r; rfl
  | bl _ => cases r; rfl
  | int _ => obtain ⟨t, rfl⟩ := r; rfl
  | str _ => obtain ⟨t, rfl⟩ := r; rfl
  | byt _ => obtain ⟨t, rfl⟩ := r; rfl
  | flt _ => obtain ⟨t, rfl⟩ := r; rfl
  | ref _ => cases r; rfl
  | ty _ => cases r; rfl
theorem RelV.inj {x y : V} {u : Value} (r : RelV x u) (q : RelV y u) : x = y := Option.some.inj (r.abs.symm.trans q.abs)
theorem Vals.inj : ∀ {xs ys : List V} {us : List Value}, Vals xs us -> Vals ys us -> xs = ys
  | _, _, _, .nil, .nil => rfl
  | _, _, _, .cons r t, .cons r' t' => by rw [r.inj r', Vals.inj t t']
section
variable {X : Cx} {pins : List (Addr × Obj)} {σ : St} {H : Hp} {s : Shared} {a : Addr} {xs ys : List V}
theorem SqL.of {K : PySem.W.Frag} (h : H a = some (.lst xs)) : SqL K H a xs := .inl (.inl h)
theorem SqT.of {K : PySem.W.Frag} (h : H a = some (.tup xs)) : SqT K H a xs := .inl (.inl h)
theorem Inv.list (I : Inv X pins σ H s) (h : SqL X.K H a xs) : ∃ its : List Value, Vals xs its /\ PlainL s.heap a its.toArray /\ xs.length <= sizeLine := by
  rcases h with h | ⟨o, its, n, hk, hc, hd, hs, hz, r⟩
  . obtain ⟨z, its, n, r, e⟩ := h.ok I.hok; exact ⟨its, r, ⟨_, n, e, rfl, rfl, rfl⟩, z⟩
  . refine ⟨its.toList, r, ⟨o, n, I.kIn a o hk, hc, hd, by simpa using hs⟩, ?_⟩
    have e := r.length; simp only [Array.length_toList] at e; omega
theorem Inv.tuple (I : Inv X pins σ H s) (h : SqT X.K H a xs) : ∃ its : List Value, Vals xs its /\ IsTup s.heap a its.toArray /\ xs.length <= sizeLine := by
  rcases h with h | ⟨o, its, n, hk, hc, hs, hz, r⟩
  . obtain ⟨z, its, r, p⟩ := h.ok I.hok; exact ⟨its, r, p, z⟩
  . refine ⟨its.toList, r, ⟨o, I.kIn a o hk, hc, n, by simpa using hs⟩, ?_⟩
    have e := r.length; simp only [Array.length_toList] at e; omega
theorem Inv.list_inj (I : Inv X pins σ H s) (h : SqL X.K H a xs) (h' : SqL X.K H a ys) : xs = ys := by
  obtain ⟨its, r, ⟨o, n, e, _, _, d⟩, _⟩ := I.list h; obtain ⟨its', r', ⟨o', n', e', _, _, d'⟩, _⟩ := I.list h'; rw [e] at e'; cases e'; rw [d] at d'; injection d' with d1 _
  have : its = its' := by simpa using congrArg Array.toList d1
  subst this; exact r.inj r'
theorem Inv.tuple_inj (I : Inv X pins σ H s) (h : SqT X.K H a xs) (h' : SqT X.K H a ys) : xs = ys := by
  obtain ⟨its, r, ⟨o, e, _, n, d⟩, _⟩ := I.tuple h; obtain ⟨its', r', ⟨o', e', _, n', d'⟩, _⟩ := I.tuple h'; rw [e] at e'; cases e'; rw [d] at d'; injection d' with d1 _
  have : its = its' := by simpa using congrArg Array.toList d1
  subst this; exact r.inj r'
end
abbrev Cx.wish (X : Cx) (E : Value -> Shared -> Prop) : Cx := { X with xe := E }
abbrev Cx.nox (X : Cx) : Cx := X.wish fun _ _ => False
theorem Cx.Ok.wish {X : Cx} (ok : X.Ok) (E : Value -> Shared -> Prop) : (X.wish E).Ok :=
  ⟨ok.mod, ok.kind, ok.glob, ok.blt, ok.above, ok.inj, ok.has, ok.cab, ok.hd, ok.frames, ok.stk, ok.exf, ok.bs, ok.bsz, ok.noex, ok.exfs, ok.funs, ok.frf⟩
theorem Cx.Ok.unwish {X : Cx} {E : Value -> Shared -> Prop} (ok : (X.wish E).Ok) : X.Ok :=
  ⟨ok.mod, ok.kind, ok.glob, ok.blt, ok.above, ok.inj, ok.has, ok.cab, ok.hd, ok.frames, ok.stk, ok.exf, ok.bs, ok.bsz, ok.noex, ok.exfs, ok.funs, ok.frf⟩
section
variable {X : Cx} {pins : List (Addr × Obj)} {σ : St} {H : Hp} {s : Shared} {E : Value -> Shared -> Prop}
theorem Inv.wish (I : Inv X pins σ H s) (E : Value -> Shared -> Prop) : Inv (X.wish E) pins σ H s := ⟨I.ok.wish E, I.os, I.bare, I.base, I.loc, I.cell, I.free, I.freeC, I.pin, I.hok, I.len⟩
theorem Inv.unwish (I : Inv (X.wish E) pins σ H s) : Inv X pins σ H s := ⟨I.ok.unwish, I.os, I.bare, I.base, I.loc, I.cell, I.free, I.freeC, I.pin, I.hok, I.len⟩
theorem SP.unwish {D : zci} {f : Flow} {s' : Shared} (h : SP (X.wish E) pins D f s') : SP X pins D f s' := by
  cases f with
  | next => obtain ⟨σ', H', I, q⟩ := h; exact ⟨σ', H', I.unwish, q⟩
  | brk => obtain ⟨σ', H', I, q⟩ := h; exact ⟨σ', H', I.unwish, q⟩
  | cont => obtain ⟨σ', H', I, q⟩ := h; exact ⟨σ', H', I.unwish, q⟩
  | ret u => obtain ⟨v, σ', H', I, r, q⟩ := h; exact ⟨v, σ', H', I.unwish, r, q⟩
theorem PSs.nox {st : List Stmt} {t : TS} (h : PSs X.nox st t) : PSs X st t := fun pins s σ H D I hw =>
  wpAny_mono (h pins s σ H D (I.wish _) hw) (fun _ _ q => q.unwish) fun _ _ z => False.elim z
end
section
variable {X : Cx} {st : Stmt} {rest : List Stmt} {t u : TS} {e : Expr} {te : TE} {pos : Pos}
def zmJ : TS := fun D σ H => D.nx σ H
def zm7 (t u : TS) : TS := fun D σ H => t { D with nx := u D } σ H
theorem zau : PSs X [] zmJ := fun _ _ σ H _ I h => wpAny_execs_nil ⟨σ, H, I, h⟩
theorem zad (h1 : PS X st t) (h2 : PSs X rest u) : PSs X (st :: rest) (zm7 t u) := by
  intro pins s σ H D I h; refine wpAny_execs_cons (thn (h1 pins s σ H { D with nx := u D } I h) fun f s1 q => ?_)
  cases f with
  | next =>
    obtain ⟨σ', H', I', q⟩ := q; exact h2 pins s1 σ' H' D I' q
  | ret v => exact q
  | brk => exact q
  | cont => exact q
theorem zae (h1 : PS X st t) : PSs X [st] t := by
  intro pins s σ H D I h; refine wpAny_execs_cons (thn (h1 pins s σ H D I h) fun f s1 q => ?_)
  cases f with
  | next => exact wpAny_execs_nil q
  | ret v => exact q
  | brk => exact q
  | cont => exact q
def zmF : TS := fun D σ H => D.ct σ H
theorem zgs : PS X (.Continue pos) zmF := fun _ _ σ H _ I h => wpAny_Continue ⟨σ, H, I, h⟩
theorem Inv.quiet {pins : List (Addr × Obj)} {σ : St} {H : Hp} {s : Shared} (I : Inv X pins σ H s) : interactive X.env = false := by simp [interactive, I.ok.kind]
def zmt (te : TE) : TS := fun D σ H => te σ H fun _ H1 => D.nx σ H1
theorem zas (he : PE X e te) (hs : swapsWith e none pos.line X.env = pure false := by rfl) : PS X (.Expr e pos) (zmt te) := by
  intro pins s σ H D I h; exact wpAny_Expr_any (thn (he pins s σ H _ I h) fun v s1 ⟨x, H1, I1, r1, q1⟩ => ⟨σ, H1, I1, q1⟩) I.quiet hs
def zng (te : TE) : TS := fun D σ H => te σ H D.rt
theorem zam (he : PE X e te) : PS X (.Return (some e) pos) (zng te) := by
  intro pins s σ H D I h; exact wpAny_Return_some (thn (he pins s σ H _ I h) fun v s1 ⟨x, H1, I1, r1, q1⟩ => ⟨x, σ, H1, I1, r1, q1⟩)
def znC (c : TT) (t u : TS) : TS := fun D σ H => c σ H fun b H1 => if b = true then t D σ H1 else u D σ H1
theorem zaH {c : Expr} {a b : List Stmt} {tc : TT} (hc : PT X c tc) (ha : PSs X a t) (hb : PSs X b u) : PS X (.If c a b pos) (znC tc t u) := by
  intro pins s σ H D I h; refine wpAny_If (thn (hc pins s σ H _ I h) fun d s1 ⟨H1, I1, q1⟩ => ?_)
  cases d with
  | true => exact ha pins s1 σ H1 D I1 q1
  | false => exact hb pins s1 σ H1 D I1 q1
def zlx : TS := fun _ _ _ => False
theorem zb0 : PS X st zlx := fun _ _ _ _ _ _ h => h.elim
end
abbrev TG := V -> St -> Hp -> (St -> Hp -> Prop) -> Prop
abbrev TGs := List V -> St -> Hp -> (St -> Hp -> Prop) -> Prop
def PG (X : Cx) (target : Expr) (t : TG) : Prop :=
  ∀ (pins : List (Addr × Obj)) (s : Shared) (σ : St) (H : Hp) (v : V) (u : Value) (Q : St -> Hp -> Prop), Inv X pins σ H s -> RelV v u -> t v σ H Q →
    wpAny (model X.prog X.w) X.A (assign target X.env u) (fun _ s' => ∃ σ' H', Inv X pins σ' H' s' /\ Q σ' H') X.xe s
def PGs (X : Cx) (ts : List Expr) (t : TGs) : Prop :=
  ∀ (pins : List (Addr × Obj)) (s : Shared) (σ : St) (H : Hp) (vs : List V) (us : List Value) (Q : St -> Hp -> Prop), Inv X pins σ H s -> Vals vs us -> t vs σ H Q →
    wpAny (model X.prog X.w) X.A (assignInOrder ((assignEach ts X.env).map (·.2)) us) (fun _ s' => ∃ σ' H', Inv X pins σ' H' s' /\ Q σ' H') X.xe s
abbrev zlL := V -> V -> V -> Hp -> (Hp -> Prop) -> Prop
def zmh (X : Cx) (t : zlL) : Prop :=
  ∀ (pins : List (Addr × Obj)) (s : Shared) (σ : St) (H : Hp) (o i v : V) (ov iv u : Value) (Q : Hp -> Prop), Inv X pins σ H s -> RelV o ov -> RelV i iv -> RelV v u -> t o i v H Q →
    wpAny (model X.prog X.w) X.A (setItem ov iv u) (fun _ s' => ∃ H', Inv X pins σ H' s' /\ Q H') X.xe s
section
variable {X : Cx} {pos : Pos}
def zbg (i : Nat) : TG := fun v σ H Q => Q (σ.set i (some v)) H
theorem zaz {i : Nat} {x : Str} (hN : X.N.Nodup) (hi : X.N[i]? = some x) (hx : Loc X.env.scope x) (hf : X.fn x = true \/ X.env.scope.names.lookup x = some .local := by first | exact .inl rfl | exact .inr rfl | assumption) : PG X (.Name x pos) (zbg i) := by
  intro pins s σ H v u Q I r h; exact wpAny_assign_Name (zeg I hN hi hx r (fun s' I' => ⟨_, H, I', h⟩) hf)
def zkK : TGs := fun vs σ H Q => vs = [] /\ Q σ H
def zem (t : TG) (u : TGs) : TGs := fun vs σ H Q => ∃ v r, vs = v :: r /\ t v σ H fun σ' H' => u r σ' H' Q
theorem zfu : PGs X [] zkK := by
  intro pins s σ H vs us Q I r h; obtain ⟨e, h⟩ := h; subst e; cases r; exact assignInOrder_nil ⟨σ, H, I, h⟩
theorem zb3 {e : Expr} {es : List Expr} {t : TG} {u : TGs} (h1 : PG X e t) (h2 : PGs X es u)
    (hs : (assignEach (e :: es) X.env).map (·.2) = assign e X.env :: (assignEach es X.env).map (·.2) := by rfl) : PGs X (e :: es) (zem t u) := by
  intro pins s σ H vs us Q I r h; obtain ⟨v, vr, e1, h⟩ := h; subst e1
  cases r with
  | cons r rr =>
    rw [hs]; refine assignInOrder_cons (thn (h1 pins s σ H _ _ _ I r h) fun _ s1 ⟨σ1, H1, I1, q1⟩ => ?_); exact h2 pins s1 σ1 H1 _ _ Q I1 rr q1
def zkB (K : PySem.W.Frag) (n : Nat) (t : TGs) : TG := fun v σ H Q => ∃ a xs, v = .ref a /\ SqT K H a xs /\ xs.length = n /\ t xs σ H Q
theorem zhy {es : List Expr} {k : Nat} {t : TGs} {n : Nat} (hc : X.calm = true) (h : PGs X es t)
    (hn : (assignEach es X.env).length = n := by rfl) (hst : (assignEach es X.env).findIdx? (·.1) = none := by rfl) : PG X (.Tuple es k pos) (zkB X.K n t) := by
  intro pins s σ H v u Q I r hw; obtain ⟨a, xs, e1, hq, hl, hw⟩ := hw; subst e1; cases r; obtain ⟨its, rv, ht, hz⟩ := I.tuple hq; refine assign_Tuple_tuple (I.ok.hd hc) ht (by simp [hn, <- hl, rv.length]) hst fun h' hx => ?_
  have I1 : Inv X pins σ H { s with heap := h' } := I.kept (t' := s.toks) fun b o e => hx b o (Nat.ne_of_lt (Heap.lt_size e)) e
  exact h pins _ σ H xs _ Q I1 (by simpa using rv) hw
def znm (to ti : TE) (t : zlL) : TG := fun v σ H Q => to σ H fun o H1 => ti σ H1 fun i H2 => t o i v H2 fun H3 => Q σ H3
theorem zj0 {o i : Expr} {to ti : TE} {t : zlL} (ho : PE X o to) (hi : PE X i ti) (hs : zmh X t)
    (ha : ∀ v, assign (.Subscript o i pos) X.env v = (do
      let ov <- holding [v] (eval o X.env)
      let iv <- holding [v, ov] (eval i X.env)
      standAt pos
      holding [v, ov, iv] (setItem ov iv v)
      release [v, ov, iv] []) := by intro _; rfl) : PG X (.Subscript o i pos) (znm to ti t) := by
  intro pins s σ H v u Q I r h; rw [ha]; refine wpAny_bind (wpAny_holding (thn (ho pins s σ H _ I h) fun ov s1 ⟨x, H1, I1, r1, q1⟩ => ?_)); refine wpAny_bind (wpAny_holding (thn (hi pins s1 σ H1 _ I1 q1) fun iv s2 ⟨y, H2, I2, r2, q2⟩ => ?_)); refine wpAny_bind (wpAny_standAt (wpAny_bind (wpAny_holding (thn (hs pins s2 σ H2 x y v ov iv u _ I2 r1 r2 r q2) fun _ s3 ⟨H3, I3, q3⟩ => ?_)))); exact wpAny_release ⟨σ, H3, I3, q3⟩
def zkm (te : TE) (g : TG) : TS := fun D σ H => te σ H fun x H1 => g x σ H1 D.nx
theorem ziT {tg e : Expr} {te : TE} {g : TG} (he : PE X e te) (hg : PG X tg g) (hs : swapsWithSole [tg] e pos.line X.env = pure false := by rfl) (hw : swappedStores [tg] e X.env = pure none := by rfl)
    (h1 : (assignEach [tg] X.env).map (·.2) = [assign tg X.env] := by rfl) : PS X (.Assign [tg] e pos) (zkm te g) := by
  intro pins s σ H D I h; refine wpAny_Assign_stores (thn (he pins s σ H _ I h) fun v s1 ⟨x, H1, I1, r1, q1⟩ => ?_) hs hw; rw [h1]; exact thn (hg pins s1 σ H1 x v _ I1 r1 q1) fun _ s2 q => q
theorem zao {i : Nat} {x : Str} {e : Expr} {te : TE} {pos' : Pos} (hN : X.N.Nodup) (hi : X.N[i]? = some x) (hx : Loc X.env.scope x) (he : PE X e te) (hs : swapsWith e (some (.Name x pos')) pos.line X.env = pure false := by rfl) (hf : X.fn x = true \/ X.env.scope.names.lookup x = some .local := by first | exact .inl rfl | exact .inr rfl | assumption) :
    PS X (.Assign [.Name x pos'] e pos) (zkm te (zbg i)) := by
  intro pins s σ H D I h; refine wpAny_Assign_Name (thn (he pins s σ H _ I h) fun v s1 ⟨y, H1, I1, r1, q1⟩ => ?_) hs; exact zeg I1 hN hi hx r1 (fun s2 I2 => ⟨_, H1, I2, q1⟩) hf
end
section
variable {X : Cx} {pos : Pos}
def zlv (c : TT) (tb : TS) : TS := fun D σ H => ∃ W : Nat -> St -> Hp -> Prop, (∃ m, W m σ H) /\ ∀ m σ H, W m σ H →
  c σ H fun b H1 => if b = true then ∃ N : St -> Hp -> Prop, (∀ σ' H', N σ' H' -> ∃ m', m' < m /\ W m' σ' H') /\ tb { D with nx := N, ct := N, bk := D.nx } σ H1 else D.nx σ H1
theorem zeH {c : Expr} {body : List Stmt} {tc : TT} {tb : TS} (hp : PassesOwn (model X.prog X.w) X.A X.env X.xe) (hc : PT X c tc) (hb : PSs X body tb) : PS X (.While c body [] pos) (zlv tc tb) := by
  intro pins s σ H D I h; obtain ⟨W, ⟨m0, w0⟩, turn⟩ := h; refine wpAny_While (codeAny_whileLoop (fun n s' => ∃ σ' H', Inv X pins σ' H' s' /\ W n σ' H') ?_ m0 ⟨σ, H, I, w0⟩); rintro n s1 ⟨σ1, H1, I1, w1⟩; refine wpAny_passesOwn hp (thn (hc pins s1 σ1 H1 _ I1 (turn n σ1 H1 w1)) fun b s2 ⟨H2, I2, q2⟩ => ?_)
  cases b with
  | true =>
    obtain ⟨N, hN, q2⟩ := q2; rw [if_pos rfl]; refine wpAny_passesOwn hp (thn (hb pins s2 σ1 H2 _ I2 q2) fun f s3 q3 => ?_)
    cases f with
    | next =>
      obtain ⟨σ3, H3, I3, n3⟩ := q3; obtain ⟨m', hm, w3⟩ := hN σ3 H3 n3; exact ⟨m', hm, σ3, H3, I3, w3⟩
    | cont =>
      obtain ⟨σ3, H3, I3, n3⟩ := q3; obtain ⟨m', hm, w3⟩ := hN σ3 H3 n3; exact ⟨m', hm, σ3, H3, I3, w3⟩
    | brk => exact q3
    | ret v => exact q3
  | false =>
    rw [if_neg Bool.false_ne_true]; exact wpAny_execs_nil ⟨σ1, H2, I2, q2⟩
end
structure It where
  go : Nat -> Hp -> Prop
  yld : Nat -> Hp -> V -> Hp -> Prop
  stop : Nat -> Hp -> Prop
def zcu (X : Cx) (pins : List (Addr × Obj)) (H : Hp) (b : Addr) : Prop :=
  H b = none /\ b ≠ X.env.locals /\ b ∉ X.fs /\ (b ∈ X.ex \/ X.s₀.heap.objs.size <= b) /\ (∀ x c, X.env.cells.lookup x = some c -> c ≠ b) /\ ∀ p ∈ X.pn ++ pins, p.1 ≠ b
theorem Inv.fpOk {X : Cx} {pins : List (Addr × Obj)} {σ : St} {H H' : Hp} {s : Shared} {b : Addr} (I : Inv X pins σ H s) (hb : s.heap.objs.size <= b) (hn : H' b = none) : zcu X pins H' b := by
  refine ⟨hn, Nat.ne_of_gt (Nat.lt_of_lt_of_le I.lt hb), I.nofs hb, .inr (Nat.le_trans I.sz hb), fun x c e z => ?_, fun p hp z => ?_⟩
  . obtain ⟨v, q⟩ := I.cell x c e; exact absurd (Nat.lt_of_lt_of_le q.lt (by rw [z]; exact hb)) (Nat.lt_irrefl _)
  . exact absurd (Nat.lt_of_lt_of_le (Heap.lt_size (I.pin p hp).1) (by rw [z]; exact hb)) (Nat.lt_irrefl _)
structure ze6 (P : Program) (w : World) (K : PySem.W.Frag) (tg : Expr) (J : It) (fp : List Addr) (it : Addr) (tn : Nat -> Heap -> Prop) : Prop where
  mem : it ∈ fp
  obj : ∀ i h, tn i h -> ∀ b ∈ fp, ∃ o, h.get? b = some o /\ ∀ v, o.data ≠ .cell v
  keep : ∀ i h h', tn i h -> (∀ b ∈ fp, ∀ o, h.get? b = some o -> h'.get? b = some o) -> tn i h'
  item : ∀ (X : Cx), X.prog = P -> X.w = w -> X.K = K -> X.calm = true -> ∀ (i : Nat) (pins : List (Addr × Obj)) (s : Shared) (σ : St) (H : Hp) (E : Value -> Shared -> Prop), Inv X pins σ H s -> (∀ b ∈ fp, zcu X pins H b) -> tn i s.heap -> J.go i H →
    wpAny (model P w) X.A (pyNext (.ref it)) (fun r s1 => ∃ u, r = some u ∧
      wpAny (model P w) X.A (letOwnedTupleGo tg (.ref it) u) (fun _ s2 => ∃ x H', Inv X pins σ H' s2 /\ RelV x u /\ J.yld i H x H' /\ tn (i + 1) s2.heap /\ ∀ b ∈ fp, H' b = none) E s1) E s
  done : ∀ (X : Cx), X.prog = P -> X.w = w -> X.K = K -> X.calm = true -> ∀ (i : Nat) (pins : List (Addr × Obj)) (s : Shared) (σ : St) (H : Hp) (E : Value -> Shared -> Prop), Inv X pins σ H s -> (∀ b ∈ fp, zcu X pins H b) -> tn i s.heap -> J.stop i H →
    wpAny (model P w) X.A (pyNext (.ref it)) (fun r s1 => r = none /\ Inv X pins σ H s1) E s
  self : ∀ (A : Around) (i : Nat) (s : Shared) (Q : Value -> Shared -> Prop) (E : Value -> Shared -> Prop), tn i s.heap -> Q (.ref it) s -> wpAny (model P w) A (pyIter (.ref it)) Q E s
abbrev TI := St -> Hp -> (It -> Hp -> Prop) -> Prop
def PIE (X : Cx) (pins : List (Addr × Obj)) (σ : St) (tg : Expr) (R : It -> Hp -> Prop) (itv : Value) (s2 : Shared) : Prop :=
  ∃ (it : Addr) (fp : List Addr) (tn : Nat -> Heap -> Prop) (J : It) (H' : Hp), itv = .ref it /\ Inv X pins σ H' s2 /\ ze6 X.prog X.w X.K tg J fp it tn /\ tn 0 s2.heap /\ (∀ b ∈ fp, zcu X pins H' b) /\ R J H'
def PI (X : Cx) (tg iter : Expr) (wi : TI) : Prop :=
  ∀ (pins : List (Addr × Obj)) (s : Shared) (σ : St) (H : Hp) (R : It -> Hp -> Prop), Inv X pins σ H s -> wi σ H R →
    wpAny (model X.prog X.w) X.A (eval iter X.env) (fun v s1 => wpAny (model X.prog X.w) X.A (pyIter v) (PIE X pins σ tg R) X.xe s1) X.xe s
theorem zgN {M : Model} {A : Around} {E : Value -> Shared -> Prop} {s : Shared} {tg : Expr} {it : Addr} {u : Value} {o : Obj} {n : String} {vs : Array Value} {Q : Unit -> Shared -> Prop} (ho : s.heap.get? it = some o) (hc : o.cls = .type n) (hd : o.data = .fields vs)
    (hn : ["enumerate", "zip", "dict_itemiterator", "dict_reverseitemiterator", "odict_iterator", "itertools.zip_longest", "itertools.pairwise"].contains n = false) (hQ : Q () s) : wpAny M A (letOwnedTupleGo tg (.ref it) u) Q E s := by
  unfold letOwnedTupleGo
  cases tg <;> first
    | exact wpAny_pure hQ
    | (cases u <;> first
        | exact wpAny_pure hQ
        | (refine wpAny_bind (wpAny_load ho ?_)
           rw [hc, hd]; show wpAny M A (if (["enumerate", "zip", "dict_itemiterator", "dict_reverseitemiterator", "odict_iterator", "itertools.zip_longest", "itertools.pairwise"].contains n && vs[0]? == some (rawInt _)) = true then _ else _) Q E s; rw [if_neg (by intro h; rw [hn, Bool.false_and] at h; cases h)]
           exact wpAny_pure hQ))
def Itl (K : PySem.W.Frag) (a : Addr) : It :=
  ⟨fun i H => ∃ xs x, SqL K H a xs /\ xs[i]? = some x, fun i H x H' => H' = H /\ ∀ xs, SqL K H a xs -> xs[i]? = some x, fun i H => ∃ xs, SqL K H a xs /\ xs.length <= i⟩
def Itr (lo : Int) (n : Nat) : It := ⟨fun i _ => i < n, fun i H x H' => H' = H /\ x = .int (lo + i), fun i _ => n <= i⟩
theorem ziq {P : Program} {w : World} {K : PySem.W.Frag} {tg : Expr} (a it : Addr) : ze6 P w K tg (Itl K a) [it] it (fun i h => h.IsListIter it a i) where
  mem := by simp
  obj := fun i h st b hb => by
    have e : b = it := by simpa using hb
    subst e; obtain ⟨o, e, c, d⟩ := st; exact ⟨o, e, fun v z => by rw [d] at z; cases z⟩
  keep := fun i h h' st k => st.at fun o e => k it (by simp) o e
  item := by
    intro X hP hw hK hc i pins s σ H E I hf st hg; subst hP hw hK; obtain ⟨xs, x, hq, hx⟩ := hg; obtain ⟨its, rv, p, hz⟩ := I.list hq; obtain ⟨u, hu, ru⟩ := rv.get hx; obtain ⟨f0, f1, f2, f3, f4, f5⟩ := hf it (by simp)
    refine wpAny_pyNext_list_item st p.isList (x := u) (by simpa using hu) fun h' st' sb => ?_
    have I1 : Inv X pins σ H { s with heap := h' } := I.turned (t' := s.toks) (fun b o hb e => (sb.2 b hb).trans e) f0 f1 f3 f4 f5
    obtain ⟨o, e, c, d⟩ := id st'; exact ⟨u, rfl, zgN (s := { s with heap := h' }) e c d (by decide) ⟨x, H, I1, ru, ⟨rfl, fun ys hy => by rw [I.list_inj hy hq]; exact hx⟩, st', fun b hb => (hf b hb).1⟩⟩
  done := by
    intro X hP hw hK hc i pins s σ H E I hf st hg; subst hP hw hK; obtain ⟨xs, hq, hx⟩ := hg; obtain ⟨its, rv, p, hz⟩ := I.list hq; obtain ⟨f0, f1, f2, f3, f4, f5⟩ := hf it (by simp)
    have hl := rv.length; exact wpAny_pyNext_list_end (I.ok.hd hc) st p.isList (by simp; omega) fun h' eb => ⟨rfl, I.turned (t' := s.toks) (fun b o hb e => eb b o hb e) f0 f1 f3 f4 f5⟩
  self := fun _ _ _ _ _ st h => wpAny_pyIter_listiter st h
theorem zhc {P : Program} {w : World} {K : PySem.W.Frag} {tg : Expr} (it : Addr) (lo : Int) (n : Nat) : ze6 P w K tg (Itr lo n) [it] it (fun i h => IsRangeIter h it (lo + (i : Nat) * 1) ((n : Int) - (i : Nat)) 1) where
  mem := by simp
  obj := fun i h st b hb => by
    have e : b = it := by simpa using hb
    subst e
    exact ⟨_, st, fun v z => by
      have z' : Data.fields _ = Data.cell v := z
      cases z'⟩
  keep := fun i h h' st k => k it (by simp) _ st
  item := by
    intro X hP hw hK hc i pins s σ H E I hf st hg; subst hP hw hK; obtain ⟨f0, f1, f2, f3, f4, f5⟩ := hf it (by simp)
    have W := Walks.range (prog := X.prog) (w := X.w) (I.ok.hd hc) it lo 1 n; refine W.item i s _ _ hg st fun v h' tk hv st' kk => ?_; obtain ⟨t, rfl⟩ := hv; have I1 : Inv X pins σ H { s with heap := h', toks := tk } := I.turned (fun b o hb e => kk b o (by simpa using hb) e) f0 f1 f3 f4 f5
    refine ⟨_, rfl, zgN (s := { s with heap := h', toks := tk }) (n := "range_iterator") st' rfl rfl (by decide) ⟨.int (lo + i), H, I1, ⟨t, ?_⟩, ⟨rfl, rfl⟩, st', fun b hb => (hf b hb).1⟩⟩
    rw [Int.mul_one]
  done := by
    intro X hP hw hK hc i pins s σ H E I hf st hg; subst hP hw hK; obtain ⟨f0, f1, f2, f3, f4, f5⟩ := hf it (by simp)
    exact wpAny_pyNext_range_end (I.ok.hd hc) st (by have : n <= i := hg; omega) fun h' eb => ⟨rfl, I.turned (t' := s.toks) (fun b o hb e => eb b o hb e) f0 f1 f3 f4 f5⟩
  self := fun _ _ _ _ _ st h => wpAny_pyIter_rangeiter st h
end L2
namespace L2
open PySem PySem.Spec PyProof.Rows
section
variable {X : Cx} {tg : Expr}
def zkY (K : PySem.W.Frag) (tl : TE) : TI := fun σ H R => tl σ H fun x H1 => ∃ a, x = .ref a /\ (∃ xs, SqL K H1 a xs) /\ R (Itl K a) H1
theorem zax {l : Expr} {tl : TE} (hl : PE X l tl) : PI X tg l (zkY X.K tl) := by
  intro pins s σ H R I h; refine thn (hl pins s σ H _ I h) fun v s1 ⟨x, H1, I1, r1, q1⟩ => ?_; obtain ⟨a, e, ⟨xs, hq⟩, q⟩ := q1; subst e; cases r1; obtain ⟨its, rv, p, hz⟩ := I1.list hq; refine wpAny_pyIter_list p.isList ?_; refine ⟨s1.heap.objs.size, [s1.heap.objs.size], _, _, H1, rfl, I1.kept (t' := s1.toks) fun b o e => Heap.get?_push_of_some _ e, ziq a _, ⟨_, Heap.get?_push_size _ rfl, rfl, rfl⟩, fun b hb => ?_, q⟩; have e : b = s1.heap.objs.size := by simpa using hb
  subst e; exact I1.fpOk (Nat.le_refl _) (I1.hok.fresh (Nat.le_refl _))
theorem zjM {pins : List (Addr × Obj)} {σ : St} {H : Hp} {s : Shared} {R : It -> Hp -> Prop} {E : Value -> Shared -> Prop} {lo hi : Int} {t u v : Tok} {tk : Nat} (I : Inv X pins σ H s) (h1 : -(2 ^ 62) <= lo) (h2 : lo < 2 ^ 62) (h3 : -(2 ^ 62) <= hi) (h4 : hi < 2 ^ 62)
    (q : R (Itr lo (hi - lo).toNat) H) : wpAny (model X.prog X.w) X.A (pyIter (.ref s.heap.objs.size)) (PIE X pins σ tg R) E { s with heap := s.heap.push { cls := .type "range", data := .fields #[.int lo t, .int hi u, .int 1 v] }, toks := tk } := by
  refine wpAny_pyIter_range (IsRange.new ..) (small_one h1 h2 h3 h4) ?_; have I1 : Inv X pins σ H { s with heap := s.heap.push { cls := .type "range", data := .fields #[.int lo t, .int hi u, .int 1 v] }, toks := tk } := I.kept fun b o e => Heap.get?_push_of_some _ e
  refine ⟨(s.heap.push { cls := .type "range", data := .fields #[.int lo t, .int hi u, .int 1 v] }).objs.size, [(s.heap.push { cls := .type "range", data := .fields #[.int lo t, .int hi u, .int 1 v] }).objs.size], _, _, H, rfl,
    I1.kept (t' := tk) fun b o e => Heap.get?_push_of_some _ e, zhc _ lo (hi - lo).toNat, ?_, fun b hb => ?_, q⟩
  . have e1 : lo + ((0 : Nat) : Int) * 1 = lo := by simp
    have e2 : (((hi - lo).toNat : Nat) : Int) - ((0 : Nat) : Int) = Builtin.Range.rangeSize lo hi 1 := by rw [rangeSize_one]; split <;> omega
    show IsRangeIter _ _ (lo + ((0 : Nat) : Int) * 1) ((((hi - lo).toNat : Nat) : Int) - ((0 : Nat) : Int)) 1; rw [e1, e2]; exact Heap.get?_push_size _ rfl
  . have e : b = (s.heap.push { cls := .type "range", data := .fields #[.int lo t, .int hi u, .int 1 v] }).objs.size := by simpa using hb
    subst e; exact I1.fpOk (Nat.le_refl _) (I1.hok.fresh (Nat.le_refl _))
def zna (ta : TA) : TI := fun σ H R => ta σ H fun vs H1 => ∃ j : Int, vs = [.int j] /\ -(2 ^ 62) <= j /\ j < 2 ^ 62 /\ R (Itr 0 j.toNat) H1
theorem zcC {a : Expr} {ta : TA} {p pos : Pos} (hg : Gl X "range") (hm : X.mg "range" = none) (ha : PA X [a] ta) (hs : starEach [a] X.env = [(false, eval a X.env)] := by rfl) : PI X tg (.Call (.Name "range" p) [a] [] pos) (zna ta) := by
  intro pins s σ H R I h; refine Call_ (zc8 I hg hm boot_range (PyProof.Rows.callWith_type1 (thn (ha pos pins s σ H _ I h) fun us s1 ⟨vs, H1, I1, r1, q1⟩ => ?_) hs rfl)); obtain ⟨j, e, q1, q2, q⟩ := q1; subst e
  cases r1 with
  | cons r rr =>
    cases rr; obtain ⟨t, rfl⟩ := r; exact call_range_1 (zjM I1 (by omega) (by omega) q1 q2 (by simpa using q))
def zno (wi : TI) (g : TG) (tb : TS) : TS := fun D σ H => wi σ H fun J H1 => ∃ W : Nat -> Nat -> St -> Hp -> Prop, (∃ m, W 0 m σ H1) /\ ∀ i m σ H, W i m σ H →
  (J.stop i H /\ D.nx σ H) \/ (J.go i H /\ ∃ N : St -> Hp -> Prop, (∀ σ' H', N σ' H' -> ∃ m', m' < m /\ W (i + 1) m' σ' H') /\ ∀ x H', J.yld i H x H' -> g x σ H' fun σ2 H2 => tb { D with nx := N, ct := N, bk := D.nx } σ2 H2)
def zdJ (fp : List Addr) (h : Heap) : List (Addr × Obj) := fp.filterMap fun b => (h.get? b).map fun o => (b, o)
theorem zbm {fp : List Addr} {h : Heap} {b : Addr} {o : Obj} (hb : b ∈ fp) (e : h.get? b = some o) : (b, o) ∈ zdJ fp h := List.mem_filterMap.mpr ⟨b, hb, by rw [e]; rfl⟩
theorem ziG {fp : List Addr} {h : Heap} {p : Addr × Obj} (hp : p ∈ zdJ fp h) : p.1 ∈ fp /\ h.get? p.1 = some p.2 := by
  obtain ⟨b, hb, e⟩ := List.mem_filterMap.mp hp
  cases q : h.get? b with
  | none => rw [q] at e; cases e
  | some o =>
    rw [q] at e; have e' : (b, o) = p := Option.some.inj e; subst e'; exact ⟨hb, q⟩
theorem Inv.pinned {pins : List (Addr × Obj)} {σ : St} {H : Hp} {s : Shared} {fp : List Addr} (I : Inv X pins σ H s) (hf : ∀ b ∈ fp, zcu X pins H b) (ho : ∀ b ∈ fp, ∃ o, s.heap.get? b = some o /\ ∀ v, o.data ≠ .cell v) : Inv X (pins ++ zdJ fp s.heap) σ H s :=
  I.pins_of fun p hp => (List.mem_append.mp hp).elim (fun z => I.pin p (List.mem_append_right _ z)) fun z => by
    obtain ⟨hb, e⟩ := ziG z; obtain ⟨f0, f1, f2, _⟩ := hf p.1 hb; obtain ⟨o, e', d⟩ := ho p.1 hb; rw [e] at e'; cases e'; exact ⟨e, f0, f1, f2, d⟩
theorem Inv.unpinned {pins pl : List (Addr × Obj)} {σ : St} {H : Hp} {s : Shared} (I : Inv X (pins ++ pl) σ H s) : Inv X pins σ H s := I.pins_of fun p hp => I.pin p (List.mem_append_right _ (List.mem_append_left _ hp))
theorem zaT {iter : Expr} {body : List Stmt} {wi : TI} {g : TG} {tb : TS} {pos : Pos} (hp : PassesOwn (model X.prog X.w) X.A X.env X.xe) (hc : X.calm = true) (hi : PI X tg iter wi) (hg : PG X tg g) (hb : PSs X body tb)
    (hs : ∀ x, foldedSetIterable iter X.env x = pure x := by intro _; rfl) : PS X (.For tg iter body [] pos) (zno wi g tb) := by
  intro pins s σ H D I h; refine wpAny_For (thn (hi pins s σ H _ I h) fun v s1 h1 => thn h1 fun itv s2 h2 => ?_) hs; obtain ⟨it, fp, tn, J, H2, e, I2, T, st2, f2, W, ⟨m0, w0⟩, turn⟩ := h2; subst e; have stat : ∀ {H' : Hp}, (∀ b ∈ fp, H' b = none) -> ∀ b ∈ fp, zcu X pins H' b := fun hn b hb => ⟨hn b hb, (f2 b hb).2⟩; refine codeAny_forLoop_any (fun n s' => ∃ i σ' H', Inv X pins σ' H' s' /\ tn i s'.heap /\ (∀ b ∈ fp, H' b = none) /\ W i n σ' H') ?_ m0 ⟨0, σ, H2, I2, st2, fun b hb => (f2 b hb).1, w0⟩; rintro n s3 ⟨i, σ3, H3, I3, st3, fr3, w3⟩
  rcases turn i n σ3 H3 w3 with ⟨stop, qn⟩ | ⟨go, N, hN, step⟩
  . refine wpAny_passesOwn hp (thn (T.done X rfl rfl rfl hc i pins s3 σ3 H3 X.xe I3 (stat fr3) st3 stop) fun r s4 ⟨hr, I4⟩ => ?_); subst hr; exact wpAny_execs_nil ⟨σ3, H3, I4, qn⟩
  . refine wpAny_passesOwn hp (thn (T.item X rfl rfl rfl hc i pins s3 σ3 H3 X.xe I3 (stat fr3) st3 go) fun r s4 ⟨u, hr, h4⟩ => ?_); subst hr; refine wpAny_passesOwn hp (thn h4 fun _ s5 ⟨x, H5, I5, r5, y5, st5, fr5⟩ => ?_); have I5' := I5.pinned (stat fr5) (T.obj _ _ st5); refine wpAny_passesOwn hp (thn (hg _ s5 σ3 H5 x u _ I5' r5 (step x H5 y5)) fun _ s6 ⟨σ6, H6, I6, q6⟩ => ?_); refine wpAny_passesOwn hp (thn (hb _ s6 σ6 H6 _ I6 q6) fun f s7 q7 => ?_)
    have again : ∀ {σ7 : St} {H7 : Hp}, Inv X (pins ++ zdJ fp s5.heap) σ7 H7 s7 -> N σ7 H7 -> ∃ m, m < n /\ ∃ i σ' H', Inv X pins σ' H' s7 /\ tn i s7.heap /\ (∀ b ∈ fp, H' b = none) /\ W i m σ' H' := fun {σ7 H7} I7 n7 => by
      obtain ⟨m', hm, w7⟩ := hN σ7 H7 n7; refine ⟨m', hm, i + 1, σ7, H7, I7.unpinned, T.keep _ _ _ st5 fun b hb o e => (I7.pin (b, o) (List.mem_append_right _ (List.mem_append_right _ (zbm hb e)))).1, fun b hb => ?_, w7⟩; obtain ⟨o, e, d⟩ := T.obj _ _ st5 b hb; exact (I7.pin (b, o) (List.mem_append_right _ (List.mem_append_right _ (zbm hb e)))).2.1
    cases f with
    | next => obtain ⟨σ7, H7, I7, n7⟩ := q7; exact again I7 n7
    | cont => obtain ⟨σ7, H7, I7, n7⟩ := q7; exact again I7 n7
    | brk => obtain ⟨σ7, H7, I7, q7⟩ := q7; exact ⟨σ7, H7, I7.unpinned, q7⟩
    | ret v => obtain ⟨x7, σ7, H7, I7, r7, q7⟩ := q7; exact ⟨x7, σ7, H7, I7.unpinned, r7, q7⟩
end
theorem zaV {K : PySem.W.Frag} {a : Addr} {xs : List V} {g : TG} {tb : TS} {D : zci} {σ : St} {H : Hp} (Pv : Nat -> St -> Hp -> Prop) (h0 : Pv 0 σ H) (hl : ∀ i σ H, i <= xs.length -> Pv i σ H -> SqL K H a xs)
    (hs : ∀ i x σ H, xs[i]? = some x -> Pv i σ H -> g x σ H fun σ2 H2 => tb { D with nx := Pv (i + 1), ct := Pv (i + 1), bk := D.nx } σ2 H2) (hd : ∀ σ H, Pv xs.length σ H -> D.nx σ H) :
    ∃ W : Nat -> Nat -> St -> Hp -> Prop, (∃ m, W 0 m σ H) /\ ∀ i m σ H, W i m σ H →
      ((Itl K a).stop i H /\ D.nx σ H) \/ ((Itl K a).go i H /\ ∃ N : St -> Hp -> Prop, (∀ σ' H', N σ' H' -> ∃ m', m' < m /\ W (i + 1) m' σ' H') /\ ∀ x H', (Itl K a).yld i H x H' -> g x σ H' fun σ2 H2 => tb { D with nx := N, ct := N, bk := D.nx } σ2 H2) := by
  refine ⟨fun i m σ H => m = xs.length - i /\ i <= xs.length /\ Pv i σ H, ⟨xs.length, by simp, Nat.zero_le _, h0⟩, ?_⟩
  rintro i m σ H ⟨rfl, hi, p⟩; have q := hl i σ H hi p
  by_cases hlt : i < xs.length
  . refine .inr ⟨⟨xs, xs[i], q, by simp [hlt]⟩, Pv (i + 1), fun σ' H' p' => ⟨xs.length - (i + 1), by omega, rfl, hlt, p'⟩, fun x H' y => ?_⟩
    obtain ⟨e, y⟩ := y; subst e; exact hs i x σ _ (y xs q) p
  . have e : i = xs.length := by omega
    subst e; exact .inl ⟨⟨xs, q, Nat.le_refl _⟩, hd σ H p⟩
theorem ziD {lo : Int} {n : Nat} {g : TG} {tb : TS} {D : zci} {σ : St} {H : Hp} (Pv : Nat -> St -> Hp -> Prop) (h0 : Pv 0 σ H)
    (hs : ∀ i σ H, i < n -> Pv i σ H -> g (.int (lo + i)) σ H fun σ2 H2 => tb { D with nx := Pv (i + 1), ct := Pv (i + 1), bk := D.nx } σ2 H2) (hd : ∀ σ H, Pv n σ H -> D.nx σ H) :
    ∃ W : Nat -> Nat -> St -> Hp -> Prop, (∃ m, W 0 m σ H) /\ ∀ i m σ H, W i m σ H →
      ((Itr lo n).stop i H /\ D.nx σ H) \/ ((Itr lo n).go i H /\ ∃ N : St -> Hp -> Prop, (∀ σ' H', N σ' H' -> ∃ m', m' < m /\ W (i + 1) m' σ' H') /\ ∀ x H', (Itr lo n).yld i H x H' -> g x σ H' fun σ2 H2 => tb { D with nx := N, ct := N, bk := D.nx } σ2 H2) := by
  refine ⟨fun i m σ H => m = n - i /\ i <= n /\ Pv i σ H, ⟨n, by simp, Nat.zero_le _, h0⟩, ?_⟩
  rintro i m σ H ⟨rfl, hi, p⟩
  by_cases hlt : i < n
  . refine .inr ⟨hlt, Pv (i + 1), fun σ' H' p' => ⟨n - (i + 1), by omega, rfl, hlt, p'⟩, fun x H' y => ?_⟩
    obtain ⟨e, y⟩ := y; subst e y; exact hs i σ _ hlt p
  . have e : i = n := by omega
    subst e; exact .inl ⟨Nat.le_refl _, hd σ H p⟩
end L2
namespace L2
open PySem PySem.Spec PyProof.Rows
abbrev R2 := V -> V -> Hp -> VK -> Prop
def OpR (X : Cx) (f : Value -> Value -> Sem Value) (r : R2) : Prop :=
  ∀ (pins : List (Addr × Obj)) (s : Shared) (σ : St) (H : Hp) (x y : V) (v u : Value) (Q : VK), Inv X pins σ H s -> RelV x v -> RelV y u -> r x y H Q →
    wpAny (model X.prog X.w) X.A (f v u) (EP X pins σ Q) X.xe s
def UnR (X : Cx) (f : Value -> Sem Value) (r : V -> Hp -> VK -> Prop) : Prop :=
  ∀ (pins : List (Addr × Obj)) (s : Shared) (σ : St) (H : Hp) (x : V) (v : Value) (Q : VK), Inv X pins σ H s -> RelV x v -> r x H Q →
    wpAny (model X.prog X.w) X.A (f v) (EP X pins σ Q) X.xe s
def zbF (X : Cx) (f : Value) (r : List V -> Hp -> VK -> Prop) : Prop :=
  ∀ (pins : List (Addr × Obj)) (s : Shared) (σ : St) (H : Hp) (xs : List V) (us : List Value) (Q : VK), Inv X pins σ H s -> Vals xs us -> r xs H Q →
    wpAny (model X.prog X.w) X.A (call f us) (EP X pins σ Q) X.xe s
def znA (X : Cx) (r : V -> Hp -> (Bool -> Hp -> Prop) -> Prop) : Prop :=
  ∀ (pins : List (Addr × Obj)) (s : Shared) (σ : St) (H : Hp) (x : V) (v : Value) (Q : Bool -> Hp -> Prop), Inv X pins σ H s -> RelV x v -> r x H Q →
    wpAny (model X.prog X.w) X.A (truthy v) (TP X pins σ Q) X.xe s
def tOp (r : R2) (ta tb : TE) : TE := fun σ H Q => ta σ H fun x H1 => tb σ H1 fun y H2 => r x y H2 Q
def tUn (r : V -> Hp -> VK -> Prop) (ta : TE) : TE := fun σ H Q => ta σ H fun x H1 => r x H1 Q
inductive QInt (x y : V) (Q : Int → Int → Prop) : Prop
  | mk (i j : Int) (h1 : x = .int i) (h2 : y = .int j) (k : Q i j) : QInt x y Q
def rI (C : Int → Int → Prop) (g : Int → Int → V) : R2 := fun x y H Q => QInt x y (fun i j => C i j ∧ Q (g i j) H)
def rI0 (g : Int → Int → V) : R2 := fun x y H Q => QInt x y (fun i j => Q (g i j) H)
def rU (g : Int -> V) : V -> Hp -> VK -> Prop := fun x H Q => ∃ i, x = .int i /\ Q (g i) H
section
variable {X : Cx} {a b c : Expr} {ta tb tc : TE} {pos : Pos}
theorem zlB (ha : PE X a ta) (hb : PE X b tb) {pins : List (Addr × Obj)} {s : Shared} {σ : St} {H : Hp} {R : V -> V -> Hp -> Prop} (I : Inv X pins σ H s)
    (h : ta σ H fun x H1 => tb σ H1 fun y H2 => R x y H2) {Q : Value -> Shared -> Prop} {f : Value -> Value -> Sem Value}
    (hf : ∀ v u s2 x y H2, Inv X pins σ H2 s2 -> RelV x v -> RelV y u -> R x y H2 -> wpAny (model X.prog X.w) X.A (f v u) Q X.xe s2) :
    wpAny (model X.prog X.w) X.A (eval a X.env) (fun v s₁ => wpAny (model X.prog X.w) X.A (eval b X.env) (fun u s₂ => wpAny (model X.prog X.w) X.A (f v u) Q X.xe s₂) X.xe s₁) X.xe s := by
  refine thn (ha pins s σ H _ I h) fun v s1 ⟨x, H1, I1, r1, q1⟩ => ?_; refine thn (hb pins s1 σ H1 _ I1 q1) fun u s2 ⟨y, H2, I2, r2, q2⟩ => ?_; exact hf v u s2 x y H2 I2 r1 r2 q2
theorem zaW {op : Operator} {r : R2} (ho : OpR X (binaryOp op) r) (ha : PE X a ta) (hb : PE X b tb) : PE X (.BinOp a op b pos) (tOp r ta tb) := by
  intro pins s σ H Q I h; exact wpAny_BinOp (zlB ha hb I h fun v u s2 x y H2 I2 rx ry q => ho pins s2 σ H2 x y v u Q I2 rx ry q)
theorem zjF {op : UnaryOp} {r : V -> Hp -> VK -> Prop} (ho : UnR X (unaryOp op) r) (ha : PE X a ta) : PE X (.UnaryOp op a pos) (tUn r ta) := by
  intro pins s σ H Q I h; exact UnaryOp_ (thn (ha pins s σ H _ I h) fun v s1 ⟨x, H1, I1, r1, q1⟩ => ho pins s1 σ H1 x v Q I1 r1 q1)
theorem opI {f : Value -> Value -> Sem Value} {C : Int -> Int -> Prop} {g : Int -> Int -> Int}
    (rule : ∀ (i j : Int) (t u : Tok) (s : Shared) (Q : Value -> Shared -> Prop) (E : Value -> Shared -> Prop), C i j -> Q (.int (g i j) s.toks) { s with toks := s.toks + 1 } -> wpAny (model X.prog X.w) X.A (f (.int i t) (.int j u)) Q E s) :
    OpR X f (rI C fun i j => .int (g i j)) := by
  intro pins s σ H x y v u Q I rx ry h; obtain ⟨i, j, rfl, rfl, hc, q⟩ := h; obtain ⟨t, rfl⟩ := rx; obtain ⟨t', rfl⟩ := ry; exact rule i j t t' s _ _ hc ⟨.int (g i j), H, I.tok _, ⟨_, rfl⟩, q⟩
theorem znb {f : Value -> Value -> Sem Value} {g : Int -> Int -> Int}
    (rule : ∀ (i j : Int) (t u : Tok) (s : Shared) (Q : Value -> Shared -> Prop) (E : Value -> Shared -> Prop), Q (.int (g i j) s.toks) { s with toks := s.toks + 1 } -> wpAny (model X.prog X.w) X.A (f (.int i t) (.int j u)) Q E s) :
    OpR X f (rI0 fun i j => .int (g i j)) := by
  intro pins s σ H x y v u Q I rx ry h; obtain ⟨i, j, rfl, rfl, q⟩ := h; obtain ⟨t, rfl⟩ := rx; obtain ⟨t', rfl⟩ := ry; exact rule i j t t' s _ _ ⟨.int (g i j), H, I.tok _, ⟨_, rfl⟩, q⟩
theorem zkv {f : Value -> Value -> Sem Value} {g : Int -> Int -> Bool}
    (rule : ∀ (i j : Int) (t u : Tok) (s : Shared) (Q : Value -> Shared -> Prop) (E : Value -> Shared -> Prop), Q (.bool (g i j)) s -> wpAny (model X.prog X.w) X.A (f (.int i t) (.int j u)) Q E s) :
    OpR X f (rI0 fun i j => .bl (g i j)) := by
  intro pins s σ H x y v u Q I rx ry h; obtain ⟨i, j, rfl, rfl, q⟩ := h; obtain ⟨t, rfl⟩ := rx; obtain ⟨t', rfl⟩ := ry; exact rule i j t t' s _ _ ⟨.bl (g i j), H, I, rfl, q⟩
def CMul (i j : Int) : Prop := (-(2 ^ 64) < i /\ i < 2 ^ 64) \/ (-(2 ^ 64) < j /\ j < 2 ^ 64)
theorem CMul.ok {i j : Int} (h : CMul i j) : IntMulOk i j := by
  rcases h with ⟨h1, h2⟩ | ⟨h1, h2⟩
  . exact .of_left (intBits_le_64 h1 h2)
  . exact .of_right (intBits_le_64 h1 h2)
theorem zfL : OpR X (binaryOp .Add) (rI0 fun i j => .int (i + j)) := znb fun _ _ _ _ _ _ _ q => add_int q
theorem zlP : OpR X (binaryOp .Sub) (rI0 fun i j => .int (i - j)) := znb fun _ _ _ _ _ _ _ q => sub_int q
theorem zfv : OpR X (binaryOp .Mult) (rI CMul fun i j => .int (i * j)) := opI fun _ _ _ _ _ _ _ hc q => mul_int q hc.ok
theorem zcw : OpR X (binaryOp .Mod) (rI (fun _ j => 0 < j) fun i j => .int (i % j)) := opI fun i j _ _ _ _ _ hc q => by
  have h1 : (0 : Int) < j := hc; exact mod_int' (by omega) (by rw [Int.fmod_eq_emod_of_nonneg i (by omega)]; exact q)
theorem unI {f : Value -> Sem Value} {g : Int -> Int}
    (rule : ∀ (i : Int) (t : Tok) (s : Shared) (Q : Value -> Shared -> Prop) (E : Value -> Shared -> Prop), Q (.int (g i) s.toks) { s with toks := s.toks + 1 } -> wpAny (model X.prog X.w) X.A (f (.int i t)) Q E s) :
    UnR X f (rU fun i => .int (g i)) := by
  intro pins s σ H x v Q I rx h; obtain ⟨i, rfl, q⟩ := h; obtain ⟨t, rfl⟩ := rx; exact rule i t s _ _ ⟨.int (g i), H, I.tok _, ⟨_, rfl⟩, q⟩
theorem zg1 : UnR X (unaryOp .USub) (rU fun i => .int (-i)) := unI fun _ _ _ _ _ q => neg_int q
end
def zmH : V -> V -> Bool
  | .non, .non => true | .non, .int _ => true | .int _, .non => true | .non, .bl _ => true | .bl _, .non => true | .non, .str _ => true | .str _, .non => true
  | .int _, .int _ => true | .bl _, .bl _ => true | .str _, .str _ => true | .byt _, .byt _ => true
  | .int _, .str _ => true | .str _, .int _ => true | .bl _, .str _ => true | .str _, .bl _ => true
  | _, _ => false
def rEq : R2 := fun x y H Q => zmH x y = true /\ Q (.bl (decide (x = y))) H
def rNe : R2 := fun x y H Q => zmH x y = true /\ Q (.bl (!decide (x = y))) H
theorem zbG {i j : Int} : decide (V.int i = V.int j) = (i == j) := by
  rw [Bool.eq_iff_iff]; simp
theorem zjf {i j : Bool} : decide (V.bl i = V.bl j) = (i == j) := by
  rw [Bool.eq_iff_iff]; simp
theorem zhL {i j : Str} : decide (V.str i = V.str j) = (i == j) := by
  rw [Bool.eq_iff_iff]; simp
theorem zh0 {i j : Array UInt8} : decide (V.byt i = V.byt j) = (i.toList == j.toList) := by
  rw [Bool.eq_iff_iff]; cases i; cases j; simp
section
variable {X : Cx} {a b c : Expr} {ta tb tc : TE} {pos : Pos}
theorem zaB {pins : List (Addr × Obj)} {σ : St} {H : Hp} {s : Shared} {Q : VK} {k k' : Bool} (I : Inv X pins σ H s) (q : Q (.bl k) H) (e : k = k') : EP X pins σ Q (.bool k') s := by
  subst e; exact ⟨.bl k, H, I, rfl, q⟩
theorem za7 : OpR X (compareOp .Eq) rEq := by
  intro pins s σ H x y v u Q I rx ry h; obtain ⟨hs, q⟩ := h
  cases x with
  | non =>
    cases rx
    cases y with
    | non => cases ry; exact PySem.EqNone.eq_none_none (zaB I q (by simp))
    | bl j => cases ry; exact PySem.EqNone.eq_none_bool (zaB I q (by simp))
    | int j => obtain ⟨t', rfl⟩ := ry; exact PySem.EqNone.eq_none_int (zaB I q (by simp))
    | str j => obtain ⟨t', rfl⟩ := ry; exact PySem.EqNone.eq_none_str (zaB I q (by simp))
    | _ => exact absurd (show false = true from hs) Bool.false_ne_true
  | bl i =>
    cases rx
    cases y with
    | non => cases ry; exact PySem.EqNone.eq_bool_none (zaB I q (by simp))
    | bl j => cases ry; exact eq_bool (zaB I q zjf)
    | str j => obtain ⟨t', rfl⟩ := ry; exact PySem.EqMixed.eq_bool_str (zaB I q (by simp))
    | _ => exact absurd (show false = true from hs) Bool.false_ne_true
  | int i =>
    obtain ⟨t, rfl⟩ := rx
    cases y with
    | non => cases ry; exact PySem.EqNone.eq_int_none (zaB I q (by simp))
    | int j => obtain ⟨t', rfl⟩ := ry; exact eq_int (zaB I q zbG)
    | str j => obtain ⟨t', rfl⟩ := ry; exact PySem.EqMixed.eq_int_str (zaB I q (by simp))
    | _ => exact absurd (show false = true from hs) Bool.false_ne_true
  | str i =>
    obtain ⟨t, rfl⟩ := rx
    cases y with
    | non => cases ry; exact PySem.EqNone.eq_str_none (zaB I q (by simp))
    | bl j => cases ry; exact PySem.EqMixed.eq_str_bool (zaB I q (by simp))
    | int j => obtain ⟨t', rfl⟩ := ry; exact PySem.EqMixed.eq_str_int (zaB I q (by simp))
    | str j => obtain ⟨t', rfl⟩ := ry; exact eq_str (zaB I q zhL)
    | _ => exact absurd (show false = true from hs) Bool.false_ne_true
  | byt i =>
    obtain ⟨t, rfl⟩ := rx
    cases y with
    | byt j => obtain ⟨t', rfl⟩ := ry; exact PySem.W.eq_bytes (zaB I q zh0)
    | _ => exact absurd (show false = true from hs) Bool.false_ne_true
  | _ => cases y <;> exact absurd (show false = true from hs) Bool.false_ne_true
theorem zcI : OpR X (compareOp .NotEq) rNe := by
  intro pins s σ H x y v u Q I rx ry h; obtain ⟨hs, q⟩ := h
  cases x with
  | non =>
    cases rx
    cases y with
    | non => cases ry; exact PySem.EqNone.ne_none_none (zaB I q (by simp))
    | bl j => cases ry; exact PySem.EqNone.ne_none_bool (zaB I q (by simp))
    | int j => obtain ⟨t', rfl⟩ := ry; exact PySem.EqNone.ne_none_int (zaB I q (by simp))
    | str j => obtain ⟨t', rfl⟩ := ry; exact PySem.EqNone.ne_none_str (zaB I q (by simp))
    | _ => exact absurd (show false = true from hs) Bool.false_ne_true
  | bl i =>
    cases rx
    cases y with
    | non => cases ry; exact PySem.EqNone.ne_bool_none (zaB I q (by simp))
    | bl j => cases ry; exact ne_bool (zaB I q (congrArg not zjf))
    | str j => obtain ⟨t', rfl⟩ := ry; exact PySem.EqMixed.ne_bool_str (zaB I q (by simp))
    | _ => exact absurd (show false = true from hs) Bool.false_ne_true
  | int i =>
    obtain ⟨t, rfl⟩ := rx
    cases y with
    | non => cases ry; exact PySem.EqNone.ne_int_none (zaB I q (by simp))
    | int j => obtain ⟨t', rfl⟩ := ry; exact ne_int (zaB I q (congrArg not zbG))
    | str j => obtain ⟨t', rfl⟩ := ry; exact PySem.EqMixed.ne_int_str (zaB I q (by simp))
    | _ => exact absurd (show false = true from hs) Bool.false_ne_true
  | str i =>
    obtain ⟨t, rfl⟩ := rx
    cases y with
    | non => cases ry; exact PySem.EqNone.ne_str_none (zaB I q (by simp))
    | bl j => cases ry; exact PySem.EqMixed.ne_str_bool (zaB I q (by simp))
    | int j => obtain ⟨t', rfl⟩ := ry; exact PySem.EqMixed.ne_str_int (zaB I q (by simp))
    | str j => obtain ⟨t', rfl⟩ := ry; exact ne_str (zaB I q (congrArg not zhL))
    | _ => exact absurd (show false = true from hs) Bool.false_ne_true
  | byt i =>
    obtain ⟨t, rfl⟩ := rx
    cases y with
    | byt j => obtain ⟨t', rfl⟩ := ry; exact PySem.W.ne_bytes (zaB I q (congrArg not zh0))
    | _ => exact absurd (show false = true from hs) Bool.false_ne_true
  | _ => cases y <;> exact absurd (show false = true from hs) Bool.false_ne_true
theorem zmu : OpR X (compareOp .Lt) (rI0 fun i j => .bl (decide (i < j))) := zkv fun _ _ _ _ _ _ _ q => lt_int q
theorem zm1 : OpR X (compareOp .LtE) (rI0 fun i j => .bl (decide (i <= j))) := zkv fun _ _ _ _ _ _ _ q => le_int q
theorem zk2 : OpR X (compareOp .Gt) (rI0 fun i j => .bl (decide (j < i))) := zkv fun _ _ _ _ _ _ _ q => gt_int q
theorem zmE : OpR X (compareOp .GtE) (rI0 fun i j => .bl (decide (j <= i))) := zkv fun _ _ _ _ _ _ _ q => ge_int q
theorem zlb : OpR X (compareOp .Is) (fun x y H Q => y = .non /\ Q (.bl (decide (x = .non))) H) := by
  intro pins s σ H x y v u Q I rx ry h; obtain ⟨rfl, q⟩ := h; cases ry; refine is_none_gen (zaB I q ?_)
  cases x <;> first
    | (cases rx; rfl)
    | (obtain ⟨t, rfl⟩ := rx; rfl)
theorem zat (b : Expr) {op : CmpOp} (h : op ≠ .In := by decide) (h2 : op ≠ .NotIn := by decide) : behindInMarks op b = false := by
  have e1 : (op == CmpOp.In) = false := by cases op <;> first | rfl | exact absurd rfl h
  have e2 : (op == CmpOp.NotIn) = false := by cases op <;> first | rfl | exact absurd rfl h2
  cases b <;> simp [behindInMarks, e1, e2]
theorem zbR {op : CmpOp} {r : R2} (ho : OpR X (compareOp op) r) (ha : PE X a ta) (hb : PE X b tb) (hm : behindInMarks op b = false) : PE X (.Compare a [op] [b] pos) (tOp r ta tb) := by
  intro pins s σ H Q I h; exact wpAny_Compare1 (zlB ha hb I h fun v u s2 x y H2 I2 rx ry q => ho pins s2 σ H2 x y v u Q I2 rx ry q) hm
def zms (t : TE) : TT := fun σ H Q => t σ H fun x H' => QBl x (fun k => Q k H')
theorem zar {op : CmpOp} {r : R2} (ho : OpR X (compareOp op) r) (ha : PE X a ta) (hb : PE X b tb) (hm : behindInMarks op b = false) : PT X (.Compare a [op] [b] pos) (zms (tOp r ta tb)) := by
  intro pins s σ H Q I h
  refine wpAny_isTrue_Compare1 (thn (ha pins s σ H _ I h) fun v s1 ⟨x, H1, I1, r1, q1⟩ => thn (hb pins s1 σ H1 _ I1 q1) fun u s2 ⟨y, H2, I2, r2, q2⟩ =>
    thn (ho pins s2 σ H2 x y v u _ I2 r1 r2 q2) fun c s3 ⟨z, H3, I3, r3, k, e, q3⟩ => ?_) hm
  subst e; cases r3; exact wpAny_truthy_bool ⟨H3, I3, q3⟩
def zlE (K : PySem.W.Frag) (x : V) (H : Hp) (k : Bool) : Prop :=
  match x with
  | .non => k = false
  | .bl b => k = b
  | .int i => k = (i != 0)
  | .str y => y.length <= sizeLine /\ k = ((y.length : Int) != 0)
  | .byt y => y.size <= sizeLine /\ k = ((y.size : Int) != 0)
  | .ref p => (∃ xs, SqL K H p xs /\ k = !xs.isEmpty) \/ (∃ xs, SqT K H p xs /\ k = !xs.isEmpty) \/ ∃ kvs, H p = some (.dK kvs) /\ k = !kvs.isEmpty
  | _ => False
theorem zg4 {κ : Type} {kvs : List (κ × V)} {vs : List (κ × Value)} (r : KV kvs vs) : (!vs.isEmpty) = !kvs.isEmpty := by
  cases r <;> rfl
theorem zeS {xs : List V} {its : List Value} (r : Vals xs its) : (!its.toArray.isEmpty) = !xs.isEmpty := by
  cases r <;> simp
theorem zfP : (sizeLine : Nat) < 2 ^ 63 := by rw [sizeLine_eq]; decide
theorem zly : znA X (fun x H Q => ∃ k, zlE X.K x H k /\ Q k H) := by
  intro pins s σ H x v Q I rx h; obtain ⟨k, e, q⟩ := h; have hl := zfP; have hs : sizeLine = 16777216 := sizeLine_eq
  cases x with
  | non =>
    cases rx; have e' : k = false := e; subst e'; exact truthy_none ⟨H, I, q⟩
  | bl b =>
    cases rx; have e' : k = b := e; subst e'; exact wpAny_truthy_bool ⟨H, I, q⟩
  | int i =>
    obtain ⟨t, rfl⟩ := rx; have e' : k = (i != 0) := e; subst e'; exact PySem.P.truthy_int ⟨H, I, q⟩
  | str y =>
    obtain ⟨t, rfl⟩ := rx; obtain ⟨hy, e'⟩ : y.length <= sizeLine /\ k = ((y.length : Int) != 0) := e; subst e'; exact PySem.P.truthy_str (by omega) ⟨H, I.tok _, q⟩
  | byt y =>
    obtain ⟨t, rfl⟩ := rx; obtain ⟨hy, e'⟩ : y.size <= sizeLine /\ k = ((y.size : Int) != 0) := e; subst e'; exact PySem.W.truthy_bytes (by omega) ⟨H, I.tok _, q⟩
  | ref p =>
    cases rx; have e' : (∃ xs, SqL X.K H p xs /\ k = !xs.isEmpty) \/ (∃ xs, SqT X.K H p xs /\ k = !xs.isEmpty) \/ ∃ kvs, H p = some (.dK kvs) /\ k = !kvs.isEmpty := e
    rcases e' with ⟨xs, hx, e'⟩ | ⟨xs, hx, e'⟩ | ⟨kvs, hx, e'⟩
    . subst e'; obtain ⟨its, r, pl, hz⟩ := I.list hx; have hlen := r.length; exact wpAny_truthy_list pl.isList (by simp only [List.size_toArray]; omega) ⟨H, I.tok _, by rw [zeS r]; exact q⟩
    . subst e'; obtain ⟨its, r, pl, hz⟩ := I.tuple hx; have hlen := r.length; exact truthy_tuple pl (by simp only [List.size_toArray]; omega) ⟨H, I.tok _, by rw [zeS r]; exact q⟩
    . subst e'; obtain ⟨hz, hS, vs, r, m⟩ : kvs.length <= sizeLine /\ (p == sysModules) = false /\ ∃ vs, KV kvs vs /\ s.heap.DictOf (zaE X.prog X.w) p vs := I.hok p _ hx; have hlen : kvs.length = vs.length := Paired.length r; exact wpAny_truthy_dict hS m (by omega) ⟨H, I.tok _, by rw [zg4 r]; exact q⟩
  | _ => exact (show False from e).elim
theorem zct (ha : PE X a ta) (he : ∀ whole, isTrue a X.env whole = (do let v <- whole; standAt a.pos; holding [v] (truthy v))) :
    PT X a (fun σ H Q => ta σ H fun x H' => ∃ k, zlE X.K x H' k /\ Q k H') := by
  intro pins s σ H Q I h; exact isTrue_plain (thn (ha pins s σ H _ I h) fun v s1 ⟨x, H1, I1, r1, q1⟩ => zly pins s1 σ H1 x v Q I1 r1 q1) (he _)
theorem zcm {x : V} {us : List Value} (r : Vals [x] us) : ∃ u, us = [u] /\ RelV x u := by
  cases r with
  | cons r1 r2 => cases r2; exact ⟨_, rfl, r1⟩
theorem zkT {x y : V} {us : List Value} (r : Vals [x, y] us) : ∃ u w', us = [u, w'] /\ RelV x u /\ RelV y w' := by
  cases r with
  | cons r1 r2 =>
    cases r2 with
    | cons r3 r4 => cases r4; exact ⟨_, _, rfl, r1, r3⟩
theorem zfd : zbF X (.type "int") (fun xs H Q => (∃ i, xs = [.int i] /\ Q (.int i) H) \/ ∃ k, xs = [.bl k] /\ Q (.int (if k then 1 else 0)) H) := by
  intro pins s σ H xs us Q I r h
  rcases h with ⟨i, rfl, q⟩ | ⟨k, rfl, q⟩
  . obtain ⟨u, rfl, t, rfl⟩ := zcm r; exact call_int_int ⟨.int i, H, I, ⟨_, rfl⟩, q⟩
  . obtain ⟨u, rfl, r1⟩ := zcm r; cases r1; exact call_int_bool ⟨.int (if k then 1 else 0), H, I.tok _, ⟨_, rfl⟩, q⟩
end
end L2
namespace L2
open PySem PySem.Spec PyProof.Rows
structure ObjM (h : Heap) (x dx C : Addr) (mA : Str -> Option Value) : Prop where
  obj : h.get? x = some (PySem.W.instObj C dx)
  ns : h.Ns1 dx mA
  ne : dx ≠ x
theorem ziK {h : Heap} {dx : Addr} {mA : Str -> Option Value} (n : h.Ns1 dx mA) : ∃ od, h.get? dx = some od /\ ∀ name, PySem.W.lookIn name od = some (mA name) := by
  obtain ⟨o, es, ep, ho, hd, hk, _, hm⟩ := n; refine ⟨o, ho, fun name => ?_⟩; have e := hm name; unfold nsFind findBy at e; rw [<- Array.find?_toList] at e; unfold PySem.W.lookIn; rw [hd]; dsimp only
  split
  . rename_i y q
    rw [q] at e; exact congrArg some e
  . rename_i q
    rw [q] at e
    have a : es.toList.any (·.refKey) = false := by
      rw [List.any_eq_false]; intro y hy; obtain ⟨z, t, hkey⟩ := hk y (Array.mem_toList_iff.mp hy); simp [DictEntry.refKey, hkey]
    have a' : ¬ es.toList.any (·.refKey) = true := by rw [a]; exact Bool.false_ne_true
    rw [if_neg a']; exact congrArg some e
theorem ObjM.look {h : Heap} {x dx C : Addr} {mA : Str -> Option Value} (I : ObjM h x dx C mA) : ∃ od, PySem.W.InstAt h x (PySem.W.instObj C dx) C (some od) /\ ∀ name, PySem.W.lookIn name od = some (mA name) :=
  let ⟨od, ho, hl⟩ := ziK I.ns
  ⟨od, ⟨I.obj, rfl, rfl, ho⟩, hl⟩
section
variable {prog : Program} {w : World} {A : Around} {E : Value -> Shared -> Prop} {s : Shared} {K : PySem.W.Frag} {x dx C f : Addr} {mA : Str -> Option Value} {name : Str} {v : Value}
end
theorem RelO.some_of {v : V} {o : Option Value} (r : RelO (some v) o) : ∃ u, o = some u /\ RelV v u := by
  cases o with
  | none => exact (show False from r).elim
  | some u => exact ⟨u, rfl, r⟩
section
variable {P : Program} {w : World} {H H' : Hp} {h h' : Heap} {a C dx : Addr} {fs fs' : List (Str × V)}
theorem zj5 (hok : HOk P w H h) (e : H a = some (.ins C dx fs)) : ∃ mA, ObjM h a dx C mA /\ (∀ f, RelO (fs.lookup f) (mA f)) /\ PySem.Within mA (fs.map (·.1)) /\ fs.length <= 1000 /\ H dx = some (.own a) := by
  obtain ⟨d, z, ne, ob, mA, n, r, q⟩ := (show ObjOk P w H h a (.ins C dx fs) from hok a _ e); exact ⟨mA, ⟨ob, n, ne⟩, r, q, z, d⟩
end
structure Cls (K : PySem.W.Frag) (C : Addr) : Prop where
  pg : PySem.W.plainGet K C Str.empty = true
  hd : PySem.W.hasDictIn K C = true
  po : PySem.W.plainOver K C = true
  sa : PySem.W.findIn K (.ref C) "__setattr__" = some (some (.builtin "object.__setattr__"))
theorem Cls.get {K : PySem.W.Frag} {C : Addr} (c : Cls K C) (f : Str) : PySem.W.plainGet K C f = true := c.pg
section
variable {X : Cx} {pins : List (Addr × Obj)} {σ : St} {H : Hp} {s : Shared} {a C dx : Addr} {fs : List (Str × V)} {f : Str} {v : V} {A : Around} {E : Value -> Shared -> Prop}
end
section
variable {X : Cx} {o e value : Expr} {f : Str} {pos pos' tpos : Pos} {ta tv : TE}
end
section
variable {X : Cx} {pins : List (Addr × Obj)} {σ : St} {H : Hp} {s : Shared} {A : Around} {E : Value -> Shared -> Prop} {Q : Value -> Shared -> Prop} {c : Value} {b : Bool}
inductive TyOf (K : PySem.W.Frag) (H : Hp) : V -> Value -> Prop where
  | non : TyOf K H .non (.type "NoneType")
  | bl (x : Bool) : TyOf K H (.bl x) (.type "bool")
  | int (i : Int) : TyOf K H (.int i) (.type "int")
  | str (x : Str) : TyOf K H (.str x) (.type "str")
  | flt (x : UInt64) : TyOf K H (.flt x) (.type "float")
  | lst {a : Addr} {xs : List V} (e : H a = some (.lst xs)) : TyOf K H (.ref a) (.type "list")
  | frz {a : Addr} {o : Obj} {xs : List V} (e : H a = some (.frz o (.lst xs))) : TyOf K H (.ref a) (.type "list")
  | tup {a : Addr} {xs : List V} (e : H a = some (.tup xs)) : TyOf K H (.ref a) (.type "tuple")
  | dK {a : Addr} {kvs : List (Key × V)} (e : H a = some (.dK kvs)) : TyOf K H (.ref a) (.type "dict")
  | dT {a : Addr} {kvs : List (List Key × V)} (e : H a = some (.dT kvs)) : TyOf K H (.ref a) (.type "dict")
  | ins {a C dx : Addr} {fs : List (Str × V)} (e : H a = some (.ins C dx fs)) (cl : Cls K C) (ha : PySem.W.findIn K (.ref C) "__class__" = some (some (.builtin "object.__class__")))
      (hn : PySem.W.specialIn K (.builtin "object.__class__") "__get__" = some (some (.builtin "getset_descriptor.__get__"))) (htk : PySem.W.takesIn K (.builtin "object.__class__") = some true)
      (hm : PySem.W.mroIn K C (.type "object") = some true) : TyOf K H (.ref a) (.ref C)
theorem zim {x : V} {u t : Value} (I : Inv X pins σ H s) (rx : RelV x u) (ty : TyOf X.K H x t) (e : PySem.W.kitOne X.K t c = some b) (h : ∀ tk, Q (.bool b) { s with toks := tk }) :
    wpAny (model X.prog X.w) A (call (.builtin "isinstance") [u, c]) Q E s := by
  cases ty with
  | non => cases (show u = Value.none from rx); exact PySem.W.kia_one PySem.W.kitx_none I.kIn True.intro e (fun z => nomatch z) h
  | bl y => cases (show u = Value.bool y from rx); exact PySem.W.kia_one PySem.W.kitx_bool I.kIn True.intro e (fun z => nomatch z) h
  | int i => obtain ⟨t, q⟩ := (show ∃ t, u = Value.int i t from rx); cases q; exact PySem.W.kia_one PySem.W.kitx_int I.kIn True.intro e (fun z => nomatch z) h
  | str y => obtain ⟨t, q⟩ := (show ∃ t, u = Value.str y t from rx); cases q; exact PySem.W.kia_one PySem.W.kitx_str I.kIn True.intro e (fun z => nomatch z) h
  | flt y => obtain ⟨t, q⟩ := (show ∃ t, u = Value.float y t from rx); cases q; exact PySem.W.kia_one PySem.W.kitx_float I.kIn True.intro e (fun z => nomatch z) h
  | @lst a xs ea =>
    cases (show u = Value.ref a from rx)
    obtain ⟨_, _, n, _, h1⟩ := (show ObjOk X.prog X.w H s.heap a (.lst xs) from I.hok a _ ea); exact PySem.W.kia_one PySem.W.kitx_list I.kIn ⟨_, h1, rfl⟩ e (fun z => nomatch z) h
  | @frz a ob xs ea =>
    cases (show u = Value.ref a from rx)
    obtain ⟨_, _, _, n, _, h1⟩ := (show ObjOk X.prog X.w H s.heap a (.frz ob (.lst xs)) from I.hok a _ ea); exact PySem.W.kia_one PySem.W.kitx_list I.kIn ⟨_, h1, rfl⟩ e (fun z => nomatch z) h
  | @tup a xs ea =>
    cases (show u = Value.ref a from rx)
    obtain ⟨_, _, _, p⟩ := (show ObjOk X.prog X.w H s.heap a (.tup xs) from I.hok a _ ea); obtain ⟨o, h1, h2, _⟩ := p; exact PySem.W.kia_one PySem.W.kitx_tuple I.kIn ⟨o, h1, h2⟩ e (fun z => nomatch z) h
  | @dK a kvs ea =>
    cases (show u = Value.ref a from rx)
    obtain ⟨_, _, vs, _, p⟩ := (show ObjOk X.prog X.w H s.heap a (.dK kvs) from I.hok a _ ea); obtain ⟨o, es, ep, h1, h2, _⟩ := p; exact PySem.W.kia_one PySem.W.kitx_dict I.kIn ⟨o, h1, h2.1⟩ e (fun z => nomatch z) h
  | @dT a kvs ea =>
    cases (show u = Value.ref a from rx)
    obtain ⟨_, _, xs, _, o, es, ep, h1, h2, _⟩ := (show ObjOk X.prog X.w H s.heap a (.dT kvs) from I.hok a _ ea); exact PySem.W.kia_one PySem.W.kitx_dict I.kIn ⟨o, h1, h2.1⟩ e (fun z => nomatch z) h
  | @ins a C dx fs ea cl ha hn htk hm =>
    cases (show u = Value.ref a from rx)
    obtain ⟨mA, O, _⟩ := zj5 I.hok ea; obtain ⟨od, J, _⟩ := O.look; exact PySem.W.kia_one (PySem.W.kitx_own (cl.get _) cl.hd ha hn htk hm) I.kIn J e (fun z => nomatch z) h
end
end L2
namespace L2
open PySem PySem.Spec PyProof.Rows
structure Room (k : Nat) (A : Around) : Prop where
  hd : A.handled = none
  dp : A.depth + 3 * k + 5 < recursionLimit
  un : A.units + 16 * k + 200 < cLine
theorem Room.mono {j k : Nat} {A : Around} (r : Room k A) (h : j <= k) : Room j A := ⟨r.hd, by have := r.dp; omega, by have := r.un; omega⟩
theorem Room.deeper {k : Nat} {A : Around} (r : Room (k + 1) A) (env : Env) : Room k (A.deeper env) :=
  ⟨r.hd, by have := r.dp; show A.depth + 1 + 3 * k + 5 < _; omega, by have := r.un; show A.units + 3 + 16 * k + 200 < _; omega⟩
theorem Room.depth {k : Nat} {A : Around} (r : Room k A) : A.depth < recursionLimit := by have := r.dp; omega
theorem Room.units {k : Nat} {A : Around} (r : Room k A) : A.units + 64 < cLine := by have := r.un; omega
def zjc : TA := fun _ H Q => Q [] H
def zkZ (ta : TE) (tr : TA) : TA := fun σ H Q => ta σ H fun x H1 => tr σ H1 fun xs H2 => Q (x :: xs) H2
section
variable {X : Cx} {e : Expr} {es : List Expr} {te : TE} {t : TA} {pos : Pos}
theorem zac : PA X [] zjc := fun _ _ _ _ H Q I h => Calls.spliced_nil ⟨[], H, I, .nil, h⟩
theorem zaa (ha : PE X e te) (hr : PA X es t) (hs : starEach (e :: es) X.env = (false, eval e X.env) :: starEach es X.env := by rfl) : PA X (e :: es) (zkZ te t) := by
  intro pos pins s σ H Q I h; rw [hs]; show wpAny _ _ (spliced ((false, eval e X.env) :: backTo pos (starEach es X.env))) _ _ s; refine Calls.spliced_cons (thn (ha pins s σ H _ I h) fun u s1 ⟨x, H1, I1, r1, q1⟩ => ?_); exact thn (hr pos pins s1 σ H1 _ I1 q1) fun us s2 ⟨xs, H2, I2, r2, q2⟩ => ⟨x :: xs, H2, I2, .cons r1 r2, q2⟩
def zni (t : TA) : TE := fun σ H Q => t σ H fun xs H1 => xs.length <= sizeLine /\ ∀ p, H1 p = none -> Q (.ref p) (upd H1 p (.tup xs))
def zmZ (t : TA) : TE := fun σ H Q => t σ H fun xs H1 => xs.length <= sizeLine /\ ∀ p, H1 p = none -> Q (.ref p) (upd H1 p (.lst xs))
theorem zay {x1} (h : PA X es t) : PE X (.Tuple es x1 pos) (zni t) := by
  intro pins s σ H Q I hq; refine wpAny_Tuple_spliced (thn (h pos pins s σ H _ I hq) fun us s1 ⟨xs, H1, I1, r, z, q⟩ => ⟨by rw [<- r.length]; exact z, ?_⟩)
  have hf : H1 s1.heap.objs.size = none := I1.hok.fresh (Nat.le_refl _); refine ⟨.ref s1.heap.objs.size, upd H1 s1.heap.objs.size (.tup xs), I1.laid (t' := s1.toks) (fun b u e => Heap.get?_push_of_some _ e) (Nat.le_refl _) ?_, rfl, q _ hf⟩; exact ⟨z, us, r, ⟨_, Heap.get?_push_size _ rfl, rfl, _, rfl⟩⟩
theorem zaF (h : PA X es t) : PE X (.List es pos) (zmZ t) := by
  intro pins s σ H Q I hq; refine wpAny_List_spliced (thn (h pos pins s σ H _ I hq) fun us s1 ⟨xs, H1, I1, r, z, q⟩ => ⟨by rw [<- r.length]; exact z, ?_⟩)
  have hf : H1 s1.heap.objs.size = none := I1.hok.fresh (Nat.le_refl _); refine ⟨.ref s1.heap.objs.size, upd H1 s1.heap.objs.size (.lst xs), I1.laid (t' := s1.toks) (fun b u e => Heap.get?_push_of_some _ e) (Nat.le_refl _) ?_, rfl, q _ hf⟩; exact ⟨z, us, 0, r, Heap.get?_push_size _ rfl⟩
end
abbrev Sp := List V -> Hp -> VK -> XK -> Prop
abbrev CXT := List Env -> Hp -> Shared -> XK -> Value -> Shared -> Prop
structure zkM (P : Program) (w : World) (K : PySem.W.Frag) (mg : Str -> Option Value) (base : Heap) (A : Around) (outer : List Env) (s : Shared) (H : Hp) : Prop where
  frames : A.frames = some outer
  mod : Mod K mg base
  bs : ∀ b o, base.get? b = some o -> s.heap.get? b = some o /\ H b = none
  bsz : base.objs.size <= s.heap.objs.size
  funs : s.heap.FunFrames base outer
  frf : ∀ b ∈ frs outer, H b = none
  hok : HOk P w H s.heap
  bare : AllBare s.gens
def CE (outer : List Env) (P : Program) (w : World) (H : Hp) (s : Shared) (Q : VK) (u : Value) (s' : Shared) : Prop :=
  ∃ v H', s'.os = s.os /\ AllBare s'.gens /\ Un (frs outer) [] H H' s.heap s'.heap /\ HOk P w H' s'.heap /\ RelV v u /\ Q v H'
def CR (CX : CXT) (outer : List Env) (P : Program) (w : World) (H : Hp) (s : Shared) (Q : VK) (E : XK) (r : Result) (s' : Shared) : Prop :=
  match r with
  | .ok (.ret u) => CE outer P w H s Q u s'
  | .ok _ => False
  | .error e => CX outer H s E e s'
structure FnOk (P : Program) (w : World) (K : PySem.W.Frag) (mg : Str -> Option Value) (base : Heap) (CX : CXT) (k : Nat) (f : Addr) (fd : FuncData) (ps : List Str) (sp : Sp) : Prop where
  len : ∀ vs H Q E, sp vs H Q E -> vs.length = ps.length
  run : ∀ (A : Around) (outer : List Env) (s : Shared) (H : Hp) (args : Args) (us : List Value) (vs : List V) (Q : VK) (E : XK), Room k A -> zkM P w K mg base A outer s H -> BindsTo s fd args (ps.zip us) -> Vals vs us -> sp vs H Q E →
    codeAny (model P w) A (.call (.ref f) args) (CR CX outer P w H s Q E) s
theorem FnOk.mono {P : Program} {w : World} {K : PySem.W.Frag} {mg : Str -> Option Value} {base : Heap} {CX : CXT} {j k : Nat} {f : Addr} {fd : FuncData} {ps : List Str} {sp : Sp} (F : FnOk P w K mg base CX j f fd ps sp) (h : j <= k) :
    FnOk P w K mg base CX k f fd ps sp := ⟨F.len, fun A outer s H args us vs Q E hr => F.run A outer s H args us vs Q E (hr.mono h)⟩
section
variable {X : Cx} {pins : List (Addr × Obj)} {σ : St} {H : Hp} {s s' : Shared}
theorem Inv.env0 (I : Inv X pins σ H s) : zkM X.prog X.w X.K X.mg X.base X.A X.stack s H :=
  ⟨I.ok.frames, I.ok.mod, I.bs, Nat.le_trans I.ok.bsz I.sz, I.stack, I.stkFree, I.hok, I.bare⟩
theorem Inv.after {Q : VK} {u : Value} (I : Inv X pins σ H s) (h : CE X.stack X.prog X.w H s Q u s') : EP X pins σ Q u s' := by
  obtain ⟨v, H', os, bare, un, hok, r, q⟩ := h; obtain ⟨hh, g, d, t, os'⟩ := s'; obtain rfl : os' = s.os := os; exact ⟨v, H', I.call (h' := hh) (g' := g) (d' := d) (t' := t) (ch := []) un hok bare (fun b z => absurd z (by simp)), r, q⟩
end
def zkU (sp : Sp) (dvs : List V) (E : XK) (t : TA) : TE := fun σ H Q => t σ H fun vs H1 => sp (vs ++ dvs) H1 Q E
def Binds (K : PySem.W.Frag) (fd : FuncData) (ps : List Str) (ds : List Value) : Prop :=
  ∀ (s : Shared) (us : List Value), K.In s.heap -> (us ++ ds).length = ps.length -> BindsTo s fd ⟨us, []⟩ (ps.zip (us ++ ds))
theorem Binds.all {K : PySem.W.Frag} {fd : FuncData} {ps : List Str} (h : ∀ us : List Value, us.length = ps.length -> bindArgs fd ⟨us, []⟩ = pure (ps.zip us)) : Binds K fd ps [] := fun s us _ hl => by
  rw [List.append_nil] at hl ⊢; exact .of_eq (h us hl)
def zc2 (CX : CXT) (X : Cx) (E : XK) : Prop := ∀ (pins : List (Addr × Obj)) (σ : St) (H : Hp) (s : Shared) (e : Value) (s' : Shared), Inv X pins σ H s -> CX X.stack H s E e s' -> X.xe e s'
section
variable {X : Cx} {CX : CXT} {k : Nat} {f C : Addr} {fd : FuncData} {ps : List Str} {sp : Sp} {dvs : List V} {ds : List Value} {E : XK} {x m : Str} {p pos apos : Pos} {e o : Expr} {es : List Expr} {ta : TE} {t : TA}
theorem zmd {pins : List (Addr × Obj)} {σ : St} {H : Hp} {s : Shared} {Q : VK} {us : List Value} {vs : List V} (F : FnOk X.prog X.w X.K X.mg X.base CX k f fd ps sp) (hr : Room k X.A) (hb : Binds X.K fd ps ds) (hd : Vals dvs ds) (hx : zc2 CX X E)
    (I : Inv X pins σ H s) (r : Vals vs us) (h : sp (vs ++ dvs) H Q E) : wpAny (model X.prog X.w) X.A (call (.ref f) us) (EP X pins σ Q) X.xe s := by
  have r2 : Vals (vs ++ dvs) (us ++ ds) := r.append hd; have hl : (us ++ ds).length = ps.length := by rw [<- r2.length]; exact F.len _ _ _ _ h
  refine wpAny_call (codeAny_mono (F.run X.A X.stack s H ⟨us, []⟩ (us ++ ds) (vs ++ dvs) Q E hr I.env0 (hb s us I.kIn hl) r2 h) fun r s' hq => ?_)
  cases r with
  | error e => exact hx pins σ H s e s' I hq
  | ok fl =>
    cases fl with
    | ret u => exact I.after hq
    | next => exact False.elim hq
    | brk => exact False.elim hq
    | cont => exact False.elim hq
theorem zkg (F : FnOk X.prog X.w X.K X.mg X.base CX k f fd ps sp) (hr : Room k X.A) (hg : Gl X x) (hm : X.mg x = some (.ref f)) (hk : PySem.W.keepIn X.K (.ref f) = true) (hb : Binds X.K fd ps ds) (hd : Vals dvs ds) (hx : zc2 CX X E)
    (ha : PA X (e :: es) t) (hdb : (x == ("__debug__" : Str)) = false := by decide) (he : starEach (e :: es) X.env = (false, eval e X.env) :: starEach es X.env := by rfl) (hpl : (backTo pos (starEach es X.env)).any (·.1) = false := by rfl) :
    PE X (.Call (.Name x p) (e :: es) [] pos) (zkU sp dvs E t) := by
  intro pins s σ H Q I h; refine wpAny_Call_Name_kw (zdn I hg hm ?_ hdb); refine PySem.W.callWith_K (h₀ := X.base) I.ok.mod.kin hk (thn (ha pos pins s σ H _ I h) fun us s1 ⟨vs, H1, I1, r, q⟩ => ⟨I1.kIn, ?_⟩) he hpl; exact zmd F hr hb hd hx I1 r q
end
section
variable {X : Cx} {CX : CXT} {k : Nat} {f C : Addr} {fd : FuncData} {ps ks : List Str} {sp : Sp} {E : XK} {x m : Str} {p pos apos kpos : Pos} {e o : Expr} {es : List Expr} {kws : List Keyword} {te ta : TE} {t tk : TA} {nm : Option Str}
variable {g : List Value -> List Value -> List Value} {gV : List V -> List V -> List V}
end
structure zal (N P : List Str) (sc : Scope) : Prop where
  kind : sc.kind = .function
  co : sc.isCoroutine = false
  gen : sc.isGenerator = false
  nd : N.Nodup
  pre : N.take P.length = P
  par : ∀ x ∈ P, sc.names.lookup x = some .local \/ sc.names.lookup x = some .cell
  nofree : ∀ y ∈ sc.names, y.2 ≠ .free
theorem zfn {kindOf : Str -> Option NameKind} {x : Str} : ∀ {binds : List (Str × Value)} {m : Str -> Option Value}, (∀ v, (x, v) ∉ binds) -> bindL kindOf binds m x = m x
  | [], _, _ => rfl
  | (n, v) :: r, m, h => by
    unfold bindL; rw [zfn fun w hw => h w (List.mem_cons_of_mem _ hw)]
    split
    . have : x ≠ n := by rintro rfl; exact h v List.mem_cons_self
      simp [this]
    . rfl
theorem zft {kindOf : Str -> Option NameKind} {x : Str} : ∀ {binds : List (Str × Value)} {m : Str -> Option Value}, (∀ v, (x, v) ∉ binds) -> bindC kindOf binds m x = m x
  | [], _, _ => rfl
  | (n, v) :: r, m, h => by
    unfold bindC; rw [zft fun w hw => h w (List.mem_cons_of_mem _ hw)]
    split
    . rfl
    . have : x ≠ n := by rintro rfl; exact h v List.mem_cons_self
      simp [this]
theorem zfr {kindOf : Str -> Option NameKind} {x : Str} {v : Value} : ∀ {P : List Str} {vs : List Value} {i : Nat} {m : Str -> Option Value}, P.Nodup -> P[i]? = some x -> vs[i]? = some v -> kindOf x = some .local →
    bindL kindOf (P.zip vs) m x = some v
  | [], _, _, _, _, h, _, _ => by simp at h
  | _ :: _, [], _, _, _, _, h, _ => by simp at h
  | p :: P, w :: vs, 0, m, nd, h1, h2, hk => by
    simp at h1 h2; subst h1; subst h2; show bindL kindOf ((p, w) :: P.zip vs) m p = _; unfold bindL; rw [zfn fun v hv => (List.nodup_cons.mp nd).1 (List.of_mem_zip hv).1, if_pos hk]; simp
  | p :: P, w :: vs, i + 1, m, nd, h1, h2, hk => by
    show bindL kindOf ((p, w) :: P.zip vs) m x = _; unfold bindL; exact zfr (i := i) (List.nodup_cons.mp nd).2 (by simpa using h1) (by simpa using h2) hk
theorem zfk {kindOf : Str -> Option NameKind} {x : Str} {v : Value} : ∀ {P : List Str} {vs : List Value} {i : Nat} {m : Str -> Option Value}, P.Nodup -> P[i]? = some x -> vs[i]? = some v -> kindOf x ≠ some .local →
    bindC kindOf (P.zip vs) m x = some v
  | [], _, _, _, _, h, _, _ => by simp at h
  | _ :: _, [], _, _, _, _, h, _ => by simp at h
  | p :: P, w :: vs, 0, m, nd, h1, h2, hk => by
    simp at h1 h2; subst h1; subst h2; show bindC kindOf ((p, w) :: P.zip vs) m p = _; unfold bindC; rw [zft fun v hv => (List.nodup_cons.mp nd).1 (List.of_mem_zip hv).1, if_neg hk]; simp
  | p :: P, w :: vs, i + 1, m, nd, h1, h2, hk => by
    show bindC kindOf ((p, w) :: P.zip vs) m x = _; unfold bindC; exact zfk (i := i) (List.nodup_cons.mp nd).2 (by simpa using h1) (by simpa using h2) hk
def start (N : List Str) (vs : List V) : St := vs.map some ++ List.replicate (N.length - vs.length) none
def zdu (CX : CXT) (P : Program) (w : World) (K : PySem.W.Frag) (mg : Str -> Option Value) (base : Heap) (N : List Str) (qual : Str) (scope : Scope) (f : Addr) (cd : Value) (A : Around) (outer : List Env) (s : Shared) (H : Hp) (E : XK) : Cx where
  prog := P
  w := w
  K := K
  mg := mg
  base := base
  A := A.deeper (envOfC qual scope s.heap.objs.size f cd)
  N := N
  s₀ := s
  H₀ := H
  env := envOfC qual scope s.heap.objs.size f cd
  outer := outer
  stack := envOfC qual scope s.heap.objs.size f cd :: outer
  ex := []
  calm := true
  fn := fun _ => true
  pn := []
  xe := fun e s' => wpAny (model P w) (A.deeper (envOfC qual scope s.heap.objs.size f cd)) («leaving» (envOfC qual scope s.heap.objs.size f cd) e) (fun _ s'' => CX outer H s E e s'') (fun e' s'' => CX outer H s E e' s'') s'
theorem zgu {sc : Scope} {n : Nat} {x : Str} (h : sc.names.lookup x = some .cell) : ∃ c, (cellsFrom n sc.names []).lookup x = some c := by
  have q := PySem.W.cellsFrom_some sc.names n [] (.inl h); exact Option.isSome_iff_exists.mp q
theorem ziv {CX : CXT} {P : Program} {w : World} {K : PySem.W.Frag} {mg : Str -> Option Value} {base : Heap} {N ps : List Str} {qual : Str} {scope : Scope} {f : Addr} {cd : Value} {A : Around} {outer : List Env} {s s1 : Shared} {H : Hp} {E : XK} {us : List Value} {vs : List V}
    (S : zal N ps scope) (hd : A.handled = none) (e0 : zkM P w K mg base A outer s H) (hl : vs.length = ps.length) (r : Vals vs us)
    (x : InCallC s s.heap.objs.size (bindL (envOfC qual scope s.heap.objs.size f cd).kindOf (ps.zip us) fun _ => none) (cellsFrom (s.heap.objs.size + 1) scope.names []) (bindC (envOfC qual scope s.heap.objs.size f cd).kindOf (ps.zip us) fun _ => none) s1) :
    Inv (zdu CX P w K mg base N qual scope f cd A outer s H E) [] (start N vs) H s1 := by
  have hpl : ps.length <= N.length := by have := congrArg List.length S.pre; rw [List.length_take] at this; omega
  obtain ⟨h1, tk, rfl, hk⟩ := x.done; have noA : ∀ b : Addr, b ∉ (zdu CX P w K mg base N qual scope f cd A outer s H E).ex := fun b z => absurd (show b ∈ ([] : List Addr) from z) (by simp)
  refine ⟨⟨e0.mod, S.kind, rfl, rfl, Nat.le_refl _, fun y z c h1 h2 => ?_, fun y hy => ?_, fun y c _ h => ?_, fun _ => hd, Around.frames_deeper e0.frames, .inr ⟨rfl, rfl⟩, fun b z => absurd z (noA b), e0.bs, e0.bsz, fun b _ _ => noA b, fun b z => absurd z (noA b), e0.funs, e0.frf⟩,
    rfl, e0.bare, Un.kept hk, ⟨_, x.toInCall.ns, fun i y v h1 h2 h3 => ?_⟩, fun y c h => ⟨_, x.cell y c h⟩, e0.hok.fresh (Nat.le_refl _), fun y c h => ?_, fun p hp => absurd (show p ∈ ([] : List (Addr × Obj)) from hp) (by simp), e0.hok.kept hk, ?_⟩
  . exact name_of_addr x.apart (PySem.mem_of_lookup h1) (PySem.mem_of_lookup h2)
  . have hy : scope.names.lookup y = some .cell \/ scope.names.lookup y = some .free := hy
    rcases hy with hy | hy
    . exact zgu hy
    . exact absurd rfl (S.nofree _ (PySem.mem_of_lookup hy))
  . exact Nat.le_of_lt (x.above y c (PySem.mem_of_lookup h))
  . have hi : i < vs.length := by
      unfold start at h2
      by_cases hi : i < vs.length
      . exact hi
      . rw [List.getElem?_append_right (by simpa using hi)] at h2
        rw [List.getElem?_replicate] at h2
        split at h2 <;> cases h2
    have ha : vs[i]? = some v := by
      unfold start at h2; rw [List.getElem?_append_left (by simpa using hi), List.getElem?_map] at h2
      cases e : vs[i]? with
      | none => rw [e] at h2; cases h2
      | some a => rw [e] at h2; cases h2; rfl
    obtain ⟨u, hu, rv⟩ := r.get ha
    have hp : ps[i]? = some y := by
      rw [<- S.pre, List.getElem?_take_of_lt (by omega)]; exact h1
    have ndP : ps.Nodup := by rw [<- S.pre]; exact S.nd.sublist (List.take_sublist _ _)
    refine ⟨u, rv, ?_⟩
    rcases S.par y (List.mem_of_getElem? hp) with k | k
    . exact .inl ⟨k, zfr ndP hp hu k⟩
    . obtain ⟨c, e⟩ := zgu (n := s.heap.objs.size + 1) k; refine .inr ⟨.inl k, c, e, ?_⟩; have q := x.cell y c e; rw [zfk ndP hp hu (by show scope.names.lookup y ≠ _; rw [k]; decide)] at q
      exact q
  . exact e0.hok.fresh (Nat.le_of_lt (x.above y c (PySem.mem_of_lookup h)))
  . unfold start; show _ = N.length; rw [List.length_append, List.length_map, List.length_replicate]; omega
theorem zk0 {CX : CXT} {P : Program} {w : World} {K : PySem.W.Frag} {mg : Str -> Option Value} {base : Heap} {k : Nat} {f : Addr} {name qual : Str} {params : Arguments} {body : List Stmt} {scope : Scope} {dV kV doc pm cdv ct oc : Value} {an od : Option Addr}
    {osl : Array (Option Value)} {N ps : List Str} {sp : Sp} (lk : K.lookup f = some ⟨oc, od, .func (PySem.W.fnOf name qual params body scope dV kV doc pm an cdv ct), osl⟩) (hcd : PySem.W.codeIn K cdv qual = true) (S : zal N ps scope)
    (len : ∀ vs H Q E, sp vs H Q E -> vs.length = ps.length)
    (hbody : ∀ (A : Around) (outer : List Env) (s : Shared) (H : Hp) (vs : List V) (Q : VK) (E : XK), Room k (A.deeper (envOfC qual scope s.heap.objs.size f cdv)) -> sp vs H Q E →
      ∃ t, PSs (zdu CX P w K mg base N qual scope f cdv A outer s H E) body t /\ t { nx := fun _ H' => Q .non H', rt := Q } (start N vs) H) :
    FnOk P w K mg base CX (k + 1) f (PySem.W.fnOf name qual params body scope dV kV doc pm an cdv ct) ps sp := by
  refine ⟨len, fun A outer s H args us vs Q E hr e0 hb r hsp => ?_⟩; have hl := len _ _ _ _ hsp; have KX : K.In s.heap := e0.mod.kin.keeps fun b o e => (e0.bs b o e).1; have lim : s.heap.NoLimit := e0.mod.nolimit.keeps fun b o e => (e0.bs b o e).1
  have hkind : ∀ y ∈ ps.zip us, scope.names.lookup y.1 = some .local \/ (scope.names.lookup y.1 = some .cell /\ ((cellsFrom (s.heap.objs.size + 1) scope.names []).lookup y.1).isSome = true) := fun ⟨n, v⟩ hy => by
    rcases S.par n (List.of_mem_zip hy).1 with q | q
    . exact .inl q
    . exact .inr ⟨q, PySem.W.cellsFrom_some _ _ _ (.inl q)⟩
  refine codeAny_call_function hr.depth (KX _ _ lk) rfl S.co S.gen rfl (PySem.W.codeRec_of KX hcd) (hb _ _ _ _ ?_); refine wpAny_newFunctionEnv_cells S.kind hkind fun env he s1 x => ?_; subst he; refine ⟨lim.keeps x.toInCall.keep, codeAny_func ?_⟩; obtain ⟨t, ht, hq⟩ := hbody A outer s H vs Q E (hr.deeper _) hsp; have I : Inv (zdu CX P w K mg base N qual scope f cdv A outer s H E) [] (start N vs) H s1 := ziv S hr.hd e0 hl r x; refine wpAny_mono (ht [] s1 (start N vs) H _ I hq) (fun fl s' hs => ?_) fun e s' hs => hs
  have fin : ∀ {σ' : St} {H' : Hp} {v : V} {u : Value}, Inv (zdu CX P w K mg base N qual scope f cdv A outer s H E) [] σ' H' s' -> RelV v u -> Q v H' -> CE outer P w H s Q u s' :=
    fun {σ' H' v u} J rv q => ⟨v, H', J.os, J.bare, J.base, J.hok, rv, q⟩
  cases fl with
  | ret u =>
    obtain ⟨v, σ', H', J, rv, q⟩ := hs; exact fin J rv q
  | next =>
    obtain ⟨σ', H', J, q⟩ := hs; exact fin (v := V.non) (u := Value.none) J rfl q
  | brk =>
    obtain ⟨_, _, _, q⟩ := hs; exact False.elim q
  | cont =>
    obtain ⟨_, _, _, q⟩ := hs; exact False.elim q
end L2
namespace L2
open PySem PySem.Spec PyProof.Rows
section
variable {X : Cx} {x : Str} {p pos : Pos} {e : Expr} {es : List Expr} {t : TA} {id T : String} {r : List V -> Hp -> VK -> Prop}
def tCB (r : List V -> Hp -> VK -> Prop) (t : TA) : TE := fun σ H Q => t σ H fun vs H1 => r vs H1 Q
theorem zaw (hc : zbF X (.builtin id) r) (hg : Gl X x) (hm : X.mg x = none) (hv : bootBuiltins x = some (.builtin id)) (ha : PA X (e :: es) t) (hn : x ≠ "__name__" := by decide) (hdb : (x == ("__debug__" : Str)) = false := by decide)
    (he : starEach (e :: es) X.env = (false, eval e X.env) :: starEach es X.env := by rfl) (hpl : (backTo pos (starEach es X.env)).any (·.1) = false := by rfl) : PE X (.Call (.Name x p) (e :: es) [] pos) (tCB r t) := by
  intro pins s σ H Q I h; refine wpAny_Call_Name_kw (zc8 I hg hm hv ?_ hn hdb); exact PyProof.Rows.callWith_builtin1 (thn (ha pos pins s σ H _ I h) fun us s1 ⟨vs, H1, I1, r1, q1⟩ => hc pins s1 σ H1 vs us Q I1 r1 q1) he hpl
theorem zaZ (hc : zbF X (.type T) r) (hg : Gl X x) (hm : X.mg x = none) (hv : bootBuiltins x = some (.type T)) (ha : PA X (e :: es) t) (hn : x ≠ "__name__" := by decide) (hdb : (x == ("__debug__" : Str)) = false := by decide)
    (he : starEach (e :: es) X.env = (false, eval e X.env) :: starEach es X.env := by rfl) (hpl : (backTo pos (starEach es X.env)).any (·.1) = false := by rfl) : PE X (.Call (.Name x p) (e :: es) [] pos) (tCB r t) := by
  intro pins s σ H Q I h; refine wpAny_Call_Name_kw (zc8 I hg hm hv ?_ hn hdb); exact PyProof.Rows.callWith_type1 (thn (ha pos pins s σ H _ I h) fun us s1 ⟨vs, H1, I1, r1, q1⟩ => hc pins s1 σ H1 vs us Q I1 r1 q1) he hpl
end
end L2
namespace HT
open PySem PyProof.Rows
section
open PySem.SeqAt
open PySem.AutoSeq1 (wpAny_loadPart')
open PySem.MeetsSeq PySem.MeetsSeq2 PySem.MeetsSeq3
end
section
variable {prog : Program} {w : World} {A : Around} {E : Value -> Shared -> Prop} {s : Shared}
theorem cat_tup {t b : Addr} {vs ws : List Value} {Q : Value -> Shared -> Prop} (ht : IsTup s.heap t vs.toArray) (hb : IsTup s.heap b ws.toArray) (hv : vs ≠ [])
    (h1 : ws = [] -> Q (.ref t) s) (h2 : ws ≠ [] -> Q (.ref s.heap.objs.size) { s with heap := s.heap.push { cls := .type "tuple", data := .seq (vs ++ ws).toArray } })
    (hsz : vs.length + ws.length <= sizeLine) : wpAny (model prog w) A (binaryOp .Add (.ref t) (.ref b)) Q E s := by
  obtain ⟨⟨cls, dd, data, sl⟩, ho, hc, n, hd⟩ := id ht; obtain ⟨⟨cls2, dd2, data2, sl2⟩, ho2, hc2, n2, hd2⟩ := id hb; simp only at hc hd hc2 hd2; subst hc hd hc2 hd2; have e : vs.toArray ++ ws.toArray = (vs ++ ws).toArray := by simp
  by_cases hw : ws = []
  . exact concat_meets ⟨_, ho, rfl⟩ ⟨_, ho2, rfl⟩ noFill_tuple_add seq_tuple_add PySem.F.slot_tuple_add PySem.F.entry_tuple_add (PySem.F.args_tuple_add_2 _ _)
      (tuple_addW1 t b vs.toArray ws.toArray n n2 dd dd2 sl sl2 (by simpa using hv) (by simp [hw])) ⟨ho, ho2, h1 hw⟩
  . refine concat_meets ⟨_, ho, rfl⟩ ⟨_, ho2, rfl⟩ noFill_tuple_add seq_tuple_add PySem.F.slot_tuple_add PySem.F.entry_tuple_add (PySem.F.args_tuple_add_2 _ _)
      (tuple_addW2 t b vs.toArray ws.toArray n n2 dd dd2 sl sl2 (by simpa using hv) (by simpa using hw) (by rw [List.size_toArray, List.size_toArray]; exact hsz)) ⟨ho, ho2, ?_⟩
    rw [e]; exact h2 hw
def sIx (n d : Nat) : Option Int -> Nat
  | none => d
  | some v => if v < 0 then (v + (n : Int)).toNat else min v.toNat n
theorem sIx_none (n d : Nat) : sIx n d none = d := rfl
theorem sIx_nat (n d k : Nat) : sIx n d (some (k : Int)) = min k n := by
  show (if (k : Int) < 0 then ((k : Int) + (n : Int)).toNat else min (k : Int).toNat n) = min k n; rw [if_neg (by omega), Int.toNat_natCast]
theorem zl2 (n d : Nat) (hd : d <= n) (o : Option Int) : sIx n d o <= n := by
  cases o with
  | none => exact hd
  | some v =>
    show (if v < 0 then (v + (n : Int)).toNat else min v.toNat n) <= n
    by_cases hv : v < 0
    . rw [if_pos hv]; omega
    . rw [if_neg hv]; exact Nat.min_le_right _ _
theorem zhN (v : Int) (n d : Nat) : (if v < 0 then max (v + (n : Int)) 0 else min v (n : Int)) = ((sIx n d (some v) : Nat) : Int) := by
  show (if v < 0 then max (v + (n : Int)) 0 else min v (n : Int)) = (((if v < 0 then (v + (n : Int)).toNat else min v.toNat n) : Nat) : Int)
  by_cases hv : v < 0
  . simp only [if_pos hv]; omega
  . simp only [if_neg hv]; omega
theorem zhh (lo hi : Option Int) (n : Nat) : Builtin.Slice.sliceAdjust lo hi 1 (n : Int) = (((sIx n 0 lo : Nat) : Int), ((sIx n n hi : Nat) : Int)) := by
  have h1 : ¬ ((1 : Int) < 0) := by omega
  unfold Builtin.Slice.sliceAdjust; simp only [h1, if_false]; refine Prod.ext ?_ ?_
  . cases lo with
    | none => rfl
    | some v => exact zhN v n 0
  . cases hi with
    | none => rfl
    | some v => exact zhN v n n
theorem zhu (i j : Nat) : Builtin.Slice.slicePlaces (i : Int) (j : Int) 1 = j - i := by
  unfold Builtin.Slice.slicePlaces; have h1 : (1 : Int) > 0 := by omega
  simp only [h1, if_true, Int.ediv_one]
  split <;> omega
theorem zeq {v : Value} {o : Option Int} {Q : Option Int -> Shared -> Prop} (p : IsPart v o) (h : Q o s) : wpAny (model prog w) A (Builtin.Slice.slicePartIndex v) Q E s := by
  cases p with
  | none => exact slicePart_none h
  | int i t => exact slicePart_int h
theorem zb1 {sl : Addr} {vl vu : Value} {lo hi : Option Int} {n : Nat} {Q : Int × Int × Nat -> Shared -> Prop} (hs : s.heap.IsSliceOf sl vl vu .none) (pl : IsPart vl lo) (pu : IsPart vu hi)
    (h : Q (((sIx n 0 lo : Nat) : Int), 1, sIx n n hi - sIx n 0 lo) s) : wpAny (model prog w) A (Builtin.Slice.sliceApplied (.ref sl) (pure (n : Int))) Q E s := by
  obtain ⟨os, hos, hcs, hds⟩ := id hs; unfold Builtin.Slice.sliceApplied Builtin.Slice.sliceFields; refine wpAny_bind (wpAny_bind (wpAny_field hos hds (x := vl) rfl (wpAny_bind (wpAny_field hos hds (x := vu) rfl (wpAny_bind (wpAny_field hos hds (x := .none) rfl (wpAny_pure ?_))))))); refine wpAny_bind (slicePart_none ?_); show wpAny _ _ (if ((1 : Int) == 0) = true then _ else _) _ _ s; rw [if_neg (by decide)]
  refine wpAny_bind (zeq pl (wpAny_bind (zeq pu (wpAny_bind (wpAny_pure ?_))))); show wpAny _ _ (match Builtin.Slice.sliceAdjust lo hi 1 (n : Int) with | (lo, hi) => pure (lo, (1 : Int), Builtin.Slice.slicePlaces lo hi 1)) _ _ s
  rw [zhh lo hi n]; show wpAny _ _ (pure (((sIx n 0 lo : Nat) : Int), (1 : Int), Builtin.Slice.slicePlaces ((sIx n 0 lo : Nat) : Int) ((sIx n n hi : Nat) : Int) 1)) _ _ s; rw [zhu]; exact wpAny_pure h
theorem zjG (xs : Array Value) (i k : Nat) : ((List.range k).filterMap fun (m : Nat) => xs[((i : Int) + (m : Int) * 1).toNat]?).toArray = ((xs.toList.drop i).take k).toArray := by
  have e : (fun (m : Nat) => xs[((i : Int) + (m : Int) * 1).toNat]?) = fun m => xs[i + m]? := by
    funext m
    have : ((i : Int) + (m : Int) * 1).toNat = i + m := by omega
    rw [this]
  rw [e]; have := pick_run xs i k; rw [List.filterMap_map] at this; have e2 : ((fun x => xs[x]?) ∘ fun x => i + x) = fun m => xs[i + m]? := rfl; rw [e2] at this; rw [this]
theorem getItem_tuple_cut {t sl : Addr} {items : Array Value} {vl vu : Value} {lo hi : Option Int} {Q : Value -> Shared -> Prop} (ht : IsTup s.heap t items) (hs : s.heap.IsSliceOf sl vl vu .none) (pl : IsPart vl lo) (pu : IsPart vu hi)
    (hw : ¬ (sIx items.size 0 lo = 0 /\ sIx items.size items.size hi = items.size))
    (h : Q (.ref s.heap.objs.size) { s with heap := s.heap.push { cls := .type "tuple", data := .seq ((items.toList.drop (sIx items.size 0 lo)).take (sIx items.size items.size hi - sIx items.size 0 lo)).toArray } })
    (hsz : items.size <= sizeLine) : wpAny (model prog w) A (getItem (.ref t) (.ref sl)) Q E s := by
  have htake : sizeOk (.seq ((items.toList.drop (sIx items.size 0 lo)).take (sIx items.size items.size hi - sIx items.size 0 lo)).toArray) := by
    show ((items.toList.drop (sIx items.size 0 lo)).take (sIx items.size items.size hi - sIx items.size 0 lo)).toArray.size <= sizeLine; rw [List.size_toArray, List.length_take, List.length_drop, Array.length_toList]; omega
  have hj : sIx items.size items.size hi <= items.size := zl2 _ _ (Nat.le_refl _) hi; obtain ⟨os, hos, hcs, hds⟩ := id hs; have hTs : s.TypeIs (.ref sl) "slice" := ⟨os, hos, hcs⟩; unfold getItem
  try with_reducible refine wpAny_holding ?_
  first | refine wpAny_bind (wpAny_pure ?_) | skip
  refine wpAny_bind (wpAny_sequenceKey ht.typeIs (by decide) ?_)
  refine wpAny_bind (wpAny_callSpecial?_slot (name := Str.ofString "__getitem__") ht.typeIs PyProof.Rows.slot_tuple_getitem
    (wpAny_call_entry PyProof.Rows.slot_tuple_getitem ht.typeIs entry_tuple_getitem ?_ (args_tuple_getitem _ _)))
  show wpAny _ _ (Builtin.Tuple.tupleItemsOf (.ref t) >>= _) _ _ s; refine wpAny_bind (tupleItemsOf_ ht ?_); refine wpAny_bind (wpAny_typeOf hTs ?_); rw [if_pos (by decide)]
  refine wpAny_bind (zb1 hs pl pu ?_)
  have hno : ¬ ((((sIx items.size 0 lo : Nat) : Int) == 0 && (1 : Int) == 1 && (sIx items.size items.size hi - sIx items.size 0 lo) == items.size) = true) := by
    intro q; rw [Bool.and_eq_true, Bool.and_eq_true] at q; have q1 : ((sIx items.size 0 lo : Nat) : Int) = 0 := eq_of_beq q.1.1; have q2 : sIx items.size items.size hi - sIx items.size 0 lo = items.size := eq_of_beq q.2; exact hw ⟨by omega, by omega⟩
  show wpAny _ _ (if (((sIx items.size 0 lo : Nat) : Int) == 0 && (1 : Int) == 1 && (sIx items.size items.size hi - sIx items.size 0 lo) == items.size) = true then _ else _) _ _ s; rw [if_neg hno, zjG]
  first
    | exact wpAny_bind (m := Builtin.Tuple.tupleExact _) (wpAny_newObj_type (wpAny_pure ⟨_, rfl, wpAny_pure h⟩) htake)
    | exact wpAny_bind (m := Builtin.Tuple.tupleExact _) (wpAny_newObj_type (wpAny_bind (wpAny_pure (wpAny_pure ⟨_, rfl, wpAny_pure h⟩))) htake)
    | exact wpAny_bind (wpAny_bind (m := Builtin.Tuple.tupleExact _) (wpAny_newObj_type (wpAny_pure (wpAny_pure ⟨_, rfl, wpAny_pure h⟩)) htake))
    | exact wpAny_bind (wpAny_bind (m := Builtin.Tuple.tupleExact _) (wpAny_newObj_type (wpAny_pure ⟨_, rfl, wpAny_pure h⟩) htake))
end
end HT
namespace L2
open PySem PySem.Spec PyProof.Rows
abbrev TO := St -> Hp -> (Option Int -> Hp -> Prop) -> Prop
def PO (X : Cx) (e : Option Expr) (t : TO) : Prop :=
  ∀ (pins : List (Addr × Obj)) (s : Shared) (σ : St) (H : Hp) (Q : Option Int -> Hp -> Prop), Inv X pins σ H s -> t σ H Q →
    wpAny (model X.prog X.w) X.A (evalPart e X.env) (fun u s' => ∃ o H', Inv X pins σ H' s' /\ IsPart u o /\ Q o H') X.xe s
def zkb : TO := fun _ H Q => Q none H
def zm5 (t : TE) : TO := fun σ H Q => t σ H fun x H1 => ∃ i, x = .int i /\ Q (some i) H1
theorem zej {ns : List Int} : ∀ {us : List Value}, Vals (ns.map V.int) us -> IntsAre us ns := by
  induction ns with
  | nil => intro us r; rw [List.map_nil] at r; cases r; exact .nil
  | cons n ns ih =>
    intro us r; rw [List.map_cons] at r
    cases r with
    | cons r1 r2 =>
      obtain ⟨t, e⟩ := r1; subst e; exact .cons n t (ih r2)
section
variable {X : Cx} {e : Expr} {te : TE} {lo hi : Option Expr} {tl th : TO} {pos p2 : Pos}
theorem zcD : PO X none zkb := by
  intro pins s σ H Q I h; rw [evalPart_none]; exact wpAny_pure ⟨none, H, I, .none, h⟩
theorem zcF (h : PE X e te) : PO X (some e) (zm5 te) := by
  intro pins s σ H Q I hw; rw [evalPart_some]; refine thn (h pins s σ H _ I hw) fun u s1 ⟨x, H1, I1, r1, q1⟩ => ?_; obtain ⟨i, rfl, q⟩ := q1; obtain ⟨t, rfl⟩ := r1; exact ⟨some i, H1, I1, .int i t, q⟩
def SlR (X : Cx) (r : V -> Option Int -> Option Int -> Hp -> VK -> Prop) : Prop :=
  ∀ (pins : List (Addr × Obj)) (s : Shared) (σ : St) (H : Hp) (x : V) (v vl vu : Value) (lo hi : Option Int) (sl : Addr) (Q : VK), Inv X pins σ H s -> RelV x v -> s.heap.IsSliceOf sl vl vu .none -> IsPart vl lo -> IsPart vu hi -> r x lo hi H Q →
    ∃ T id, typeLookup (.type T) "__getitem__" = pure (some (.builtin id)) /\ s.TypeIs v T /\ wpAny (model X.prog X.w) X.A (getItem v (.ref sl)) (EP X pins σ Q) X.xe s
def tSl (r : V -> Option Int -> Option Int -> Hp -> VK -> Prop) (te : TE) (tl th : TO) : TE := fun σ H Q => te σ H fun x H1 => tl σ H1 fun l H2 => th σ H2 fun u H3 => r x l u H3 Q
theorem zb4 {r : V -> Option Int -> Option Int -> Hp -> VK -> Prop} (hr : SlR X r) (he : PE X e te) (hl : PO X lo tl) (hu : PO X hi th) : PE X (.Subscript e (.Slice lo hi none p2) pos) (tSl r te tl th) := by
  intro pins s σ H Q I h; refine Subscript_ (thn (he pins s σ H _ I h) fun v s1 ⟨x, H1, I1, r1, q1⟩ => ?_); refine wpAny_Slice (thn (hl pins s1 σ H1 _ I1 q1) fun vl s2 ⟨l, H2, I2, pl, q2⟩ => thn (hu pins s2 σ H2 _ I2 q2) fun vu s3 ⟨u, H3, I3, pu, q3⟩ => ?_); rw [evalPart_none]; refine wpAny_pure ?_; have I4 : Inv X pins σ H3 { s3 with heap := s3.heap.push { cls := .type "slice", data := .fields #[vl, vu, .none] } } := I3.kept (t' := s3.toks) fun b ob q => Heap.get?_push_of_some _ q
  obtain ⟨T, id, hT, ht, hg⟩ := hr pins { s3 with heap := s3.heap.push { cls := .type "slice", data := .fields #[vl, vu, .none] } } σ H3 x v vl vu l u s3.heap.objs.size Q I4 r1 (Heap.IsSliceOf.new ..) pl pu q3
  show wpAny (model X.prog X.w) X.A (subscriptTail e (.Slice lo hi none p2) v (.ref s3.heap.objs.size)) (EP X pins σ Q) X.xe { s3 with heap := s3.heap.push { cls := .type "slice", data := .fields #[vl, vu, .none] } }
  exact tail_any (ops := [.ref s3.heap.objs.size, v]) ht hT hg (by with_unfolding_all rfl)
def zdS (xs : List V) (lo hi : Option Int) : List V := (xs.drop (HT.sIx xs.length 0 lo)).take (HT.sIx xs.length xs.length hi - HT.sIx xs.length 0 lo)
theorem zd0 (xs : List V) (lo hi : Option Int) : (zdS xs lo hi).length <= xs.length := by
  unfold zdS; rw [List.length_take, List.length_drop]; omega
def zne (K : PySem.W.Frag) : V -> Option Int -> Option Int -> Hp -> VK -> Prop := fun x lo hi H Q => ∃ a xs, x = .ref a /\ SqT K H a xs ∧
  ¬ (HT.sIx xs.length 0 lo = 0 /\ HT.sIx xs.length xs.length hi = xs.length) /\ ∀ p, H p = none -> Q (.ref p) (upd H p (.tup (zdS xs lo hi)))
theorem zlF : SlR X (zne X.K) := by
  intro pins s σ H x v vl vu lo hi sl Q I rx hs pl pu h; obtain ⟨a, xs, rfl, hx, hw, q⟩ := h; cases rx; obtain ⟨its, r, ht, hz⟩ := I.tuple hx; have hlen : its.toArray.size = xs.length := by rw [List.size_toArray]; exact r.length.symm
  refine ⟨"tuple", _, PyProof.Rows.slot_tuple_getitem.lookup, ht.typeIs, ?_⟩; refine HT.getItem_tuple_cut ht hs pl pu (by rw [hlen]; exact hw) ?_ (by rw [hlen]; exact hz)
  rw [hlen]; refine ⟨.ref s.heap.objs.size, _, I.laid (t' := s.toks) (o := .tup (zdS xs lo hi)) (fun b ob q => Heap.get?_push_of_some _ q) (Nat.le_refl _) ?_, rfl, q _ (I.hok.fresh (Nat.le_refl _))⟩; exact ⟨Nat.le_trans (zd0 xs lo hi) hz, _, (r.drop (HT.sIx xs.length 0 lo)).take (HT.sIx xs.length xs.length hi - HT.sIx xs.length 0 lo), IsTup.new _ _⟩
def zmR (K : PySem.W.Frag) : R2 := fun x y H Q => ∃ a b xs ys, x = .ref a /\ y = .ref b /\ SqT K H a xs /\ SqT K H b ys /\ xs ≠ [] /\ xs.length + ys.length <= sizeLine ∧
  (ys = [] -> Q (.ref a) H) /\ (ys ≠ [] -> ∀ p, H p = none -> Q (.ref p) (upd H p (.tup (xs ++ ys))))
theorem Vals.nil_iff {xs : List V} {us : List Value} (r : Vals xs us) : us = [] ↔ xs = [] := by
  cases r with
  | nil => simp
  | cons _ _ => simp
theorem zkl : OpR X (binaryOp .Add) (zmR X.K) := by
  intro pins s σ H x y v u Q I rx ry h; obtain ⟨a, b, xs, ys, rfl, rfl, ha, hb, hx, hz, q1, q2⟩ := h; cases rx; cases ry; obtain ⟨its, r1, p1, _⟩ := I.tuple ha; obtain ⟨its2, r2, p2, _⟩ := I.tuple hb; refine HT.cat_tup p1 p2 (fun z => hx (r1.nil_iff.mp z)) (fun z => ⟨.ref a, H, I, rfl, q1 (r2.nil_iff.mp z)⟩) (fun z => ?_) (by rw [<- r1.length, <- r2.length]; exact hz)
  refine ⟨.ref s.heap.objs.size, _, I.laid (t' := s.toks) (o := .tup (xs ++ ys)) (fun b ob q => Heap.get?_push_of_some _ q) (Nat.le_refl _) ?_, rfl, q2 (fun w => z (r2.nil_iff.mpr w)) _ (I.hok.fresh (Nat.le_refl _))⟩; exact ⟨by rw [List.length_append]; exact hz, _, r1.append r2, IsTup.new _ _⟩
end
end L2
namespace L2
open PySem PySem.Spec PyProof.Rows
def ixN (n : Nat) (i : Int) : Option Nat := if 0 <= i then (if i < n then some i.toNat else none) else if -(n : Int) <= i then some (i + n).toNat else none
def atI {α : Type} (xs : List α) (i : Int) : Option α := (ixN xs.length i).bind fun j => xs[j]?
theorem zj9 {n : Nat} {i : Int} {j : Nat} (h : ixN n i = some j) : seqIndex? i n = some j /\ j < n /\ -(n : Int) <= i /\ i < n := by
  unfold ixN at h
  by_cases h0 : 0 <= i
  . rw [if_pos h0] at h
    by_cases h1 : i < n
    . rw [if_pos h1] at h; have e : i.toNat = j := Option.some.inj h; exact ⟨by rw [seqIndex_of h0 h1, e], by omega, by omega, h1⟩
    . rw [if_neg h1] at h; cases h
  . rw [if_neg h0] at h
    by_cases h1 : -(n : Int) <= i
    . rw [if_pos h1] at h; have e : (i + n).toNat = j := Option.some.inj h; exact ⟨by rw [seqIndex_neg (by omega) h1, e], by omega, h1, by omega⟩
    . rw [if_neg h1] at h; cases h
theorem zhP {α : Type} {xs : List α} {i : Int} {v : α} (h : atI xs i = some v) : ∃ j, seqIndex? i xs.length = some j /\ xs[j]? = some v /\ j < xs.length /\ -(xs.length : Int) <= i /\ i < xs.length := by
  unfold atI at h
  cases e : ixN xs.length i with
  | none => rw [e] at h; cases h
  | some j =>
    rw [e] at h; obtain ⟨h1, h2, h3, h4⟩ := zj9 e; exact ⟨j, h1, h, h2, h3, h4⟩
theorem zdm {α : Type} {xs : List α} {j : Nat} {v : α} (h : xs[j]? = some v) : atI xs (j : Int) = some v := by
  have hj : j < xs.length := (List.getElem?_eq_some_iff.mp h).1
  have e : ixN xs.length (j : Int) = some j := by
    unfold ixN; rw [if_pos (by omega), if_pos (by omega)]; simp
  unfold atI; rw [e]; exact h
def zj6 (b : Expr) : Prop := ∀ o i, subscripted b false o i = operate [o, i] (getItem o i)
def IxR (X : Cx) (r : R2) : Prop :=
  ∀ (value slice : Expr) (pins : List (Addr × Obj)) (s : Shared) (σ : St) (H : Hp) (x y : V) (v u : Value) (Q : VK), Inv X pins σ H s -> RelV x v -> RelV y u -> r x y H Q →
    subscripted slice false v u = operate [v, u] (getItem v u) -> wpAny (model X.prog X.w) X.A (subscriptTail value slice v u) (EP X pins σ Q) X.xe s
def MtR (X : Cx) (id : String) (r : V -> List V -> Hp -> VK -> Prop) : Prop :=
  ∀ (pins : List (Addr × Obj)) (s : Shared) (σ : St) (H : Hp) (x : V) (xs : List V) (v : Value) (us : List Value) (Q : VK), Inv X pins σ H s -> RelV x v -> Vals xs us -> r x xs H Q →
    wpAny (model X.prog X.w) X.A (call (.builtin id) (v :: us)) (EP X pins σ Q) X.xe s
section
variable {X : Cx} {a b : Expr} {ta tb : TE} {pos : Pos}
theorem zan {r : R2} (hr : IxR X r) (ha : PE X a ta) (hb : PE X b tb) (hs : zj6 b) : PE X (.Subscript a b pos) (tOp r ta tb) := by
  intro pins s σ H Q I h; exact Subscript_ (zlB ha hb I h fun v u s2 x y H2 I2 rx ry q => hr a b pins s2 σ H2 x y v u Q I2 rx ry q (hs _ _))
inductive QIx (A : Addr → List V → Prop) (x y : V) (Q : V → Prop) : Prop
  | mk (p : Addr) (xs : List V) (i : Int) (v : V) (h1 : x = .ref p) (h2 : y = .int i) (h3 : A p xs) (h4 : atI xs i = some v) (k : Q v) : QIx A x y Q
def zmQ (K : PySem.W.Frag) : R2 := fun x y H Q => QIx (SqL K H) x y (fun v => Q v H)
def zm8 (K : PySem.W.Frag) : R2 := fun x y H Q => QIx (SqT K H) x y (fun v => Q v H)
theorem zbc : IxR X (zmQ X.K) := by
  intro value slice pins s σ H x y v u Q I rx ry h hs; obtain ⟨p, xs, i, z, rfl, rfl, hq, he, q⟩ := h; cases rx; obtain ⟨t, rfl⟩ := ry; obtain ⟨its, r, pl, hz⟩ := I.list hq; obtain ⟨j, h1, h2, h3, h4, h5⟩ := zhP he; obtain ⟨w, ew, rw'⟩ := r.get h2; have hl := r.length; have hn := zfP; have fin : EP X pins σ Q w s := ⟨z, H, I, rw', q⟩
  by_cases h0 : 0 <= i
  . have hj : i.toNat = j := by
      rw [seqIndex_of h0 h5] at h1; exact Option.some.inj h1
    exact item_listR pl.isList h0 (by omega) (by rw [hj]; simpa using ew) fin hs
  . have hj : (i + (its.toArray.size : Int)).toNat = j := by
      rw [seqIndex_neg (by omega) h4] at h1
      rw [List.size_toArray, <- hl]; exact Option.some.inj h1
    exact subscriptTail_builtinR (x := w) pl.isList.typeIs slot_list_getitem.lookup
      (wpAny_getItem_list_neg (Q := fun r s' => r = w /\ EP X pins σ Q r s') pl.isList (by omega) (by rw [List.size_toArray] <;> omega) (by omega) (by rw [hj]; simpa using ew) ⟨rfl, fin⟩) hs
theorem zav : IxR X (zm8 X.K) := by
  intro value slice pins s σ H x y v u Q I rx ry h hs; obtain ⟨p, xs, i, z, rfl, rfl, hq, he, q⟩ := h; cases rx; obtain ⟨t, rfl⟩ := ry; obtain ⟨its, r, pl, hz⟩ := I.tuple hq; obtain ⟨j, h1, h2, h3, h4, h5⟩ := zhP he; obtain ⟨w, ew, rw'⟩ := r.get h2; have hl := r.length; have hn := zfP; have fin : EP X pins σ Q w s := ⟨z, H, I, rw', q⟩
  exact subscriptTail_builtinR (x := w) pl.typeIs slot_tuple_getitem.lookup
    (getItem_tuple (j := j) (Q := fun r s' => r = w /\ EP X pins σ Q r s') pl (by omega) (by omega) (by rw [List.size_toArray, <- hl]; exact h1) (by simpa using ew) ⟨rfl, fin⟩) hs
theorem zfG (lo hi : Option Int) (n : Nat) : (sliceBounds lo hi none n).1 = ((HT.sIx n 0 lo : Nat) : Int) /\ (sliceBounds lo hi none n).2.1 = ((HT.sIx n n hi : Nat) : Int) /\ (sliceBounds lo hi none n).2.2 = 1 := by
  refine ⟨?_, ?_, rfl⟩
  . cases lo with
    | none => simp [sliceBounds, HT.sIx]
    | some i =>
      simp only [sliceBounds, HT.sIx, Option.getD_none, show (1 : Int) > 0 by decide, if_true]
      by_cases h : i < 0
      . simp only [h, if_true] <;> omega
      . simp only [h, if_false] <;> omega
  . cases hi with
    | none => simp [sliceBounds, HT.sIx]
    | some i =>
      simp only [sliceBounds, HT.sIx, Option.getD_none, show (1 : Int) > 0 by decide, if_true]
      by_cases h : i < 0
      . simp only [h, if_true] <;> omega
      . simp only [h, if_false] <;> omega
theorem ze2 (its : List Value) (lo hi : Option Int) : slicePick its.toArray lo hi none = ((its.drop (HT.sIx its.length 0 lo)).take (HT.sIx its.length its.length hi - HT.sIx its.length 0 lo)).toArray := by
  obtain ⟨h1, h2, h3⟩ := zfG lo hi its.toArray.size; unfold slicePick; rw [h1, h2, h3]; simp only [sliceRange_one, pick_run, List.size_toArray] <;> rfl
def znv (K : PySem.W.Frag) : V -> Option Int -> Option Int -> Hp -> VK -> Prop := fun x lo hi H Q => ∃ a xs, x = .ref a /\ SqL K H a xs /\ ∀ p, H p = none -> Q (.ref p) (upd H p (.lst (zdS xs lo hi)))
theorem zdh : SlR X (znv X.K) := by
  intro pins s σ H x v vl vu lo hi sl Q I rx hs pl pu h; obtain ⟨a, xs, rfl, hx, q⟩ := h; cases rx; obtain ⟨its, r, ht, hz⟩ := I.list hx; have hlen := r.length; refine ⟨"list", _, slot_list_getitem.lookup, ht.isList.typeIs, ?_⟩; refine wpAny_getItem_list_slice ht.isList hs pl pu .none (by simp) ?_ (by rw [List.size_toArray] <;> omega)
  rw [ze2, <- hlen]; refine ⟨.ref s.heap.objs.size, _, I.laid (t' := s.toks) (o := .lst (zdS xs lo hi)) (fun b ob q => Heap.get?_push_of_some _ q) (Nat.le_refl _) ?_, rfl, q _ (I.hok.fresh (Nat.le_refl _))⟩; exact ⟨Nat.le_trans (zd0 xs lo hi) hz, _, 0, (r.drop (HT.sIx xs.length 0 lo)).take (HT.sIx xs.length xs.length hi - HT.sIx xs.length 0 lo), Heap.get?_push_size _ rfl⟩
def zdb : V -> Bool
  | .non => true
  | .bl _ => true
  | .int _ => true
  | .str _ => true
  | _ => false
def eqV : V -> V -> Bool
  | .non, .non => true
  | .bl a, .bl b => a == b
  | .bl a, .int b => (if a then 1 else 0) == b
  | .int a, .bl b => a == (if b then 1 else 0)
  | .int a, .int b => a == b
  | .str a, .str b => a == b
  | _, _ => false
theorem zld {A : Around} {s : Shared} {y x : V} {u v : Value} (ry : RelV y u) (rx : RelV x v) (fy : zdb y = true) (fx : zdb x = true) : SeqAt.EqAt A s u v (eqV y x) := by
  cases y with
  | non =>
    cases ry
    cases x with
    | non => cases rx; exact SeqAt.EqAt.same _
    | bl b => cases rx; exact SeqAt.EqAt.none_bool b
    | int b => obtain ⟨t, rfl⟩ := rx; exact SeqAt.EqAt.none_int b t
    | str b => obtain ⟨t, rfl⟩ := rx; exact SeqAt.EqAt.none_str b t
    | _ => exact absurd (show false = true from fx) Bool.false_ne_true
  | bl a =>
    cases ry
    cases x with
    | non => cases rx; exact SeqAt.EqAt.bool_none a
    | bl b => cases rx; exact SeqAt.EqAt.bool_bool a b
    | int b => obtain ⟨t, rfl⟩ := rx; exact SeqAt.EqAt.bool_int a b t
    | str b => obtain ⟨t, rfl⟩ := rx; exact SeqAt.EqAt.bool_str a b t
    | _ => exact absurd (show false = true from fx) Bool.false_ne_true
  | int a =>
    obtain ⟨t', rfl⟩ := ry
    cases x with
    | non => cases rx; exact SeqAt.EqAt.int_none a t'
    | bl b => cases rx; exact SeqAt.EqAt.int_bool a t' b
    | int b => obtain ⟨t, rfl⟩ := rx; exact SeqAt.EqAt.int_int a t' b t
    | str b => obtain ⟨t, rfl⟩ := rx; exact SeqAt.EqAt.int_str a t' b t
    | _ => exact absurd (show false = true from fx) Bool.false_ne_true
  | str a =>
    obtain ⟨t', rfl⟩ := ry
    cases x with
    | non => cases rx; exact SeqAt.EqAt.str_none a t'
    | bl b => cases rx; exact SeqAt.EqAt.str_bool a t' b
    | int b => obtain ⟨t, rfl⟩ := rx; exact SeqAt.EqAt.str_int a t' b t
    | str b => obtain ⟨t, rfl⟩ := rx; exact SeqAt.EqAt.str_str a t' b t
    | _ => exact absurd (show false = true from fx) Bool.false_ne_true
  | _ => exact absurd (show false = true from fy) Bool.false_ne_true
def eqU (x : V) (u : Value) : Bool := match u with
  | .none => eqV .non x
  | .bool b => eqV (.bl b) x
  | .int i _ => eqV (.int i) x
  | .str z _ => eqV (.str z) x
  | _ => false
theorem zjQ {x y : V} {u : Value} (r : RelV y u) (f : zdb y = true) : eqU x u = eqV y x := by
  cases y with
  | non => cases r; rfl
  | bl b => cases r; rfl
  | int i => obtain ⟨t, rfl⟩ := r; rfl
  | str z => obtain ⟨t, rfl⟩ := r; rfl
  | _ => exact absurd (show false = true from f) Bool.false_ne_true
theorem zdt {x : V} : ∀ {xs : List V} {us : List Value}, Vals xs us -> xs.all zdb = true -> us.any (eqU x) = xs.any fun y => eqV y x
  | _, _, .nil, _ => rfl
  | y :: xs, u :: us, .cons r t, f => by
    rw [List.all_cons, Bool.and_eq_true] at f; rw [List.any_cons, List.any_cons, zjQ r f.1, zdt t f.2]
theorem zcs {A : Around} {s : Shared} {x : V} {v : Value} (rx : RelV x v) (fx : zdb x = true) : ∀ {xs : List V} {us : List Value}, Vals xs us -> xs.all zdb = true -> ∀ u ∈ us, SeqAt.EqAt A s u v (eqU x u)
  | _, _, .nil, _ => fun u hu => by cases hu
  | y :: xs, u :: us, .cons r t, f => fun u' hu => by
    rw [List.all_cons, Bool.and_eq_true] at f
    rcases List.mem_cons.mp hu with rfl | hu
    . rw [zjQ r f.1]; exact zld r rx f.1 fx
    . exact zcs rx fx t f.2 u' hu
def inV (x : V) (xs : List V) : Bool := xs.any fun y => eqV y x
def rIn (K : PySem.W.Frag) (neg : Bool) : R2 := fun x y H Q => ∃ p xs, y = .ref p /\ (SqL K H p xs \/ SqT K H p xs) /\ zdb x = true /\ xs.all zdb = true /\ Q (.bl (if neg then !inV x xs else inV x xs)) H
theorem zic : OpR X (compareOp .In) (rIn X.K false) := by
  intro pins s σ H x y v u Q I rx ry h; obtain ⟨p, xs, rfl, hq, fx, fs, q⟩ := h; cases ry
  rcases hq with hq | hq
  . obtain ⟨its, r, pl, hz⟩ := I.list hq; refine SeqAt.in_listAt (eqU x) pl.isList (fun w hw => zcs rx fx r fs w (by simpa using hw)) ⟨.bl _, H, I, rfl, ?_⟩
    rw [show its.toArray.any (eqU x) = its.any (eqU x) by simp, zdt r fs]
    exact q
  . obtain ⟨its, r, pl, hz⟩ := I.tuple hq; refine SeqAt.in_tupleAt (eqU x) pl (fun w hw => zcs rx fx r fs w (by simpa using hw)) ⟨.bl _, H, I, rfl, ?_⟩
    rw [show its.toArray.any (eqU x) = its.any (eqU x) by simp, zdt r fs]
    exact q
theorem zfW : OpR X (compareOp .NotIn) (rIn X.K true) := by
  intro pins s σ H x y v u Q I rx ry h; obtain ⟨p, xs, rfl, hq, fx, fs, q⟩ := h; cases ry
  rcases hq with hq | hq
  . obtain ⟨its, r, pl, hz⟩ := I.list hq; refine SeqAt.notIn_listAt (eqU x) pl.isList (fun w hw => zcs rx fx r fs w (by simpa using hw)) ⟨.bl _, H, I, rfl, ?_⟩
    rw [show its.toArray.any (eqU x) = its.any (eqU x) by simp, zdt r fs]
    exact q
  . obtain ⟨its, r, pl, hz⟩ := I.tuple hq; refine SeqAt.notIn_tupleAt (eqU x) pl (fun w hw => zcs rx fx r fs w (by simpa using hw)) ⟨.bl _, H, I, rfl, ?_⟩
    rw [show its.toArray.any (eqU x) = its.any (eqU x) by simp, zdt r fs]
    exact q
theorem zaK : zbF X (.builtin "len") (fun xs H Q => ∃ p ys, xs = [.ref p] /\ (SqL X.K H p ys \/ SqT X.K H p ys) /\ Q (.int ys.length) H) := by
  intro pins s σ H xs us Q I r h; obtain ⟨p, ys, rfl, hq, q⟩ := h; obtain ⟨u, rfl, rx⟩ := zcm r; cases rx; have hn := zfP
  rcases hq with hq | hq
  . obtain ⟨its, r', pl, hz⟩ := I.list hq; have hlen := r'.length; exact Calls.call_len_list pl.isList (by simp only [List.size_toArray] <;> omega) ⟨.int ys.length, H, I.tok _, ⟨s.toks + 1, by rw [List.size_toArray, hlen]⟩, q⟩
  . obtain ⟨its, r', pl, hz⟩ := I.tuple hq; have hlen := r'.length; exact len_tuple pl (by simp only [List.size_toArray] <;> omega) ⟨.int ys.length, H, I.tok _, ⟨s.toks + 1, by rw [List.size_toArray, hlen]⟩, q⟩
theorem zbI : zbF X (.type "list") (fun xs H Q => ∃ p ys, xs = [.ref p] /\ (SqL X.K H p ys \/ SqT X.K H p ys) /\ ∀ l, H l = none -> Q (.ref l) (upd H l (.lst ys))) := by
  intro pins s σ H xs us Q I r h; obtain ⟨p, ys, rfl, hq, q⟩ := h; obtain ⟨u, rfl, rx⟩ := zcm r; cases rx
  have fin : ∀ (its : List Value), Vals ys its -> ys.length <= sizeLine -> ∀ (h' : Heap) (c' : Nat), (∀ b o', s.heap.get? b = some o' -> h'.get? b = some o') →
      h'.get? s.heap.objs.size = some { cls := .type "list", dict := none, data := .seq its.toArray c', slots := #[] } -> EP X pins σ Q (.ref s.heap.objs.size) { s with heap := h' } := fun its r' hz h' c' kp e =>
    ⟨.ref s.heap.objs.size, _, I.laid (t' := s.toks) kp (Nat.le_refl _) (show ObjOk X.prog X.w _ h' _ (.lst ys) from ⟨hz, its, c', r', e⟩), rfl, q _ (I.hok.fresh (Nat.le_refl _))⟩
  rcases hq with hq | hq
  . obtain ⟨its, r', pl, hz⟩ := I.list hq; have hlen := r'.length; obtain ⟨o, ho, hc, n, hd⟩ := pl.isList; exact call_list_seq p (.inl rfl) ho hc hd (fun h' c' kp e => fin its r' hz h' c' kp e) (by simp only [List.size_toArray] <;> omega)
  . obtain ⟨its, r', pl, hz⟩ := I.tuple hq; have hlen := r'.length; obtain ⟨o, ho, hc, n, hd⟩ := pl; exact call_list_seq p (.inr rfl) ho hc hd (fun h' c' kp e => fin its r' hz h' c' kp e) (by simp only [List.size_toArray] <;> omega)
theorem zeV : zbF X (.type "tuple") (fun xs H Q => ∃ p ys, xs = [.ref p] /\ ((SqL X.K H p ys /\ ∀ l, H l = none -> Q (.ref l) (upd H l (.tup ys))) \/ (SqT X.K H p ys /\ Q (.ref p) H))) := by
  intro pins s σ H xs us Q I r h; obtain ⟨p, ys, rfl, h⟩ := h; obtain ⟨u, rfl, rx⟩ := zcm r; cases rx
  rcases h with ⟨hq, q⟩ | ⟨hq, q⟩
  . obtain ⟨its, r', pl, hz⟩ := I.list hq; have hlen := r'.length; refine call_tuple_list pl.isList (fun h' kp => ?_) (by simp only [List.size_toArray] <;> omega)
    have I1 : Inv X pins σ H { s with heap := h' } := I.kept (t' := s.toks) kp
    have I2 : Inv X pins σ (upd H h'.objs.size (.tup ys)) { s with heap := h'.push { cls := .type "tuple", data := .seq its.toArray } } :=
      I1.laid (t' := s.toks) (fun b o e => Heap.get?_push_of_some _ e) (Nat.le_refl _) (show ObjOk X.prog X.w _ _ _ (.tup ys) from ⟨hz, its, r', IsTup.new _ _⟩)
    exact ⟨.ref h'.objs.size, _, I2, rfl, q _ (I1.hok.fresh (Nat.le_refl _))⟩
  . obtain ⟨its, r', pl, hz⟩ := I.tuple hq; exact call_tuple_same pl ⟨.ref p, H, I, rfl, q⟩
def tyV (K : PySem.W.Frag) (T : String) (x : V) (H : Hp) : Prop := match x with
  | .str _ => T = "str"
  | .int _ => T = "int"
  | .ref p => (T = "list" /\ ∃ xs, SqL K H p xs) \/ (T = "tuple" /\ ∃ o, K.lookup p = some o /\ o.cls = .type "tuple" /\ o.dict = none) ∨
      (T = "dict" /\ ((∃ kvs, H p = some (.dK kvs)) \/ ∃ kvs, H p = some (.dT kvs))) \/ (T = "set" /\ ∃ S n, H p = some (.set S n))
  | _ => False
theorem zjR {pins : List (Addr × Obj)} {σ : St} {H : Hp} {s : Shared} {T : String} {x : V} {v : Value} (I : Inv X pins σ H s) (r : RelV x v) (ty : tyV X.K T x H) :
    s.TypeIs v T /\ ∀ a, v = .ref a -> ∃ ob, s.heap.get? a = some ob /\ ob.dict = none := by
  cases x with
  | str z =>
    obtain ⟨t, rfl⟩ := r
    cases (show T = "str" from ty)
    exact ⟨typeIs_str s z t, fun _ e => nomatch e⟩
  | int i =>
    obtain ⟨t, rfl⟩ := r
    cases (show T = "int" from ty)
    exact ⟨typeIs_int s i t, fun _ e => nomatch e⟩
  | ref p =>
    cases r
    rcases ty with ⟨rfl, xs, hq⟩ | ⟨rfl, o, hk, hc, hd⟩ | ⟨rfl, hk⟩ | ⟨rfl, S, n, hk⟩
    . obtain ⟨its, _, pl, _⟩ := I.list hq; refine ⟨pl.isList.typeIs, fun a e => ?_⟩; cases e; obtain ⟨o, n, e, c, hd, _⟩ := pl; exact ⟨o, e, hd⟩
    . refine ⟨⟨o, I.kIn p o hk, hc⟩, fun a e => ?_⟩; cases e; exact ⟨o, I.kIn _ o hk, hd⟩
    . have z : ∃ o, s.heap.get? p = some o /\ o.ExactDict := by
        rcases hk with ⟨kvs, hk⟩ | ⟨kvs, hk⟩
        . obtain ⟨_, _, _, _, o, _, _, e, ex, _⟩ := I.hok p _ hk; exact ⟨o, e, ex⟩
        . obtain ⟨_, _, _, _, o, _, _, e, ex, _⟩ := I.hok p _ hk; exact ⟨o, e, ex⟩
      obtain ⟨o, e, ex⟩ := z; refine ⟨⟨o, e, ex.1⟩, fun a e2 => ?_⟩; cases e2; exact ⟨o, e, ex.2.1⟩
    . obtain ⟨o, _, _, _, e, ex, _⟩ := I.hok p _ hk; refine ⟨⟨o, e, ex.1⟩, fun a e2 => ?_⟩; cases e2; exact ⟨o, e, ex.2.1⟩
  | _ => exact False.elim ty
def znK (K : PySem.W.Frag) (T : String) (r : V -> List V -> Hp -> VK -> Prop) (to : TE) : TE := fun σ H Q => to σ H fun x H1 => tyV K T x H1 /\ r x [] H1 Q
def tBM (K : PySem.W.Frag) (T : String) (r : V -> List V -> Hp -> VK -> Prop) (to : TE) (t : TA) : TE := fun σ H Q => to σ H fun x H1 => tyV K T x H1 /\ t σ H1 fun xs H2 => r x xs H2 Q
variable {o e : Expr} {es : List Expr} {to : TE} {t : TA} {name : Str} {apos cpos : Pos} {T id : String} {r : V -> List V -> Hp -> VK -> Prop}
theorem zlh (pa : PlainAttrs T) (slot : Slot T name id) (hty : typeOf (.builtin id) = pure (.type "method_descriptor")) (hm : MtR X id r) (ho : PE X o to)
    (hbase : attributeBase o name X.env (eval o X.env) = eval o X.env := by rfl) (hline : (apos.endLine == cpos.line) = true := by rfl) : PE X (.Call (.Attribute o name apos) [] [] cpos) (znK X.K T r to) := by
  intro pins s σ H Q I h; refine wpAny_Call_method0_late hbase hline (thn (ho pins s σ H _ I h) fun v s1 ⟨x, H1, I1, r1, ty, q1⟩ => ?_); obtain ⟨h1, h2⟩ := zjR I1 r1 ty; exact ⟨T, id, pa, slot, hty, h1, h2, Calls.callWith_builtin rfl (PySem.evalArgs_none (hm pins s1 σ H1 x [] v [] Q I1 r1 .nil q1))⟩
theorem zcg (pa : PlainAttrs T) (slot : Slot T name id) (hty : typeOf (.builtin id) = pure (.type "method_descriptor")) (hm : MtR X id r) (ho : PE X o to) (ha : PA X (e :: es) t)
    (hbase : attributeBase o name X.env (eval o X.env) = eval o X.env := by rfl)
    (hfew : ((backTo cpos (starEach (e :: es) X.env)).all (fun x => !x.1) && (backToKw cpos (keywordEach [] X.env)).all (fun x => x.1.isSome)
      && decide ((e :: es).length + ([] : List Keyword).length + (if ([] : List Keyword).isEmpty then 0 else 1) < 30)) = true := by rfl)
    (hline : (apos.endLine == cpos.line) = true := by rfl) (hs : starEach (e :: es) X.env = (false, eval e X.env) :: starEach es X.env := by rfl) (hplain : (backTo cpos (starEach es X.env)).any (·.1) = false := by rfl) :
    PE X (.Call (.Attribute o name apos) (e :: es) [] cpos) (tBM X.K T r to t) := by
  intro pins s σ H Q I h; refine wpAny_Call_method_late hbase hfew hline rfl (thn (ho pins s σ H _ I h) fun v s1 ⟨x, H1, I1, r1, ty, q1⟩ => ?_); obtain ⟨h1, h2⟩ := zjR I1 r1 ty; refine ⟨T, id, pa, slot, hty, h1, h2, ?_⟩; have hA := ha cpos pins s1 σ H1 _ I1 q1; rw [hs] at hA ⊢; refine Calls.callWith_builtin (by show (false || (backTo cpos (starEach es X.env)).any (·.1)) = false; rw [hplain] <;> rfl) (Calls.evalArgs_plain ?_)
  exact thn hA fun us s2 ⟨vs, H2, I2, r2, q2⟩ => hm pins s2 σ H2 x vs v us Q I2 r1 r2 q2
end
end L2
namespace L2
open PySem PySem.Spec PyProof.Rows
def MtM (X : Cx) (id : String) (r : V -> List V -> Hp -> VK -> Prop) : Prop :=
  ∀ (pins : List (Addr × Obj)) (s : Shared) (σ : St) (H : Hp) (x : V) (xs : List V) (v : Value) (us : List Value) (Q : VK), Inv X pins σ H s -> RelV x v -> Vals xs us -> r x xs H Q →
    wpAny (model X.prog X.w) X.A (call (.builtin id) (v :: us)) (EP X pins σ Q) X.xe s
theorem Vals.one : ∀ {x : V} {us : List Value}, Vals [x] us -> ∃ u, us = [u] /\ RelV x u
  | _, _, .cons r .nil => ⟨_, rfl, r⟩
theorem Vals.zero : ∀ {us : List Value}, Vals [] us -> us = []
  | _, .nil => rfl
theorem Vals.dropLast {xs : List V} {us : List Value} (h : Vals xs us) : Vals xs.dropLast us.dropLast := by
  induction h with
  | nil => exact .nil
  | cons r t ih =>
    cases t with
    | nil => exact .nil
    | cons q t' => exact .cons r ih
theorem Vals.eraseIdx : ∀ {xs : List V} {us : List Value} (i : Nat), Vals xs us -> Vals (xs.eraseIdx i) (us.eraseIdx i)
  | _, _, _, .nil => .nil
  | _, _, 0, .cons _ t => t
  | _, _, i + 1, .cons r t => .cons r (Vals.eraseIdx i t)
theorem zhe {α : Type} (l : List α) : l.eraseIdx (l.length - 1) = l.dropLast := by
  induction l with
  | nil => rfl
  | cons a r ih =>
    cases r with
    | nil => rfl
    | cons b r =>
      have e : (a :: b :: r).length - 1 = ((b :: r).length - 1) + 1 := by
        have h1 : (a :: b :: r).length = r.length + 2 := rfl; have h2 : (b :: r).length = r.length + 1 := rfl; omega
      rw [e, List.eraseIdx_cons_succ, ih]
      all_goals rfl
theorem zfs {α : Type} : ∀ (l : List α) (i : Nat), (l.eraseIdx i).length <= l.length
  | [], _ => Nat.le_refl _
  | _ :: _, 0 => Nat.le_succ _
  | _ :: r, i + 1 => Nat.succ_le_succ (zfs r i)
section
variable {X : Cx} {pins : List (Addr × Obj)} {σ : St} {H : Hp} {s : Shared} {l b : Addr} {xs ys zs : List V}
theorem Inv.lset {its its' : List Value} {n : Nat} {f : Array Value -> Array Value} {t' : Nat} (I : Inv X pins σ H s) (hH : H l = some (.lst xs))
    (e : s.heap.get? l = some { cls := .type "list", data := .seq its.toArray n }) (hf : f its.toArray = its'.toArray) (hv : Vals ys its') (hz : ys.length <= sizeLine) :
    Inv X pins σ (upd H l (.lst ys)) { s with heap := s.heap.update l (Obj.mapSeq f), toks := t' } := by
  have q := PySem.IsL.update e f; rw [hf] at q; refine I.write (x := l) (e := l) (by rw [hH]; exact trivial) (.inl rfl) (fun b' u hb hu => (Heap.get?_update_other s.heap (Obj.mapSeq f) (Ne.symm hb)).trans hu) ⟨_, q⟩ ?_
  exact ⟨hz, its', _, hv, q⟩
theorem Inv.lnew {its : List Value} {t' : Nat} (I : Inv X pins σ H s) (hv : Vals ys its) (hz : ys.length <= sizeLine) :
    Inv X pins σ (upd H s.heap.objs.size (.lst ys)) { s with heap := s.heap.push { cls := .type "list", data := .seq its.toArray }, toks := t' } :=
  I.laid (fun _ _ q => Heap.get?_push_of_some _ q) (Nat.le_refl _) ⟨hz, its, 0, hv, Heap.get?_push_size _ rfl⟩
theorem Inv.fresh (I : Inv X pins σ H s) : H s.heap.objs.size = none := I.hok.fresh (Nat.le_refl _)
theorem Inv.lstM (I : Inv X pins σ H s) (hH : H l = some (.lst xs)) : xs.length <= sizeLine /\ ∃ (its : List Value) (n : Nat), Vals xs its /\ xs.length = its.length /\ s.heap.get? l = some { cls := .type "list", data := .seq its.toArray n } := by
  obtain ⟨z, its, n, r, e⟩ := I.hok l _ hH; exact ⟨z, its, n, r, r.length, e⟩
theorem zjv {n : Nat} (h : n <= sizeLine) : Builtin.List.listTooLong n = false := by
  unfold Builtin.List.listTooLong; exact decide_eq_false (by omega)
end
section
variable {X : Cx}
def zkL : V -> List V -> Hp -> VK -> Prop := fun x vs H Q => ∃ l xs y, x = .ref l /\ vs = [y] /\ H l = some (.lst xs) /\ xs.length < sizeLine /\ Q .non (upd H l (.lst (xs ++ [y])))
theorem zbo : MtM X "list.append" zkL := by
  intro pins s σ H x vs v us Q I rx rv h; obtain ⟨l, xs, y, rfl, rfl, hH, hz, q⟩ := h; cases rx; obtain ⟨u, rfl, ru⟩ := rv.one; obtain ⟨z, its, n, r, hl, e⟩ := I.lstM hH; refine call_meets F.slot_list_append ⟨_, e, rfl⟩ F.entry_list_append (F.args_list_append_2 _ _) (PySem.list_append l its.toArray n u (by rw [List.size_toArray]; omega)) ⟨e, ?_⟩
  refine ⟨.non, _, I.lset (its' := its ++ [u]) hH e (by simp) (r.append (.cons ru .nil)) ?_, rfl, q⟩
  rw [List.length_append, List.length_singleton]; omega
def zkh : V -> List V -> Hp -> VK -> Prop := fun x vs H Q => ∃ l b xs zs, x = .ref l /\ vs = [.ref b] /\ H l = some (.lst xs) /\ H b = some (.lst zs) /\ xs.length + zs.length <= sizeLine /\ Q .non (upd H l (.lst (xs ++ zs)))
theorem zdP : MtM X "list.extend" zkh := by
  intro pins s σ H x vs v us Q I rx rv h; obtain ⟨l, b, xs, zs, rfl, rfl, hH, hB, hz, q⟩ := h; cases rx; obtain ⟨u, rfl, ru⟩ := rv.one; cases ru; obtain ⟨z, its, n, r, hl, e⟩ := I.lstM hH; obtain ⟨z2, its2, n2, r2, hl2, e2⟩ := I.lstM hB; have hsz : its.toArray.size + its2.toArray.size <= sizeLine := by rw [List.size_toArray, List.size_toArray]; omega
  have hlong : ¬ (!its.toArray.isEmpty && Builtin.List.listTooLong (its.toArray.size + its2.toArray.size)) = true := by
    rw [zjv hsz, Bool.and_false]; exact Bool.false_ne_true
  refine call_meets F.slot_list_extend ⟨_, e, rfl⟩ F.entry_list_extend (F.args_list_extend_2 _ _)
    (AutoSeq1.list_extend_list_list_0 l its.toArray n b its2.toArray n2 hlong (by rw [List.size_toArray]; omega) (by omega)) ⟨e, e2, ?_⟩
  refine ⟨.non, _, I.lset (its' := its ++ its2) hH e (by simp) (r.append r2) ?_, rfl, q⟩
  rw [List.length_append]; omega
def znG : V -> List V -> Hp -> VK -> Prop := fun x vs H Q => ∃ l xs y, x = .ref l /\ vs = [] /\ H l = some (.lst xs) /\ xs[xs.length - 1]? = some y /\ Q y (upd H l (.lst xs.dropLast))
theorem zk9 : MtM X "list.pop" znG := by
  intro pins s σ H x vs v us Q I rx rv h; obtain ⟨l, xs, y, rfl, rfl, hH, hy, q⟩ := h; cases rx; have hus := rv.zero; subst hus; obtain ⟨z, its, n, r, hl, e⟩ := I.lstM hH; obtain ⟨u, hu, ru⟩ := r.get hy
  have hy' : its.toArray[its.toArray.size - 1]? = some u := by
    show its.toArray[its.length - 1]? = some u; rw [<- Array.getElem?_toList, <- hl]; exact hu
  refine call_meets F.slot_list_pop ⟨_, e, rfl⟩ F.entry_list_pop (F.args_list_pop_1 _) (MeetsSeq.list_pop_last l its.toArray n u hy' (by rw [List.size_toArray]; omega)) ⟨e, ?_⟩
  refine ⟨y, _, I.lset (its' := its.dropLast) hH e ?_ r.dropLast ?_, ru, q⟩
  . show its.toArray.eraseIdxIfInBounds (its.toArray.size - 1) = its.dropLast.toArray; rw [List.size_toArray, List.eraseIdxIfInBounds_toArray, zhe]
  . rw [List.length_dropLast]; omega
def zlm : V -> List V -> Hp -> VK -> Prop := fun x vs H Q => ∃ l xs i k y, x = .ref l /\ vs = [.int i] /\ H l = some (.lst xs) /\ -(2 ^ 63) <= i /\ i < 2 ^ 63 /\ seqIndex? i xs.length = some k /\ xs[k]? = some y /\ Q y (upd H l (.lst (xs.eraseIdx k)))
theorem zjS : MtM X "list.pop" zlm := by
  intro pins s σ H x vs v us Q I rx rv h; obtain ⟨l, xs, i, k, y, rfl, rfl, hH, h1, h2, hk, hy, q⟩ := h; cases rx; obtain ⟨u, rfl, ru⟩ := rv.one; obtain ⟨t, rfl⟩ := ru; obtain ⟨z, its, n, r, hl, e⟩ := I.lstM hH; obtain ⟨w, hw, rw'⟩ := r.get hy
  refine call_meets F.slot_list_pop ⟨_, e, rfl⟩ F.entry_list_pop (F.args_list_pop_2 _ _)
    (MeetsSeq.list_pop_at l its.toArray n i t k w (fitsIndex_both h1 h2) (by rw [List.size_toArray, <- hl]; exact hk) (by rw [<- Array.getElem?_toList]; exact hw) (by rw [List.size_toArray]; omega)) ⟨e, ?_⟩
  refine ⟨y, _, I.lset (its' := its.eraseIdx k) hH e ?_ (r.eraseIdx k) ?_, rw', q⟩
  . show its.toArray.eraseIdxIfInBounds k = (its.eraseIdx k).toArray; rw [List.eraseIdxIfInBounds_toArray]
  . have := zfs xs k; omega
def znq : R2 := fun x y H Q => ∃ l b xs zs, x = .ref l /\ y = .ref b /\ H l = some (.lst xs) /\ H b = some (.lst zs) /\ xs.length + zs.length <= sizeLine /\ ∀ p, H p = none -> Q (.ref p) (upd H p (.lst (xs ++ zs)))
theorem zc3 : OpR X (binaryOp .Add) znq := by
  intro pins s σ H x y v u Q I rx ry h; obtain ⟨l, b, xs, zs, rfl, rfl, hH, hB, hz, q⟩ := h; cases rx; cases ry; obtain ⟨z, its, n, r, hl, e⟩ := I.lstM hH; obtain ⟨z2, its2, n2, r2, hl2, e2⟩ := I.lstM hB; refine PySem.P.add_list e e2 ?_ (by rw [List.size_toArray, List.size_toArray]; omega)
  have ea : its.toArray ++ its2.toArray = (its ++ its2).toArray := by simp
  rw [ea]; exact ⟨.ref _, _, I.lnew (t' := s.toks) (r.append r2) (by rw [List.length_append]; omega), rfl, q _ I.fresh⟩
end
section
variable {prog : Program} {w : World} {A : Around} {E : Value -> Shared -> Prop} {s : Shared}
set_option maxRecDepth 100000 in
end
section
variable {X : Cx}
end
end L2
namespace Att
open PySem PySem.W PySem.Calls PyProof.Rows
theorem zd7 {P : Params} {h : Heap} : ∀ (ns : List Int) (vs : List Value), WellAll P h vs (ns.map WData.int) -> IntsAre vs ns := by
  intro ns
  induction ns with
  | nil =>
    intro vs w; rw [List.map_nil] at w; cases w; exact .nil
  | cons n ns ih =>
    intro vs w; rw [List.map_cons] at w
    cases w with
    | cons a b =>
      cases a; exact .cons _ _ (ih _ b)
theorem zis {l : OpenLaw} {n : Nat} (hn : l.most = some n) {P : Params} {h : Heap} {args : List WData} {vals : List Value}
    (hpre : l.row.toRowW.claim.pre args = true) (hwl : WellAll P h vals args) :
    ∃ a vs ns, vals = [Value.ref a] /\ args = [WData.list (ns.map WData.int)] /\ h.get? a = some { cls := .type "list", data := .seq vs.toArray } /\ IntsAre vs ns /\ ns.length <= n := by
  have hsh : WShape.hasAll [] args [.list .int] = true := (pre_splitW hpre).1; have hc : l.pre.holds [] { args := args } = true := (pre_splitW hpre).2; obtain ⟨d, r, rfl, h1, h2⟩ := hasAllW_cons hsh; obtain rfl := hasAllW_nil h2; obtain ⟨xs, rfl, h3⟩ := hasW_list h1; obtain ⟨ns, rfl⟩ := items_int h3
  have hlen : ns.length <= n := by
    unfold OpenLaw.pre at hc
    have h4 : (WTm.not (.lt (.lit (.int (n : Int))) (.len (.arg 0)))).holds [] { args := [.list (ns.map .int)] } = true := by
      have h4 := (holds_andW hc).1; rw [hn] at h4; exact h4
    have h5 := condW_of h4 (w_not (w_lt w_lit (w_len_list (w_arg rfl)))); rw [List.length_map] at h5; refine Nat.le_of_not_lt fun q => ?_; have q' : (n : Int) < ((ns.length : Nat) : Int) := by omega
    first
      | (rw [decide_eq_true q'] at h5; exact absurd h5 (by decide))
      | (simp at h5; omega)
  cases hwl with
  | cons w1 w2 =>
    cases w2
    cases w1 with
    | list ho hall => exact ⟨_, _, ns, rfl, rfl, ho, zd7 ns _ hall, hlen⟩
theorem zir (l : OpenLaw) (args : List WData) : l.row.toRowW.claim.post args (.bool true) args = true :=
  postW_of (r := l.row.toRowW) (X := (true == true))
    (show WShape.has [] (.bool true) .bool = true by first | rfl | decide | simp [WShape.has, WShape.arms, WShape.armsAll])
    (show (WTm.eq .res (.lit (.bool true))).value [] { args := args, res := some (.bool true), after := args } = some (.bool (true == true)) from w_eq_bool (w_res rfl) w_lit) rfl
theorem attach_call {l : OpenLaw} {n : Nat} {q : Program} {loose : List Str} {XP : (Str -> Option Value) -> Heap -> Prop} {YP : World -> Heap -> Prop} {d : DefRec}
    (hn : l.most = some n) (hdf : d.params.defaults = [])
    (call : ∀ (w : World) (s₀ s₁ : Shared) (mg mb : Str -> Option Value) (fa : Addr) (o : Obj) (pm cd doc : Value) (a : Addr) (vs : List Value) (ns : List Int),
      Ground q loose [] XP w s₀ mg mb s₁.heap -> YP w s₁.heap →
      s₁.heap.get? fa = some o -> o.data = .func (docDef d.name d.params d.body d.scope pm cd doc) -> s₁.heap.CodeRec cd d.name -> mg d.name = some (.ref fa) →
      s₁.heap.get? a = some { cls := .type "list", data := .seq vs.toArray } -> IntsAre vs ns -> ns.length <= n -> s₁.gens = #[] →
      codeAny (model l.prog w) callerA (.call (.ref fa) ⟨[.ref a], []⟩) (fun r s' => r = .ok (.ret (.bool true)) /\ OldK s₁.heap s'.heap /\ s'.os = s₁.os /\ AllBare s'.gens) s₁) :
    WalkO q loose XP YP l.row.toRowW d [] (fun f vs => PySem.call f vs) := by
  intro w s₀ s₁ mg mb G Y fa o pm cd doc dV kV ho hd hcd hD hmg hg args vals as hpre hlay hrd hwl hlo; obtain rfl : dV = .none := Dflts.none hD hdf; obtain rfl : kV = .none := Dflts.noKw hD; obtain ⟨a, vs, ns, rfl, rfl, hobj, hints, hlen⟩ := zis hn hpre hwl; refine enter_call (codeAny_mono (call w s₀ s₁ mg mb fa o pm cd doc a vs ns G Y ho (fd_plain hd) hcd hmg hobj hints hlen hg) fun r s' hq => ?_); obtain ⟨rfl, h2, h3, h4⟩ := hq; exact ⟨.inl ⟨.bool true, .bool true, [], rfl, fun _ => rfl, .bool true, zir l _, fun _ => ⟨List.Pairwise.nil, fun _ hm => (nomatch hm)⟩⟩, h2, h3, h4⟩
section
variable {prog : Program} {w : World} {A : Around} {E : Value -> Shared -> Prop} {s : Shared} {K : Frag}
end
end Att
namespace L2
open PySem PySem.Spec PyProof.Rows
theorem zdV : ∀ {vs : List Value} {ns : List Int}, IntsAre vs ns -> Vals (ns.map V.int) vs
  | _, _, .nil => .nil
  | _, _, .cons n t h => .cons ⟨t, rfl⟩ (zdV h)
def zl4 (H : Hp) : Prop := ∀ b, H b = none \/ ∃ o xs, H b = some (.frz o (.lst xs))
theorem zjr {P : Program} {w : World} {K : PySem.W.Frag} {mg mb : Str -> Option Value} {CX : CXT} {k : Nat} {fa a : Addr} {fd : FuncData} {x : Str} {sp : Sp} {s₁ : Shared} {vs : List Value} {ns : List Int}
    (KX : K.In s₁.heap) (hns : s₁.heap.Ns mainGlobals mg) (hb : s₁.heap.Ns builtinsNs mb) (hbb : ∀ x : Str, x ≠ "__name__" -> mb x = bootBuiltins x) (hlim : s₁.heap.NoLimit) (hg : s₁.gens = #[])
    (ha : s₁.heap.get? a = some { cls := .type "list", data := .seq vs.toArray }) (hi : IntsAre vs ns) (hl : ns.length <= sizeLine) (hr : Room k callerA)
    (F : ∀ base : Heap, K.In base -> base.Ns mainGlobals mg -> FnOk P w K mg base CX k fa fd [x] sp) (hbind : ∀ (s : Shared) (u : Value), BindsTo s fd ⟨[u], []⟩ [(x, u)])
    (hsp : ∀ H : Hp, zl4 H -> SqL K H a (ns.map V.int) -> sp [.ref a] H (fun v _ => v = .bl true) fun _ _ _ => False)
    (hCX : ∀ H e s', CX [] H s₁ (fun _ _ _ => False) e s' -> False) :
    codeAny (model P w) callerA (.call (.ref fa) ⟨[.ref a], []⟩) (fun r s' => r = .ok (.ret (.bool true)) /\ OldK s₁.heap s'.heap /\ s'.os = s₁.os /\ AllBare s'.gens) s₁ := by
  have rv := zdV hi; have lenV := hi.length
  have core : ∀ H : Hp, zl4 H -> SqL K H a (ns.map V.int) -> HOk P w H s₁.heap -> (∀ b, H b ≠ none -> b = a) -> (H a ≠ none -> K.lookup a = none) →
      codeAny (model P w) callerA (.call (.ref fa) ⟨[.ref a], []⟩) (fun r s' => r = .ok (.ret (.bool true)) /\ OldK s₁.heap s'.heap /\ s'.os = s₁.os /\ AllBare s'.gens) s₁ := by
    intro H hO hS hok hA hK; have base_of : ∀ {b : Addr} {o : Obj}, s₁.heap.get? b = some o -> H b = none -> (zfQ s₁.heap H).get? b = some o := fun e n => zjW e n
    have noA : ∀ {b : Addr} {o : Obj} {es : Array DictEntry} {ep : Nat}, s₁.heap.get? b = some o -> o.data = .dict es ep -> H b = none := fun {b o es ep} e d => by
      cases q : H b with
      | none => rfl
      | some u =>
        have e' : b = a := hA b (by rw [q]; simp)
        subst e'; rw [ha] at e; cases e; have d' : Data.seq vs.toArray _ = Data.dict es ep := d; cases d'
    have nsK : ∀ {b : Addr} {m : Str -> Option Value}, s₁.heap.Ns b m -> (zfQ s₁.heap H).Ns b m := fun {b m} ⟨o, es, ep, e, d, r⟩ => ⟨o, es, ep, base_of e (noA e d), d, r⟩
    have hKb : K.In (zfQ s₁.heap H) := fun b o e => base_of (KX b o e) (by
      cases q : H b with
      | none => rfl
      | some u =>
        have e' : b = a := hA b (by rw [q]; simp)
        subst e'
        rw [hK (by rw [q]; simp)] at e; cases e)
    have hM : Mod K mg (zfQ s₁.heap H) := ⟨hKb, nsK hns, ⟨mb, nsK hb, hbb⟩, let ⟨mc, h1, h2⟩ := hlim; ⟨mc, nsK h1, h2⟩⟩; have e0 : zkM P w K mg (zfQ s₁.heap H) callerA [] s₁ H := ⟨rfl, hM, fun b o e => zki e, Nat.le_of_eq (zix _ _), trivial, fun b hb => absurd (show b ∈ ([] : List Addr) from hb) (by simp), hok, .of_eq hg⟩
    refine codeAny_mono ((F _ hKb (nsK hns)).run callerA [] s₁ H ⟨[.ref a], []⟩ [.ref a] [.ref a] _ _ hr e0 (hbind s₁ (.ref a)) (.cons rfl .nil) (hsp H hO hS)) fun r s' h => ?_
    cases r with
    | error e => exact (hCX H e s' h).elim
    | ok fl =>
      cases fl with
      | next => exact False.elim h
      | brk => exact False.elim h
      | cont => exact False.elim h
      | ret u =>
        obtain ⟨v, H', os, bare, un, hok', r', q⟩ := h; have q' : v = .bl true := q; subst q'; obtain rfl : u = Value.bool true := r'; refine ⟨rfl, OldK.of_keep fun b o e => ?_, os, bare⟩
        cases q : H b with
        | none => exact un.keep b o e q (by intro z; exact absurd (show b ∈ ([] : List Addr) from z) (by simp)) (by simp)
        | some u =>
          rcases hO b with z | ⟨ob, xs, z⟩
          . rw [q] at z; cases z
          . have z2 := un.frzs b ob _ z; obtain ⟨e1, _⟩ := hok b _ z; obtain ⟨e2, _⟩ := hok' b _ z2; rw [e] at e1; cases e1; exact e2
  cases hk : K.lookup a with
  | some o =>
    have e := KX a o hk; rw [ha] at e; cases e; refine core (fun _ => none) (fun _ => .inl rfl) (.inr ⟨_, vs.toArray, _, hk, rfl, rfl, rfl, by rw [List.size_toArray, lenV]; exact hl, by simpa using rv⟩) (fun b u z => by have z' : (none : Option HO) = some u := z; cases z') (fun b z => absurd rfl z) fun z => absurd rfl z
  | none =>
    refine core (fun b => if b = a then some (.frz { cls := .type "list", data := .seq vs.toArray } (.lst (ns.map V.int))) else none) (fun b => ?_) (.inl (.inr ⟨{ cls := .type "list", data := .seq vs.toArray }, if_pos rfl⟩)) (fun b u z => ?_) (fun b z => ?_) fun _ => hk
    . by_cases hb : b = a
      . exact .inr ⟨_, _, if_pos hb⟩
      . exact .inl (if_neg hb)
    . by_cases hb : b = a
      . have z' := (if_pos hb).symm.trans z; cases z'; subst hb; exact ⟨ha, by rw [List.length_map]; exact hl, vs, _, rv, ha⟩
      . have z' := (if_neg hb).symm.trans z; cases z'
    . by_cases hb : b = a
      . exact hb
      . exact absurd (if_neg hb) z
end L2
namespace L2
open PySem PySem.Spec PyProof.Rows
theorem walk_of {l : PySem.W.OpenLaw} {n k : Nat} {q : Program} {loose : List Str} {XP : (Str -> Option Value) -> Heap -> Prop} {YP : World -> Heap -> Prop} {d : DefRec} {K : Params -> PySem.W.Frag} {CX : World -> CXT} {sp : World -> Sp} {x : Str}
    (hn : l.most = some n) (hn2 : n <= sizeLine) (hdf : d.params.defaults = []) (hr : Room k callerA)
    (hY : ∀ (w : World) (h : Heap), YP w h -> (K w.params).In h)
    (F : ∀ (w : World) (mg : Str -> Option Value) (fa : Addr) (h : Heap), (K w.params).In h -> h.Ns mainGlobals mg -> mg d.name = some (.ref fa) →
      ∃ fd : FuncData, (∀ (s : Shared) (u : Value), BindsTo s fd ⟨[u], []⟩ [(x, u)]) ∧
        ∀ base : Heap, (K w.params).In base -> base.Ns mainGlobals mg -> FnOk l.prog w (K w.params) mg base (CX w) k fa fd [x] (sp w))
    (hsp : ∀ (w : World) (H : Hp) (a : Addr) (ns : List Int), ns.length <= n -> zl4 H -> SqL (K w.params) H a (ns.map V.int) -> sp w [.ref a] H (fun v _ => v = .bl true) fun _ _ _ => False)
    (hCX : ∀ (w : World) (H : Hp) (s : Shared) (e : Value) (s' : Shared), CX w [] H s (fun _ _ _ => False) e s' -> False) :
    PySem.W.WalkO q loose XP YP l.row.toRowW d [] (fun f vs => PySem.call f vs) := by
  refine Att.attach_call hn hdf fun w s₀ s₁ mg mb fa o pm cd doc a vs ns G Y ho hd hcd hmg hobj hints hlen hg => ?_; have KX := hY w _ Y; obtain ⟨fd, hb, hF⟩ := F w mg fa _ KX G.T.g hmg; exact zjr KX G.T.g G.T.b G.T.builtins G.T.nolimit hg hobj hints (Nat.le_trans hlen hn2) hr hF hb (fun H hO hS => hsp w H a ns hlen hO hS) fun H e s' => hCX w H s₁ e s'
end L2
namespace L2
open PySem PySem.Spec PyProof.Rows
def zbl (s : Stmt) : Arguments := match s with
  | .FunctionDef _ a _ _ _ _ _ _ _ _ => a
  | _ => { posonlyargs := [], args := [], vararg := none, kwonlyargs := [], kw_defaults := [], kwarg := none, defaults := [] }
def zaU (s : Stmt) : List Stmt := match s with
  | .FunctionDef _ _ b _ _ _ _ _ _ _ => b
  | _ => []
def zaf (s : Stmt) : Scope := match s with
  | .FunctionDef _ _ _ _ _ _ sc _ _ _ => sc
  | _ => { kind := .function, names := [], isGenerator := false, isCoroutine := false }
abbrev CX0 : CXT := fun _ _ _ _ _ _ => False
abbrev E0 : XK := fun _ _ _ => False
structure Fun (K : PySem.W.Frag) (x qual : Str) (st : Stmt) (f : Addr) (fd : FuncData) : Prop where
  ex : ∃ (oc : Value) (od : Option Addr) (kV doc pm : Value) (an : Option Addr) (cdv ct : Value) (osl : Array (Option Value)),
    fd = PySem.W.fnOf x qual (zbl st) (zaU st) (zaf st) .none kV doc pm an cdv ct /\ K.lookup f = some ⟨oc, od, .func fd, osl⟩ /\ PySem.W.codeIn K cdv qual = true
  kp : PySem.W.keepIn K (.ref f) = true
section
variable {P : Program} {w : World} {K : PySem.W.Frag} {mg : Str -> Option Value} {base : Heap}
theorem Fun.ok {x qual : Str} {st : Stmt} {f : Addr} {fd : FuncData} {N ps : List Str} {k : Nat} {sp : Sp} (F : Fun K x qual st f fd) (S : zal N ps (zaf st)) (len : ∀ vs H Q E, sp vs H Q E -> vs.length = ps.length)
    (hbody : ∀ (cdv : Value) (A : Around) (outer : List Env) (s : Shared) (H : Hp) (vs : List V) (Q : VK) (E : XK), Room k (A.deeper (envOfC qual (zaf st) s.heap.objs.size f cdv)) -> sp vs H Q E →
      ∃ t, PSs (zdu CX0 P w K mg base N qual (zaf st) f cdv A outer s H E).nox (zaU st) t /\ t { nx := fun _ H' => Q .non H', rt := Q } (start N vs) H) : FnOk P w K mg base CX0 (k + 1) f fd ps sp := by
  obtain ⟨oc, od, kV, doc, pm, an, cdv, ct, osl, rfl, lk, hcd⟩ := F.ex; refine zk0 lk hcd S len fun A outer s H vs Q E hr hsp => ?_; obtain ⟨t, h, q⟩ := hbody cdv A outer s H vs Q E hr hsp; exact ⟨t, h.nox, q⟩
theorem Fun.binds {x qual : Str} {st : Stmt} {f : Addr} {fd : FuncData} {ps : List Str} (F : Fun K x qual st f fd)
    (h : ∀ (kV doc pm : Value) (an : Option Addr) (cdv ct : Value) (us : List Value), us.length = ps.length -> bindArgs (PySem.W.fnOf x qual (zbl st) (zaU st) (zaf st) .none kV doc pm an cdv ct) ⟨us, []⟩ = pure (ps.zip us)) : Binds K fd ps [] := by
  obtain ⟨oc, od, kV, doc, pm, an, cdv, ct, osl, rfl, lk, hcd⟩ := F.ex; exact .all (h kV doc pm an cdv ct)
theorem zlu {x qual : Str} {st : Stmt} {f : Addr} {oc : Value} {od an : Option Addr} {osl : Array (Option Value)} {kV doc pm cdv ct : Value} (l : K.lookup f = some ⟨oc, od, .func (PySem.W.fnOf x qual (zbl st) (zaU st) (zaf st) .none kV doc pm an cdv ct), osl⟩)
    (c : PySem.W.codeIn K cdv qual = true) (k : PySem.W.keepIn K (.ref f) = true) : Fun K x qual st f (PySem.W.fnOf x qual (zbl st) (zaU st) (zaf st) .none kV doc pm an cdv ct) := ⟨⟨oc, od, kV, doc, pm, an, cdv, ct, osl, rfl, l, c⟩, k⟩
end
theorem zfe {A : Around} {k : Nat} (hr : Room k A) : A.units + 1 < cLine := Nat.lt_of_le_of_lt (Nat.add_le_add_left (by decide : 1 <= 64) _) hr.units
theorem ziL {n : Nat} (h : n <= 1000) : n < sizeLine := Nat.lt_of_le_of_lt h (by decide)
section
variable {X : Cx}
theorem pv (i : Nat) {x : Str} {pos : Pos} (hN : X.N[i]? = some x := by rfl) (hv : Vis X.env.scope x := by first | exact Or.inl rfl | exact Or.inr (Or.inl rfl) | exact Or.inr (Or.inr rfl)) (hd : (x == ("__debug__" : Str)) = false := by decide)
    (hcd : (x == ("__classdict__" : Str)) = false := by decide) : PE X (.Name x pos) (zmP i) := zl7 hN hv hd hcd
end
theorem za4 {A B : Prop} (h : B) : if false = true then A else B := by
  rw [if_neg Bool.false_ne_true]; exact h
theorem zbW {A B : Prop} (h : A) : if true = true then A else B := by
  rw [if_pos rfl]; exact h
def Same (H H' : Hp) : Prop := ∀ b o, H b = some o -> H' b = some o
theorem Same.refl (H : Hp) : Same H H := fun _ _ h => h
theorem Same.trans {H H1 H2 : Hp} (a : Same H H1) (b : Same H1 H2) : Same H H2 := fun c o h => b c o (a c o h)
theorem Same.seq {K : PySem.W.Frag} {H H' : Hp} {a : Addr} {xs : List V} (e : Same H H') (h : SqL K H a xs) : SqL K H' a xs := by
  rcases h with (h | ⟨o, h⟩) | h
  . exact .inl (.inl (e _ _ h))
  . exact .inl (.inr ⟨o, e _ _ h⟩)
  . exact .inr h
end L2
namespace L2
open PySem PySem.Spec PyProof.Rows
section
variable {κ : Type} [DecidableEq κ]
def zbB (kvs : List (κ × V)) (k : κ) : Option V := (kvs.find? fun kv => decide (kv.1 = k)).map (·.2)
def zfS (kvs : List (κ × V)) (k : κ) (v : V) : List (κ × V) :=
  if (kvs.any fun kv => decide (kv.1 = k)) = true then kvs.map (fun kv => if kv.1 = k then (kv.1, v) else kv) else kvs ++ [(k, v)]
theorem zgv {k : κ} : zbB ([] : List (κ × V)) k = none := rfl
theorem za8 {p : κ × V} {r : List (κ × V)} {k : κ} (e : p.1 = k) : zbB (p :: r) k = some p.2 := by simp [zbB, List.find?_cons, e]
theorem za9 {p : κ × V} {r : List (κ × V)} {k : κ} (e : ¬ p.1 = k) : zbB (p :: r) k = zbB r k := by simp [zbB, List.find?_cons, e]
theorem zf7 (kvs : List (κ × V)) (k : κ) (v : V) : (zfS kvs k v).length <= kvs.length + 1 := by
  unfold zfS
  split
  . rw [List.length_map]; omega
  . rw [List.length_append, List.length_cons, List.length_nil]; omega
theorem RelO.isSome_eq {o : Option V} {u : Option Value} (r : RelO o u) : o.isSome = u.isSome := by
  cases o with
  | none => cases u with
    | none => rfl
    | some _ => exact (show False from r).elim
  | some _ => cases u with
    | none => exact (show False from r).elim
    | some _ => rfl
theorem KV.val {kvs : List (κ × V)} {vs : List (κ × Value)} (r : KV kvs vs) (k : κ) : RelO (zbB kvs k) (valueAt vs k) := by
  unfold KV at r
  induction r with
  | nil => exact True.intro
  | @cons p q ps qs h t ih =>
    obtain ⟨h1, h2⟩ := h
    by_cases e : p.1 = k
    . have e' : q.1 = k := h1.symm.trans e; have b : valueAt (q :: qs) k = some q.2 := by simp [valueAt, List.find?_cons, e']
      rw [za8 e, b]; exact h2
    . have e' : ¬ q.1 = k := fun z => e (h1.trans z); have b : valueAt (q :: qs) k = valueAt qs k := by simp [valueAt, List.find?_cons, e']
      rw [za9 e, b]; exact ih
theorem KV.any {kvs : List (κ × V)} {vs : List (κ × Value)} (r : KV kvs vs) (k : κ) : (kvs.any fun kv => decide (kv.1 = k)) = vs.any fun kv => decide (kv.1 = k) := by
  unfold KV at r
  induction r with
  | nil => rfl
  | cons h t ih => rw [List.any_cons, List.any_cons, ih, h.1]
theorem KV.repl {kvs : List (κ × V)} {vs : List (κ × Value)} (r : KV kvs vs) (k : κ) {y : V} {u : Value} (ry : RelV y u) :
    KV (kvs.map fun kv => if kv.1 = k then (kv.1, y) else kv) (vs.map fun kv => if kv.1 = k then (kv.1, u) else kv) := by
  unfold KV at r ⊢
  induction r with
  | nil => exact .nil
  | @cons p q ps qs h t ih =>
    rw [List.map_cons, List.map_cons]; refine .cons ?_ ih; obtain ⟨h1, h2⟩ := h
    by_cases e : p.1 = k
    . rw [if_pos e, if_pos (h1.symm.trans e)]; exact ⟨h1, ry⟩
    . rw [if_neg e, if_neg (fun z => e (h1.trans z))]; exact ⟨h1, h2⟩
theorem KV.put {kvs : List (κ × V)} {vs : List (κ × Value)} (r : KV kvs vs) (k : κ) {y : V} {u : Value} (ry : RelV y u) : KV (zfS kvs k y) (stored vs k u) := by
  unfold zfS stored; rw [r.any k]
  by_cases e : (vs.any fun kv => decide (kv.1 = k)) = true
  . rw [if_pos e, if_pos e]; exact r.repl k ry
  . rw [if_neg e, if_neg e]; exact Paired.snoc r ⟨rfl, ry⟩
theorem KV.keys {kvs : List (κ × V)} {vs : List (κ × Value)} (r : KV kvs vs) : kvs.map (·.1) = vs.map (·.1) := by
  unfold KV at r
  induction r with
  | nil => rfl
  | cons h t ih => rw [List.map_cons, List.map_cons, ih, h.1]
theorem KV.length {kvs : List (κ × V)} {vs : List (κ × Value)} (r : KV kvs vs) : kvs.length = vs.length := Paired.length r
end
theorem zet {P : Program} {w : World} {k : Key} {u : Value} (r : RelV (kV k) u) : (zaE P w).is k u = true := by
  cases k with
  | inl i => obtain ⟨t, e⟩ := (show ∃ t, u = Value.int i t from r); subst e; exact zf5 P w i t
  | inr x => obtain ⟨t, e⟩ := (show ∃ t, u = Value.str x t from r); subst e; exact zgM P w x t
theorem zfi {P : Program} {w : World} : ∀ {ks : List Key} {us : List Value}, Vals (ks.map kV) us -> ItemsAre (zaE P w) ks us
  | [], _, r => by rw [List.map_nil] at r; cases r; exact .nil
  | k :: ks, _, r => by
    rw [List.map_cons] at r
    cases r with
    | cons h t => exact .cons (zet h) (zfi t)
abbrev KT (H : Hp) : List (List Key × V) -> List (List Key × Addr × Value) -> Prop := Paired fun p q => p.1 = q.1 /\ H q.2.1 = some (.tup (p.1.map kV)) /\ RelV p.2 q.2.2
theorem KT.val {H : Hp} {kvs : List (List Key × V)} {xs : List (List Key × Addr × Value)} (r : KT H kvs xs) (k : List Key) : RelO (zbB kvs k) ((atKey xs k).map (·.2)) := by
  induction r with
  | nil => exact True.intro
  | @cons p q ps qs h t ih =>
    obtain ⟨h1, _, h2⟩ := h
    by_cases e : p.1 = k
    . have e' : q.1 = k := h1.symm.trans e; have b : atKey (q :: qs) k = some q.2 := by simp [atKey, List.find?_cons, e']
      rw [za8 e, b]; exact h2
    . have e' : ¬ q.1 = k := fun z => e (h1.trans z); have b : atKey (q :: qs) k = atKey qs k := by simp [atKey, List.find?_cons, e']
      rw [za9 e, b]; exact ih
section
variable {P : Program} {w : World} {H : Hp} {h : Heap} {a : Addr}
theorem zkX {u : HO} (ok : HOk P w H h) (e : Rd H a u) : ObjOk P w H h a u := e.ok ok
theorem zf6 {kvs : List (Key × V)} (ok : HOk P w H h) (e : Rd H a (.dK kvs)) : kvs.length <= sizeLine /\ (a == sysModules) = false /\ ∃ vs, KV kvs vs /\ h.DictOf (zaE P w) a vs :=
  show ObjOk P w H h a (.dK kvs) from zkX ok e
theorem zmw {kvs : List (Key × V)} (ok : HOk P w H h) (e : H a = some (.dK kvs)) : kvs.length <= sizeLine /\ (a == sysModules) = false /\ ∃ vs, KV kvs vs /\ h.DictOf (zaE P w) a vs := zf6 ok (.inl e)
theorem zdQ {ks : List Key} (ok : HOk P w H h) (e : H a = some (.tup (ks.map kV))) : (tupleKind (zaE P w)).is h ks a := by
  obtain ⟨_, its, r, o, h1, h2, n, h3⟩ := (show ObjOk P w H h a (.tup (ks.map kV)) from ok a _ e); exact ⟨o, its.toArray, n, h1, h2, h3, by simpa using zfi r⟩
theorem zja {kvs : List (List Key × V)} (ok : HOk P w H h) (e : Rd H a (.dT kvs)) : kvs.length <= sizeLine /\ (a == sysModules) = false ∧
    ∃ xs, KT H kvs xs /\ h.DictOfH (tupleKind (zaE P w)) a xs := by
  obtain ⟨z, y, xs, r, o, es, ep, h1, h2, h3, h4, h5⟩ := (show ObjOk P w H h a (.dT kvs) from zkX ok e); refine ⟨z, y, xs, r, o, es, ep, h1, h2, h3, h4, fun x hx => ?_, h5⟩
  have all : ∀ {l : List (List Key × V)} {m : List (List Key × Addr × Value)}, KT H l m -> ∀ x ∈ m, (tupleKind (zaE P w)).is h x.1 x.2.1 := by
    intro l m q
    induction q with
    | nil => intro x hx; exact nomatch hx
    | @cons p q ps qs hq t ih =>
      intro x hx
      rcases List.mem_cons.mp hx with e | hx
      . subst e; exact zdQ ok (by rw [<- hq.1]; exact hq.2.1)
      . exact ih x hx
  exact all r x hx
end
def zjp (H : Hp) (a : Addr) (y : V) (r : Option V) : Prop :=
  (∃ kvs k, Rd H a (.dK kvs) /\ y = kV k /\ r = zbB kvs k) \/ ∃ kvs k b, Rd H a (.dT kvs) /\ y = .ref b /\ H b = some (.tup (k.map kV)) /\ r = zbB kvs k
section
variable {X : Cx} {pins : List (Addr × Obj)} {σ : St} {H : Hp} {s : Shared} {a : Addr} {y v : V} {u r : Value} {o : Option V} {A : Around} {E : Value -> Shared -> Prop}
theorem Inv.big (I : Inv X pins σ H s) : sysModules < s.heap.objs.size := by
  have h : mainGlobals < s.heap.objs.size := (I.mod.glob.keeps I.bk).lt; exact Nat.lt_trans (by decide) h
theorem zh4 {Q : Value -> Shared -> Prop} (hu : A.units + 1 < cLine) (I : Inv X pins σ H s) (g : zjp H a y (some v)) (ry : RelV y u) (h : ∀ w' s', Inv X pins σ H s' -> RelV v w' -> Q w' s') :
    wpAny (model X.prog X.w) A (getItem (.ref a) u) Q E s := by
  rcases g with ⟨kvs, k, e, ey, l⟩ | ⟨kvs, k, b, e, ey, eb, l⟩
  . subst ey; obtain ⟨z, hd, vs, rel, dd⟩ := zf6 I.hok e; obtain ⟨w', hw, rw'⟩ := RelO.some_of (v := v) (o := valueAt vs k) (by rw [l]; exact rel.val k)
    exact wpAny_getItem_of (zet ry) dd.mapOf hw (h w' _ (I.tok _) rw')
  . subst ey
    cases (show u = Value.ref b from ry)
    obtain ⟨z, hd, xs, rel, dd⟩ := zja I.hok e; obtain ⟨w', hw, rw'⟩ := RelO.some_of (v := v) (o := (atKey xs k).map (·.2)) (by rw [l]; exact rel.val k)
    obtain ⟨p, hp, hp2⟩ := Option.map_eq_some_iff.mp hw; refine wpAny_getItem_heap (tupleKind_room_in1 hu) (zdQ I.hok eb) dd hp ?_; rw [hp2]; exact h w' _ (I.tok _) rw'
theorem zks {Q : Value -> Shared -> Prop} (hu : A.units + 1 < cLine) (I : Inv X pins σ H s) (g : zjp H a y o) (ry : RelV y u) (h : ∀ s', Inv X pins σ H s' -> Q (.bool (!o.isSome)) s') :
    wpAny (model X.prog X.w) A (compareOp .NotIn u (.ref a)) Q E s := by
  rcases g with ⟨kvs, k, e, ey, l⟩ | ⟨kvs, k, b, e, ey, eb, l⟩
  . subst ey; obtain ⟨z, hd, vs, rel, dd⟩ := zf6 I.hok e; refine wpAny_notIn_of (zet ry) hd dd.mapOf ?_; rw [<- (rel.val k).isSome_eq, <- l]; exact h _ (I.tok _)
  . subst ey
    cases (show u = Value.ref b from ry)
    obtain ⟨z, hd, xs, rel, dd⟩ := zja I.hok e; refine wpAny_notIn_heap (tupleKind_room_in1 hu) (zdQ I.hok eb) hd dd ?_; have q := (rel.val k).isSome_eq; rw [Option.isSome_map] at q; rw [<- q, <- l]; exact h _ (I.tok _)
theorem zko {h' : Heap} {t' : Nat} {ob : HO} (I : Inv X pins σ H s) (mu : Mut (H a)) (hs : Heap.SameBut a s.heap h') (he : ∃ q, h'.get? a = some q) (new : ObjOk X.prog X.w (upd H a ob) h' a ob) :
    Inv X pins σ (upd H a ob) { s with heap := h', toks := t' } :=
  I.write (x := a) (e := a) mu (.inl rfl) (fun b q hb z => (hs.2 b hb).trans z) he new
theorem zlY {P : Program} {w : World} {H' : Hp} {h' : Heap} {kvs : List (Key × V)} {vs : List (Key × Value)} (z : kvs.length <= sizeLine) (hd : (a == sysModules) = false) (rel : KV kvs vs) (dd : h'.DictOf (zaE P w) a vs) :
    ObjOk P w H' h' a (.dK kvs) := ⟨z, hd, vs, rel, dd⟩
end
section
variable {X : Cx} {pins : List (Addr × Obj)} {σ : St} {H : Hp} {s : Shared} {a : Addr} {kvs : List (Key × V)} {k : Key} {u : Value} {A : Around} {E : Value -> Shared -> Prop}
end
def zkn (i : Expr) : Prop := ∀ ov iv, subscripted i false ov iv = operate [ov, iv] (getItem ov iv)
theorem zfD {prog : Program} {w : World} {A : Around} {E : Value -> Shared -> Prop} {s : Shared} {env : Env} {value slice : Expr} {pos : Pos} {T id : String} {Q : Value -> Shared -> Prop}
    (hl : typeLookup (.type T) "__getitem__" = pure (some (.builtin id))) (hs : zkn slice)
    (h : wpAny (model prog w) A (eval value env) (fun o s₁ => wpAny (model prog w) A (eval slice env) (fun i s₂ => s₂.TypeIs o T /\ wpAny (model prog w) A (getItem o i) Q E s₂) E s₁) E s) :
    wpAny (model prog w) A (eval (.Subscript value slice pos) env) Q E s := by
  refine Subscript_ (wpAny_mono h (fun o s₁ h₁ => wpAny_mono h₁ (fun i s₂ h₂ => ?_) fun _ _ x => x) fun _ _ x => x); obtain ⟨hT, h₂⟩ := h₂; unfold subscriptTail; refine wpAny_bind ?_; rw [getitemInPython_of_ne hT.not_modules]; refine wpAny_bind (wpAny_specialOf hT hl ?_)
  have fin : wpAny (model prog w) A (subscripted slice false o i) (fun r s₃ => wpAny (model prog w) A (letTemporaryGo value o r >>= fun _ => pure r) Q E s₃) E s₂ := by
    rw [hs o i]; exact wpAny_operating (wpAny_mono h₂ (fun r s₃ h₃ => wpAny_bind (wpAny_letTemporaryGo (wpAny_pure h₃))) fun _ _ x => x)
  first
    | exact wpAny_pure (wpAny_bind fin)
    | exact wpAny_bind (wpAny_pure (wpAny_bind fin))
    | exact wpAny_bind fin
theorem zgl {X : Cx} {pins : List (Addr × Obj)} {σ : St} {H : Hp} {s : Shared} {a : Addr} {y : V} {o : Option V} (I : Inv X pins σ H s) (g : zjp H a y o) : s.TypeIs (.ref a) "dict" := by
  rcases g with ⟨kvs, k, e, _, _⟩ | ⟨kvs, k, b, e, _, _, _⟩
  . obtain ⟨_, _, vs, _, dd⟩ := zf6 I.hok e; exact dd.typeIs
  . obtain ⟨_, _, xs, _, dd⟩ := zja I.hok e; exact dd.typeIs
def zmU (td ty : TE) : TE := fun σ H Q => td σ H fun x H1 => ty σ H1 fun y H2 => ∃ a v, x = .ref a /\ zjp H2 a y (some v) /\ Q v H2
def zkF (ty td : TE) : TE := fun σ H Q => ty σ H fun y H1 => td σ H1 fun x H2 => ∃ a o, x = .ref a /\ zjp H2 a y o /\ Q (.bl (!o.isSome)) H2
section
variable {X : Cx} {o i e value : Expr} {pos pos' tpos : Pos} {td ty tv : TE}
theorem zfC (hu : X.A.units + 1 < cLine) (ho : PE X o td) (hi : PE X i ty) (hs : zkn i) : PE X (.Subscript o i pos) (zmU td ty) := by
  intro pins s σ H Q I h; refine zfD PySem.F.slot_dict_getitem.lookup hs (thn (ho pins s σ H _ I h) fun u s1 ⟨x, H1, I1, rx, q1⟩ => thn (hi pins s1 σ H1 _ I1 q1) fun iv s2 ⟨y, H2, I2, ry, a, v, ex, g, q2⟩ => ?_); subst ex; obtain rfl : u = Value.ref a := rx; exact ⟨zgl I2 g, zh4 hu I2 g ry fun w' s3 I3 rw' => ⟨v, H2, I3, rw', q2⟩⟩
theorem zh9 (hu : X.A.units + 1 < cLine) (hi : PE X i ty) (ho : PE X o td) : PC X .NotIn i o (zkF ty td) := by
  intro pins s σ H Q I h; refine thn (hi pins s σ H _ I h) fun iv s1 ⟨y, H1, I1, ry, q1⟩ => thn (ho pins s1 σ H1 _ I1 q1) fun u s2 ⟨x, H2, I2, rx, a, ov, ex, g, q2⟩ => ?_; subst ex; obtain rfl : u = Value.ref a := rx; exact zks hu I2 g ry fun s3 I3 => ⟨.bl (!ov.isSome), H2, I3, rfl, q2⟩
end
theorem ziW {P : Program} {w : World} {H : Hp} (h : Heap) (hb : sysModules < h.objs.size) : ObjOk P w H (h.push { cls := .type "dict", data := .dict #[] }) h.objs.size (.dK []) :=
  ⟨Nat.zero_le _, beq_eq_false_iff_ne.mpr (Ne.symm (Nat.ne_of_lt hb)), [], .nil, Heap.DictOf.new h⟩
section
variable {X : Cx} {pos : Pos}
end
def zhx : List (TE × TE) -> St -> Hp -> (List (V × V) -> Hp -> Prop) -> Prop
  | [], _, H, Q => Q [] H
  | (tk, tv) :: r, σ, H, Q => tk σ H fun x H1 => tv σ H1 fun y H2 => zhx r σ H2 fun ps H3 => Q ((x, y) :: ps) H3
abbrev VV : List (V × V) -> List (Value × Value) -> Prop := Paired fun p q => RelV p.1 q.1 /\ RelV p.2 q.2
def PPs (X : Cx) (pos : Pos) (keys : List (Option Expr)) (values : List Expr) (trs : List (TE × TE)) : Prop :=
  ∀ (pins : List (Addr × Obj)) (s : Shared) (σ : St) (H : Hp) (Q : List (V × V) -> Hp -> Prop), Inv X pins σ H s -> zhx trs σ H Q →
    wpAny (model X.prog X.w) X.A (evalPairs (pairTrees keys values X.env pos)) (fun vs s' => ∃ ps H', Inv X pins σ H' s' /\ VV ps vs /\ Q ps H') X.xe s
theorem zdi {X : Cx} {pos : Pos} : PPs X pos [] [] [] := fun pins s σ H Q I h => pairTrees_nil_walk ⟨[], H, I, .nil, h⟩
theorem zbw {X : Cx} {pos : Pos} {k v : Expr} {ks : List (Option Expr)} {vs : List Expr} {tk tv : TE} {trs : List (TE × TE)} (hk : PE X k tk) (hv : PE X v tv) (hr : PPs X pos ks vs trs) :
    PPs X pos (some k :: ks) (v :: vs) ((tk, tv) :: trs) := fun pins s σ H Q I h =>
  pairTrees_cons_walk (thn (hk pins s σ H _ I h) fun u s1 ⟨x, H1, I1, rx, q1⟩ => thn (hv pins s1 σ H1 _ I1 q1) fun w2 s2 ⟨y, H2, I2, ry, q2⟩ =>
    thn (hr pins s2 σ H2 _ I2 q2) fun ws s3 ⟨ps, H3, I3, rel, q3⟩ => ⟨(x, y) :: ps, H3, I3, .cons ⟨rx, ry⟩ rel, q3⟩)
def za2 (kvs more : List (Key × V)) : List (Key × V) := more.foldl (fun acc kv => zfS acc kv.1 kv.2) kvs
theorem KV.merge : ∀ {more : List (Key × V)} {rs : List (Key × Value)} {kvs : List (Key × V)} {vs : List (Key × Value)}, KV more rs -> KV kvs vs -> KV (za2 kvs more) (merged vs rs) := by
  intro more rs kvs vs r; unfold KV at r
  induction r generalizing kvs vs with
  | nil => intro q; exact q
  | @cons p q ps qs h t ih =>
    intro r0
    have e : KV (zfS kvs p.1 p.2) (stored vs q.1 q.2) := by
      have := r0.put p.1 h.2; rw [<- h.1]; exact this
    exact ih e
theorem zcN : ∀ (more kvs : List (Key × V)), (za2 kvs more).length <= kvs.length + more.length
  | [], kvs => by show kvs.length <= kvs.length + 0; omega
  | p :: r, kvs => by
    have h1 := zcN r (zfS kvs p.1 p.2); have h2 := zf7 kvs p.1 p.2; show (za2 (zfS kvs p.1 p.2) r).length <= _; rw [List.length_cons]; omega
theorem zeB {P : Program} {w : World} : ∀ {kvs : List (Key × V)} {ws : List (Value × Value)}, VV (kvs.map fun kv => (kV kv.1, kv.2)) ws -> ∃ rs, Carries (zaE P w) ws rs /\ KV kvs rs
  | [], _, r => by rw [List.map_nil] at r; cases r; exact ⟨[], True.intro, .nil⟩
  | p :: kvs, _, r => by
    rw [List.map_cons] at r
    cases r with
    | @cons a b as bs h t =>
      obtain ⟨rs, c, q⟩ := zeB (P := P) (w := w) t; obtain ⟨b1, b2⟩ := b; exact ⟨(p.1, b2) :: rs, ⟨zet h.1, rfl, c⟩, .cons ⟨rfl, h.2⟩ q⟩
def zm9 (trs : List (TE × TE)) : TE := fun σ H Q => ∀ p, H p = none -> zhx trs σ (upd H p (.dK [])) fun ps H2 => H2 p = some (.dK []) /\ ∃ kvs : List (Key × V), ps = kvs.map (fun kv => (kV kv.1, kv.2)) /\ kvs.length <= 15 /\ Q (.ref p) (upd H2 p (.dK (za2 [] kvs)))
theorem zdo {X : Cx} {pos : Pos} {keys : List (Option Expr)} {values : List Expr} {trs : List (TE × TE)} (h : PPs X pos keys values trs) (hall : keys.all (·.isSome) = true) (hl : keys.length = values.length) (h0 : keys ≠ [])
    (h15 : keys.length <= 15) : PE X (.Dict keys values pos) (zm9 trs) := by
  intro pins s σ H Q I q; have hn := I.hok.fresh (Nat.le_refl s.heap.objs.size); have I1 := I.laid (a := s.heap.objs.size) (o := .dK []) (h' := s.heap.push { cls := .type "dict", data := .dict #[] }) (t' := s.toks) (fun _ _ q => Heap.get?_push_of_some _ q) (Nat.le_refl _) (ziW s.heap I.big); refine wpAny_Dict_walk (knd := zaE X.prog X.w) hall hl h0 h15 (thn (h pins _ σ _ _ I1 (q _ hn)) fun ws s2 ⟨ps, H2, I2, rel, e, kvs, ep, lk, q2⟩ => ?_); subst ep; obtain ⟨rs, c, rk⟩ := zeB (P := X.prog) (w := X.w) rel; obtain ⟨z, hd, vs0, r0, dd⟩ := zmw I2.hok e; cases r0; refine ⟨rs, c, dd, fun h' dd' hs => ⟨.ref s.heap.objs.size, _, ?_, rfl, q2⟩⟩
  have hz : (za2 [] kvs).length <= sizeLine := by
    have h1 := zcN kvs []; rw [List.length_nil] at h1; rw [sizeLine_eq]; omega
  have he : ∃ q, h'.get? s.heap.objs.size = some q := let ⟨q, _, _, hq, _⟩ := dd'; ⟨q, hq⟩; exact zko I2 (by rw [e]; exact True.intro) hs he (zlY hz hd (rk.merge .nil) dd')
section
variable {X : Cx} {pins : List (Addr × Obj)} {σ : St} {H : Hp} {s : Shared} {a : Addr} {y d : V} {u r : Value} {o : Option V} {A : Around} {E : Value -> Shared -> Prop}
end
section
variable {X : Cx} {o e f : Expr} {apos cpos : Pos} {td ty tx : TE}
end
section
variable {X : Cx} {pins : List (Addr × Obj)} {σ : St} {H : Hp} {s : Shared} {a : Addr} {kvs : List (Key × V)} {A : Around} {E : Value -> Shared -> Prop}
end
section
variable {X : Cx} {pins : List (Addr × Obj)} {σ : St} {H : Hp} {s : Shared} {a : Addr} {y : V} {u : Value} {A : Around} {E : Value -> Shared -> Prop}
end
end L2
namespace L2
open PySem PySem.Spec PyProof.Rows
section
variable {X : Cx}
end
section
variable {κ : Type} [DecidableEq κ]
end
end L2
set_option Elab.async false
set_option linter.all false
set_option maxRecDepth 100000
namespace L2
open PySem PySem.Spec PyProof.Rows
def zbT (cells : List (Str × Addr)) : List (Str × NameKind) -> List (Str × Addr) -> List (Str × Addr)
  | [], acc => acc
  | (n, k) :: r, acc => if (k == NameKind.free) = true then (match cells.lookup n with | some c => zbT cells r ((n, c) :: acc) | none => zbT cells r acc) else zbT cells r acc
theorem zcK {scope : Scope} {env : Env} (h : ∀ y ∈ scope.names, y.2 = .free -> ∃ c, env.cells.lookup y.1 = some c) : closureFor scope env = pure (zbT env.cells scope.names []) := by
  have all : ∀ (l : List (Str × NameKind)) (acc : List (Str × Addr)), (∀ y ∈ l, y.2 = .free -> ∃ c, env.cells.lookup y.1 = some c) →
      (forIn l acc fun (x : Str × NameKind) (r : List (Str × Addr)) => if (x.2 == NameKind.free) = true then do
        let a <- cellOf env x.1
        pure (ForInStep.yield ((x.1, a) :: r)) else pure (ForInStep.yield r) : Sem (List (Str × Addr))) = pure (zbT env.cells l acc) := by
    intro l
    induction l with
    | nil => intro acc _; rfl
    | cons x r ih =>
      intro acc hl; obtain ⟨n, k⟩ := x; have ih' := fun acc => ih acc fun y hy => hl y (List.mem_cons_of_mem _ hy); rw [List.forIn_cons]
      by_cases hk : (k == NameKind.free) = true
      . have hk' : k = NameKind.free := by simpa using hk
        obtain ⟨c, hc⟩ := hl (n, k) List.mem_cons_self hk'; have hc' : env.cells.lookup n = some c := hc; simp only [hk, if_true]; have e1 : cellOf env n = pure c := by unfold cellOf; rw [hc']
        rw [e1]; simp only [pure_bind]; rw [ih']; simp only [zbT, hk, if_true, hc']
      . simp only [hk, if_false, pure_bind, Bool.false_eq_true]; rw [ih']; simp only [zbT, hk, if_false, Bool.false_eq_true]
  have := all scope.names [] h; simp only [closureFor]
  first
    | exact this
    | (simp only [bind_pure]; exact this)
    | simpa using this
theorem zbz {cells : List (Str × Addr)} : ∀ {names : List (Str × NameKind)} {acc : List (Str × Addr)}, (∀ y c, acc.lookup y = some c -> cells.lookup y = some c) -> ∀ y c, (zbT cells names acc).lookup y = some c -> cells.lookup y = some c
  | [], _, h, y, c, e => h y c e
  | (n, k) :: r, acc, h, y, c, e => by
    unfold zbT at e
    split at e
    . cases hn : cells.lookup n with
      | none => rw [hn] at e; exact zbz h y c e
      | some c' =>
        rw [hn] at e; refine zbz (fun y c q => ?_) y c e; rw [List.lookup_cons] at q
        cases hy : y == n with
        | true =>
          rw [hy] at q; have q' : c' = c := Option.some.inj q; have hyn : y = n := by simpa using hy
          rw [hyn, hn, q']
        | false => rw [hy] at q; exact h y c q
    . exact zbz h y c e
theorem zde {cells : List (Str × Addr)} : ∀ {names : List (Str × NameKind)} {acc : List (Str × Addr)} {y : Str} {c : Addr}, cells.lookup y = some c -> ((acc.lookup y).isSome = true \/ names.lookup y = some .free) -> ((zbT cells names acc).lookup y).isSome = true
  | [], acc, y, c, _, h => by
    rcases h with h | h
    . exact h
    . simp at h
  | (n, k) :: r, acc, y, c, hc, h => by
    unfold zbT; have hyn : ∀ q : (y == n) = true, y = n := fun q => by simpa using q
    split
    . rename_i hk
      cases hn : cells.lookup n with
      | none =>
        refine zde (c := c) hc ?_
        rcases h with h | h
        . exact .inl h
        . rw [List.lookup_cons] at h
          cases hy : y == n with
          | true =>
            rw [hyn hy, hn] at hc; cases hc
          | false => rw [hy] at h; exact .inr h
      | some c' =>
        refine zde (c := c) hc ?_; rw [List.lookup_cons]
        cases hy : y == n with
        | true => exact .inl rfl
        | false =>
          rcases h with h | h
          . exact .inl h
          . rw [List.lookup_cons, hy] at h; exact .inr h
    . rename_i hk
      refine zde (c := c) hc ?_
      rcases h with h | h
      . exact .inl h
      . rw [List.lookup_cons] at h
        cases hy : y == n with
        | true =>
          rw [hy] at h; have : k = NameKind.free := Option.some.inj h; exact absurd (by simpa using this) hk
        | false => rw [hy] at h; exact .inr h
theorem zdj {cells : List (Str × Addr)} {names : List (Str × NameKind)} {y : Str} {c : Addr} (hc : cells.lookup y = some c) (h : names.lookup y = some .free) : (zbT cells names []).lookup y = some c := by
  obtain ⟨c', e⟩ := Option.isSome_iff_exists.mp (zde (acc := []) hc (.inr h)); have := zbz (acc := []) (fun _ _ q => by simp at q) y c' e
  rw [hc] at this; rw [e, this]
theorem zc9 {env : Env} : ∀ {names : List (Str × NameKind)} {x : Str}, names.lookup x = some .free →
    ((names.map fun (n, k) => if (k == NameKind.free && env.scope.kind == .function && env.kindOf n == some .cell) then (n, NameKind.cell) else (n, k)).lookup x = some .cell ∨
     (names.map fun (n, k) => if (k == NameKind.free && env.scope.kind == .function && env.kindOf n == some .cell) then (n, NameKind.cell) else (n, k)).lookup x = some .free)
  | [], _, h => by simp at h
  | (n, k) :: r, x, h => by
    have ih := @zc9 env r x; show List.lookup x ((if (k == NameKind.free && env.scope.kind == .function && env.kindOf n == some .cell) = true then (n, NameKind.cell) else (n, k)) :: _) = _ \/ List.lookup x ((if (k == NameKind.free && env.scope.kind == .function && env.kindOf n == some .cell) = true then (n, NameKind.cell) else (n, k)) :: _) = _
    cases hx : x == n with
    | true =>
      simp only [List.lookup_cons, hx] at h; cases h
      by_cases hc : (NameKind.free == NameKind.free && env.scope.kind == .function && env.kindOf n == some .cell) = true
      . rw [if_pos hc]; simp only [List.lookup_cons, hx]; exact .inl trivial
      . rw [if_neg hc]; simp only [List.lookup_cons, hx]; exact .inr trivial
    | false =>
      simp only [List.lookup_cons, hx] at h
      by_cases hc : (k == NameKind.free && env.scope.kind == .function && env.kindOf n == some .cell) = true
      . rw [if_pos hc]; simp only [List.lookup_cons, hx]; exact ih h
      . rw [if_neg hc]; simp only [List.lookup_cons, hx]; exact ih h
theorem zcV {env : Env} : ∀ {names : List (Str × NameKind)} {x : Str}, (∀ y ∈ names, y.2 ≠ .cell) →
    ((names.map fun (n, k) => if (k == NameKind.free && env.scope.kind == .function && env.kindOf n == some .cell) then (n, NameKind.cell) else (n, k)).lookup x = some .cell ∨
     (names.map fun (n, k) => if (k == NameKind.free && env.scope.kind == .function && env.kindOf n == some .cell) then (n, NameKind.cell) else (n, k)).lookup x = some .free) -> names.lookup x = some .free
  | [], _, _, h => by simp at h
  | (n, k) :: r, x, hn, h => by
    have ih := @zcV env r x (fun y hy => hn y (List.mem_cons_of_mem _ hy)); have h' : List.lookup x ((if (k == NameKind.free && env.scope.kind == .function && env.kindOf n == some .cell) = true then (n, NameKind.cell) else (n, k)) :: (r.map fun (n, k) => if (k == NameKind.free && env.scope.kind == .function && env.kindOf n == some .cell) then (n, NameKind.cell) else (n, k))) = some .cell \/ List.lookup x ((if (k == NameKind.free && env.scope.kind == .function && env.kindOf n == some .cell) = true then (n, NameKind.cell) else (n, k)) :: (r.map fun (n, k) => if (k == NameKind.free && env.scope.kind == .function && env.kindOf n == some .cell) then (n, NameKind.cell) else (n, k))) = some .free := h
    cases hx : x == n with
    | true =>
      by_cases hc : (k == NameKind.free && env.scope.kind == .function && env.kindOf n == some .cell) = true
      . have hk : k = NameKind.free := by
          rw [Bool.and_eq_true, Bool.and_eq_true] at hc
          simpa using hc.1.1
        rw [List.lookup_cons, hx, hk]
      . rw [if_neg hc] at h'; simp only [List.lookup_cons, hx] at h' ⊢
        rcases h' with z | z
        . exact absurd (Option.some.inj z) (hn (n, k) List.mem_cons_self)
        . exact z
    | false =>
      by_cases hc : (k == NameKind.free && env.scope.kind == .function && env.kindOf n == some .cell) = true
      . rw [if_pos hc] at h'; simp only [List.lookup_cons, hx] at h' ⊢; exact ih h'
      . rw [if_neg hc] at h'; simp only [List.lookup_cons, hx] at h' ⊢; exact ih h'
def zaA (X : Cx) (scope : Scope) (C : Addr) (N : List Str) (s₀ : Shared) (H₀ : Hp) (fp : List Addr) : Cx :=
  { X with N := N, s₀ := s₀, H₀ := H₀, env := compEnvC scope (zbT X.env.cells scope.names []) C X.env, outer := X.stack, stack := X.stack, ex := fp, fn := fun _ => false, pn := [], xe := fun _ _ => False }
def cap (σ : St) (idx : List Nat) : St := idx.map fun j => σ.getD j none
structure CompNames (sc : Scope) (N0 : List Str) (scope : Scope) (x : Str) (ns : List Str) (idx : List Nat) : Prop where
  kind : scope.kind = .function
  cell : ∀ y ∈ scope.names, y.2 ≠ .cell
  loc : ∀ y ∈ scope.names, y.2 = .local -> scope.names.lookup y.1 = some .local
  tgt : scope.names.lookup x = some .local
  nd : (x :: ns).Nodup
  from_ : ∀ y ∈ scope.names, y.2 = .free -> (sc.names.lookup y.1 = some .cell \/ sc.names.lookup y.1 = some .free)
  free : ∀ y ∈ ns, scope.names.lookup y = some .free
  ix : idx.map (fun j => N0[j]?) = ns.map some
def cnB (sc : Scope) (N0 : List Str) (scope : Scope) (x : Str) (ns : List Str) (idx : List Nat) : Bool :=
  decide (scope.kind = .function) && scope.names.all (fun y => decide (y.2 ≠ .cell)) && scope.names.all (fun y => decide (y.2 = .local -> scope.names.lookup y.1 = some .local)) && decide (scope.names.lookup x = some .local) &&
  decide ((x :: ns).Nodup) && scope.names.all (fun y => decide (y.2 = .free -> (sc.names.lookup y.1 = some .cell \/ sc.names.lookup y.1 = some .free))) && ns.all (fun y => decide (scope.names.lookup y = some .free)) &&
  decide (idx.map (fun j => N0[j]?) = ns.map some)
theorem zbj {sc : Scope} {N0 : List Str} {scope : Scope} {x : Str} {ns : List Str} {idx : List Nat} (h : cnB sc N0 scope x ns idx = true) : CompNames sc N0 scope x ns idx := by
  unfold cnB at h; simp only [Bool.and_eq_true, List.all_eq_true, decide_eq_true_eq] at h; obtain ⟨⟨⟨⟨⟨⟨⟨h1, h2⟩, h3⟩, h4⟩, h5⟩, h6⟩, h7⟩, h8⟩ := h; exact ⟨h1, h2, h3, h4, h5, h6, h7, h8⟩
theorem zbk {names : List (Str × NameKind)} {y : Str} {k : NameKind} (h : names.lookup y = some k) : (y, k) ∈ names := PySem.mem_of_lookup h
section
variable {X : Cx} {pins : List (Addr × Obj)} {σ : St} {H : Hp} {s : Shared} {scope : Scope} {x : Str} {ns : List Str} {idx : List Nat} {fp : List Addr}
theorem CompNames.clos (N : CompNames X.env.scope X.N scope x ns idx) (ok : X.Ok) : closureFor scope X.env = pure (zbT X.env.cells scope.names []) :=
  zcK fun y hy hk => ok.has y.1 (N.from_ y hy hk)
theorem Inv.comp {h1 : Heap} {t' : Nat} {C D : Addr} (N : CompNames X.env.scope X.N scope x ns idx) (I : Inv X pins σ H s) (f2 : ∀ b ∈ fp, zcu X pins H b) (fo : ∀ b ∈ fp, ∃ o, s.heap.get? b = some o)
    (hD : s.heap.objs.size <= D) (hC : s.heap.objs.size <= C) (hDC : D ≠ C) (old : ∀ b o, s.heap.get? b = some o -> h1.get? b = some o) (hacc : h1.get? D = some { cls := .type "list", data := .seq #[] 0 })
    (hns : h1.Ns C fun _ => none) :
    Inv (zaA X scope C (x :: ns) s H fp) [] (none :: cap σ idx) (upd H D (.lst [])) { s with heap := h1, toks := t' } := by
  have hDn : H D = none := I.hok.fresh hD; have hCn : H C = none := I.hok.fresh hC; have cne : ∀ y c, (zbT X.env.cells scope.names []).lookup y = some c -> X.env.cells.lookup y = some c := zbz (acc := []) (fun _ _ q => by simp at q)
  have clt : ∀ y c, X.env.cells.lookup y = some c -> c < s.heap.objs.size := fun y c e => by
    obtain ⟨v, o, ho, _⟩ := I.cell y c e; exact Heap.lt_size ho
  refine ⟨⟨I.ok.mod, N.kind, I.ok.glob, I.ok.blt, hC, fun y z c e1 e2 => ?_, fun y hy => ?_, fun y c hf _ => ?_, I.ok.hd, I.ok.frames, .inl rfl, fun b hb => ⟨?_, fun y c e => ?_⟩, I.bs, Nat.le_trans I.ok.bsz I.sz, fun b o e hb => ?_, fun b hb hz => ?_, I.stack, I.stkFree⟩,
    rfl, I.bare, ?_, ⟨_, hns, fun i y v e1 e2 e3 => ?_⟩, fun y c e => ?_, ?_, fun y c e => ?_, fun p hp => absurd (show p ∈ ([] : List (Addr × Obj)) from hp) (by simp), ?_, ?_⟩
  . exact I.ok.inj y z c (cne y c e1) (cne z c e2)
  . have hy' := zcV (env := X.env) N.cell hy; obtain ⟨c, e⟩ := I.ok.has y (N.from_ (y, .free) (zbk hy') rfl); exact ⟨c, zdj e hy'⟩
  . exact absurd hf (by show ¬ (false = true); decide)
  . obtain ⟨o, e⟩ := fo b hb; exact Nat.ne_of_lt (Nat.lt_of_lt_of_le (Heap.lt_size e) hC)
  . exact (f2 b hb).2.2.2.2.1 y c (cne y c e)
  . rcases (f2 b hb).2.2.2.1 with z | z
    . exact I.ok.noex b o e z
    . exact absurd (Nat.lt_of_lt_of_le (Heap.lt_size (I.ok.bs b o e).1) z) (Nat.lt_irrefl _)
  . rcases List.mem_cons.mp (I.stkSub b hz) with z | z
    . exact (f2 b hb).2.1 z
    . exact (f2 b hb).2.2.1 z
  . exact Un.laid old hD hDn
  . cases i with
    | zero =>
      have e2' : (none : Option V) = some v := Option.some.inj e2; cases e2'
    | succ i =>
      have e1' : ns[i]? = some y := e1; have e2' : (cap σ idx)[i]? = some (some v) := e2; have hi : (idx.map (fun j => X.N[j]?))[i]? = some (some y) := by rw [N.ix, List.getElem?_map, e1']; rfl
      rw [List.getElem?_map] at hi; unfold cap at e2'; rw [List.getElem?_map] at e2'
      cases ej : idx[i]? with
      | none => rw [ej] at hi; cases hi
      | some j =>
        rw [ej] at hi e2'; have hj : X.N[j]? = some y := Option.some.inj hi; have hv : σ.getD j none = some v := Option.some.inj e2'
        have hv' : σ[j]? = some (some v) := by
          rw [List.getD_eq_getElem?_getD] at hv
          cases q : σ[j]? with
          | none => rw [q] at hv; cases hv
          | some w' => rw [q] at hv; exact congrArg some hv
        have hfr := N.free y (List.mem_of_getElem? e1'); have hk := N.from_ (y, .free) (zbk hfr) rfl; obtain ⟨m, hn, hl⟩ := I.loc
        have hvis : Vis X.env.scope y := by
          rcases hk with k | k
          . exact .inr (.inl k)
          . exact .inr (.inr k)
        obtain ⟨u, r, l⟩ := hl j y v hj hv' hvis; refine ⟨u, r, .inr ⟨?_, ?_⟩⟩
        . exact zc9 (env := X.env) hfr
        . rcases l with ⟨k, _⟩ | ⟨_, c, ec, o, ho, hd⟩
          . have k' : X.env.kindOf y = some .local := k
            rcases hk with q | q
            . have q' : X.env.kindOf y = some .cell := q; rw [k'] at q'; cases q'
            . have q' : X.env.kindOf y = some .free := q; rw [k'] at q'; cases q'
          . exact ⟨c, zdj ec hfr, o, old c o ho, hd⟩
  . obtain ⟨v, o, ho, hd⟩ := I.cell y c (cne y c e); exact ⟨v, o, old c o ho, hd⟩
  . show upd H D (.lst []) C = none; rw [zah (Ne.symm hDC)]; exact hCn
  . show upd H D (.lst []) c = none; rw [zah (Nat.ne_of_lt (Nat.lt_of_lt_of_le (clt y c (cne y c e)) hD))]; exact I.freeC y c (cne y c e)
  . exact I.hok.laid old hD ⟨Nat.zero_le _, [], 0, .nil, hacc⟩
  . show (none :: cap σ idx).length = (x :: ns).length; have := congrArg List.length N.ix; rw [List.length_map, List.length_map] at this; unfold cap; rw [List.length_cons, List.length_cons, List.length_map, this]
theorem Inv.uncomp {σ' : St} {H' : Hp} {s' : Shared} {C : Addr} {N' : List Str} (I : Inv X pins σ H s) (f2 : ∀ b ∈ fp, zcu X pins H b) (J : Inv (zaA X scope C N' s H fp) [] σ' H' s') : Inv X pins σ H' s' :=
  I.call' (ch := fp) J.os J.base J.hok J.bare fun b hb => ⟨(f2 b hb).2.2.2.1, (f2 b hb).2.1, (f2 b hb).2.2.2.2.1, (f2 b hb).2.2.2.2.2⟩
end
section
variable {prog : Program} {w : World} {A : Around} {R : Result -> Shared -> Prop} {s : Shared}
theorem zdg {elt target iter : Expr} {ifs : List Expr} {scope : Scope} {pos : Pos} {it acc : Value} {env : Env} (I : Nat -> Shared -> Prop)
    (turn : ∀ n s, I n s -> wpAny (model prog w) A (pyNext it) (fun r s₁ => match r with
      | none => R (.ok .next) s₁
      | some v => wpAny (model prog w) A (letOwnedTupleGo target it v) (fun _ s₁' => wpAny (model prog w) A (assign target env v) (fun _ s₂ =>
          wpAny (model prog w) A (forIn ifs true fun c r => if r = true then do let ok <- isTrue c env (eval c env); pure (ForInStep.yield ok) else pure (ForInStep.yield r)) (fun ok s₃ =>
            if ok = true then wpAny (model prog w) A (eval elt env) (fun x s₄ =>
              wpAny (model prog w) A (call (.builtin "list.append") [acc, x]) (fun _ s₅ => ∃ m, m < n /\ I m s₅) (fun _ _ => False) s₄) (fun _ _ => False) s₃
            else ∃ m, m < n /\ I m s₃) (fun _ _ => False) s₂) (fun _ _ => False) s₁') (fun _ _ => False) s₁) (fun _ _ => False) s)
    (n : Nat) (h : I n s) :
    codeAny (model prog w) A (.compLoop (.ListComp elt [⟨target, iter, ifs, 0⟩] scope pos) 0 it acc env) R s := by
  refine codeAny_loop rfl I (fun n s hI => ?_) n h; show wpAny _ A ((compTurn (.ListComp elt [⟨target, iter, ifs, 0⟩] scope pos) 0 it acc env).onRaise (fun x => do noteFrame x env; theTreesLotGoes x)) _ _ s
  refine wpAny_noted ?_; rw [compTurn_list]; refine wpAny_bind (wpAny_standAt (wpAny_bind (wpAny_mono (turn n s hI) (fun r s₁ h₁ => ?_) fun _ _ h' => h'.elim)))
  cases r with
  | none => exact wpAny_pure h₁
  | some v =>
    refine wpAny_bind (wpAny_mono h₁ (fun _ s₁' h₁' => ?_) fun _ _ h' => h'.elim); refine wpAny_bind (wpAny_mono h₁' (fun _ s₂ h₂ => wpAny_bind (wpAny_mono h₂ (fun ok s₃ h₃ => ?_) fun _ _ h' => h'.elim)) fun _ _ h' => h'.elim)
    cases ok with
    | false => exact wpAny_pure ⟨rfl, h₃⟩
    | true =>
      exact wpAny_bind (wpAny_bind (wpAny_mono h₃ (fun x s₄ h₄ => wpAny_bind (wpAny_mono h₄ (fun _ s₅ h₅ => wpAny_pure (wpAny_pure ⟨rfl, h₅⟩)) fun _ _ h' => h'.elim)) fun _ _ h' => h'.elim))
end
def zg5 (X : Cx) (ifs : List Expr) (t : TT) : Prop :=
  ∀ (pins : List (Addr × Obj)) (s : Shared) (σ : St) (H : Hp) (Q : Bool -> Hp -> Prop), Inv X pins σ H s -> t σ H Q →
    wpAny (model X.prog X.w) X.A (forIn ifs true fun c r => if r = true then do let ok <- isTrue c X.env (eval c X.env); pure (ForInStep.yield ok) else pure (ForInStep.yield r)) (TP X pins σ Q) X.xe s
def zhX : TT := fun _ H Q => Q true H
theorem zbu {X : Cx} : zg5 X [] zhX := fun pins s σ H Q I h => wpAny_tests_nil ⟨H, I, h⟩
theorem zbt {X : Cx} {c : Expr} {tc : TT} (hc : PT X c tc) : zg5 X [c] tc := fun pins s σ H Q I h => wpAny_tests_one (hc pins s σ H Q I h)
def LCW (idx : List Nat) (J : It) (g : TG) (tt : TT) (te : TE) (Q : VK) (σ : St) (H1 : Hp) : Prop := ∀ D, H1 D = none →
  ∃ W : Nat -> Nat -> List V -> St -> Hp -> Prop, (∃ m, W 0 m [] (none :: cap σ idx) (upd H1 D (.lst []))) /\ ∀ i m ys ρ H, W i m ys ρ H -> H D = some (.lst ys) ∧
    ((J.stop i H /\ Q (.ref D) H) ∨
     (J.go i H /\ ys.length < sizeLine /\ ∀ x H', J.yld i H x H' -> g x ρ H' fun ρ2 H2 => tt ρ2 H2 fun b H3 =>
        if b = true then te ρ2 H3 fun v H4 => H4 D = some (.lst ys) /\ ∃ m', m' < m /\ W (i + 1) m' (ys ++ [v]) ρ2 (upd H4 D (.lst (ys ++ [v])))
        else ∃ m', m' < m /\ W (i + 1) m' ys ρ2 H3))
def tLC (wi : TI) (idx : List Nat) (g : TG) (tt : TT) (te : TE) : TE := fun σ H Q => wi σ H fun J H1 => LCW idx J g tt te Q σ H1
section
variable {X : Cx} {elt iter : Expr} {x : Str} {px : Pos} {ifs : List Expr} {scope : Scope} {pos : Pos} {ns : List Str} {idx : List Nat} {wi : TI} {g : TG} {tt : TT} {te : TE}
theorem zfo {pins : List (Addr × Obj)} {s : Shared} {σ : St} {H : Hp} {Q : VK} {RR : Value -> Addr -> Result -> Shared -> Prop} {it : Addr} {fp : List Addr} {tn : Nat -> Heap -> Prop} {J : It} {tg : Expr} (N : CompNames X.env.scope X.N scope x ns idx) (hcalm : X.calm = true)
    (hg : ∀ C s₀ H₀ fp, PG (zaA X scope C (x :: ns) s₀ H₀ fp) tg g)
    (hi : ∀ C s₀ H₀ fp, zg5 (zaA X scope C (x :: ns) s₀ H₀ fp) ifs tt) (he : ∀ C s₀ H₀ fp, PE (zaA X scope C (x :: ns) s₀ H₀ fp) elt te)
    (I : Inv X pins σ H s) (T : ze6 X.prog X.w X.K tg J fp it tn) (st : tn 0 s.heap) (f2 : ∀ b ∈ fp, zcu X pins H b)
    (h : LCW idx J g tt te Q σ H)
    (hR : ∀ D C s' H', Inv X pins σ H' s' -> zcu X pins H' C -> (∃ m, s'.heap.Ns C m) -> Q (.ref D) H' -> RR (.ref D) C (.ok .next) s') :
    wpAny (model X.prog X.w) X.A (newList []) (fun acc s₃ => wpAny (model X.prog X.w) X.A (newFunctionEnv scope X.env.globals (zbT X.env.cells scope.names []) [] X.env.qual none .none (some X.env)) (fun cenv s₄ =>
      codeAny (model X.prog X.w) X.A (.compStart (.ListComp elt [⟨tg, iter, ifs, 0⟩] scope pos) 0 (.ref it) acc { cenv with scope := relabel scope X.env }) (RR acc cenv.locals) s₄) X.xe s₃) X.xe s := by
  refine wpAny_newObj_type (wpAny_newFunctionEnv N.cell (by intro y hy; simp at hy) (fun h₁ hns₁ hsb₁ => ?_) N.kind)
  dsimp only at hns₁ hsb₁ ⊢; generalize hH2 : s.heap.push { cls := .type "list", dict := none, data := .seq ([] : List Value).toArray } = H2 at hns₁ hsb₁ ⊢; have hC : H2.objs.size = s.heap.objs.size + 1 := by rw [<- hH2, Heap.size_push]
  have hDC : s.heap.objs.size ≠ H2.objs.size := by rw [hC]; exact Nat.ne_of_lt (Nat.lt_succ_self _)
  have hCle : s.heap.objs.size <= H2.objs.size := by rw [hC]; exact Nat.le_succ _
  have below : ∀ b, b < s.heap.objs.size -> b ≠ H2.objs.size := fun b hb => by rw [hC]; exact Nat.ne_of_lt (Nat.lt_succ_of_lt hb)
  have old : ∀ b o, s.heap.get? b = some o -> h₁.get? b = some o := fun b o e => hsb₁.extBut b o (below b (Heap.lt_size e)) (Heap.get?_push_of_some _ (hH2 ▸ Heap.get?_push_of_some _ e)); have hacc : h₁.get? s.heap.objs.size = some { cls := .type "list", data := .seq #[] 0 } := hsb₁.extBut _ _ hDC (Heap.get?_push_of_some _ (hH2 ▸ Heap.get?_push_size _ rfl)); have hns : h₁.Ns H2.objs.size fun _ => none := by simpa using hns₁
  have J0 := Inv.comp (t' := s.toks + ([] : List (Str × Value)).length) N I f2 (fun b hb => let ⟨o, e, _⟩ := T.obj 0 s.heap st b hb; ⟨o, e⟩) (Nat.le_refl _) hCle hDC old hacc hns; obtain ⟨W, ⟨m0, w0⟩, turn⟩ := h s.heap.objs.size (I.hok.fresh (Nat.le_refl _))
  have stat : ∀ {H' : Hp}, (∀ b ∈ fp, H' b = none) -> ∀ b ∈ fp, zcu (zaA X scope H2.objs.size (x :: ns) s H fp) [] H' b := fun hn b hb => by
    obtain ⟨_, f1, f3, f4, f5, f6⟩ := f2 b hb; obtain ⟨o, e, _⟩ := T.obj 0 s.heap st b hb; refine ⟨hn b hb, below b (Heap.lt_size e), fun z => ?_, .inl hb, fun y c q => f5 y c (zbz (acc := []) (fun _ _ q => by simp at q) y c q), fun p hp => absurd (show p ∈ ([] : List (Addr × Obj)) from hp) (by simp)⟩
    rcases List.mem_cons.mp (I.stkSub b z) with q | q
    . exact f1 q
    . exact f3 q
  have fr0 : ∀ b ∈ fp, upd H s.heap.objs.size (.lst []) b = none := fun b hb => by
    obtain ⟨o, e, _⟩ := T.obj 0 s.heap st b hb; rw [zah (Nat.ne_of_lt (Heap.lt_size e))]; exact (f2 b hb).1
  have st1 : tn 0 h₁ := T.keep 0 _ _ st fun b _ o e => old b o e
  have loop : ∀ s₃ : Shared, s₃ = { s with heap := h₁, toks := s.toks + ([] : List (Str × Value)).length } →
      codeAny (model X.prog X.w) X.A (.compLoop (.ListComp elt [⟨tg, iter, ifs, 0⟩] scope pos) 0 (.ref it) (.ref s.heap.objs.size) (compEnvC scope (zbT X.env.cells scope.names []) H2.objs.size X.env))
        (RR (.ref s.heap.objs.size) H2.objs.size) s₃ := by
    rintro s₃ rfl; refine zdg (fun n s' => ∃ i ρ H' ys, Inv (zaA X scope H2.objs.size (x :: ns) s H fp) [] ρ H' s' /\ tn i s'.heap /\ (∀ b ∈ fp, H' b = none) /\ W i n ys ρ H') ?_ m0 ⟨0, _, _, [], J0, st1, fr0, w0⟩; rintro n s3 ⟨i, ρ, H3, ys, I3, st3, fr3, w3⟩; obtain ⟨hD3, hw⟩ := turn i n ys ρ H3 w3
    rcases hw with ⟨stop, q⟩ | ⟨go, hlen, step⟩
    . refine thn (T.done (zaA X scope H2.objs.size (x :: ns) s H fp) rfl rfl rfl hcalm i [] s3 ρ H3 (fun _ _ => False) I3 (stat fr3) st3 stop) fun r s4 ⟨hr, I4⟩ => ?_; subst hr; have I5 := I.uncomp f2 I4; refine hR _ _ s4 H3 I5 (I.fpOk hCle I3.free) ?_ q; obtain ⟨m, hn, _⟩ := I4.loc; exact ⟨m, hn⟩
    . refine thn (T.item (zaA X scope H2.objs.size (x :: ns) s H fp) rfl rfl rfl hcalm i [] s3 ρ H3 (fun _ _ => False) I3 (stat fr3) st3 go) fun r s4 ⟨u, hr, h4⟩ => ?_; subst hr; refine thn h4 fun _ s5 ⟨y, H5, I5, r5, y5, st5, fr5⟩ => ?_; have I5' := I5.pinned (stat fr5) (T.obj _ _ st5); refine thn (hg H2.objs.size s H fp _ s5 ρ H5 y u _ I5' r5 (step y H5 y5)) fun _ s6 ⟨σ6, H6, I6, q6⟩ => ?_; refine thn (hi H2.objs.size s H fp _ s6 σ6 H6 _ I6 q6) fun ok s7 ⟨H7, I7, q7⟩ => ?_
      have again : ∀ {s8 : Shared} {H8 : Hp} {zs : List V}, Inv (zaA X scope H2.objs.size (x :: ns) s H fp) ([] ++ zdJ fp s5.heap) σ6 H8 s8 -> (∃ m', m' < n /\ W (i + 1) m' zs σ6 H8) →
          ∃ m, m < n /\ ∃ i ρ H' ys, Inv (zaA X scope H2.objs.size (x :: ns) s H fp) [] ρ H' s8 /\ tn i s8.heap /\ (∀ b ∈ fp, H' b = none) /\ W i m ys ρ H' := fun {s8 H8 zs} I8 ⟨m', hm, w8⟩ => by
        refine ⟨m', hm, i + 1, σ6, H8, zs, I8.unpinned, T.keep _ _ _ st5 fun b hb o e => (I8.pin (b, o) (List.mem_append_right _ (List.mem_append_right _ (zbm hb e)))).1, fun b hb => ?_, w8⟩; obtain ⟨o, e, d⟩ := T.obj _ _ st5 b hb; exact (I8.pin (b, o) (List.mem_append_right _ (List.mem_append_right _ (zbm hb e)))).2.1
      cases ok with
      | false =>
        rw [if_neg Bool.false_ne_true] at q7 ⊢; exact again I7 q7
      | true =>
        rw [if_pos rfl] at q7 ⊢; refine thn (he H2.objs.size s H fp _ s7 σ6 H7 _ I7 q7) fun v s8 ⟨y8, H8, I8, r8, hD8, q8⟩ => ?_; obtain ⟨z8, its, n8, rv, e8⟩ := I8.hok _ _ hD8; have hl := rv.length; refine wpAny_list_append_plain (hsz := by rw [List.size_toArray]; omega) ⟨n8, e8⟩ fun h9 hp9 sb9 => ?_
        obtain ⟨n9, e9⟩ := hp9; refine again (zs := ys ++ [y8]) (I8.write (x := s.heap.objs.size) (e := s.heap.objs.size) (o := .lst (ys ++ [y8])) (t' := s8.toks) (by rw [hD8]; trivial) (.inl rfl) (fun b o hb e => (sb9.2 b hb).trans e) ⟨_, e9⟩ ⟨by rw [List.length_append]; show ys.length + 1 <= sizeLine; omega, its ++ [v], n9, rv.append (.cons r8 .nil), ?_⟩) q8
        rw [e9]; simp
  exact codeAny_compStart_list (loop _ rfl) (T.self _ 0 _ _ _ st1 (loop _ rfl))
theorem zgh (N : CompNames X.env.scope X.N scope x ns idx) : ∀ C s₀ H₀ fp, PG (zaA X scope C (x :: ns) s₀ H₀ fp) (.Name x px) (zbg 0) := fun C s₀ H₀ fp =>
  zaz (X := zaA X scope C (x :: ns) s₀ H₀ fp) (i := 0) N.nd rfl (Or.inl (lookup_relabel_local N.tgt)) (.inr (lookup_relabel_local N.tgt))
theorem zco (N : CompNames X.env.scope X.N scope x ns idx) (hcalm : X.calm = true) (hw : PI X (.Name x px) iter wi)
    (hi : ∀ C s₀ H₀ fp, zg5 (zaA X scope C (x :: ns) s₀ H₀ fp) ifs tt) (he : ∀ C s₀ H₀ fp, PE (zaA X scope C (x :: ns) s₀ H₀ fp) elt te)
    (hs : ∀ x, foldedSetIterable iter X.env x = pure x := by intro _; rfl) : PE X (.ListComp elt [⟨.Name x px, iter, ifs, 0⟩] scope pos) (tLC wi idx (zbg 0) tt te) := by
  intro pins s σ H Q I h; rw [eval_ListComp]; refine wpAny_comprehension_free (use := none) rfl hs (N.clos I.ok) N.kind N.loc (thn (hw pins s σ H _ I h) fun v s1 h1 => thn h1 fun itv s2 h2 => ?_); obtain ⟨it, fp, tn, J, H2, e, I2, T, st2, f2, q⟩ := h2; subst e; refine zfo (RR := fun acc C => compPost (model X.prog X.w) X.A X.xe none (EP X pins σ Q) acc C) N hcalm (zgh N) hi he I2 T st2 f2 q fun D C s' H' I' F' hm q' => ?_; obtain ⟨m, hn⟩ := hm; refine ⟨m, hn, fun h' hs' => ?_⟩; obtain ⟨f0, f1, f3, f4, f5, f6⟩ := F'; exact ⟨.ref D, H', I'.turned (t' := s'.toks) (fun b o hb e => (hs'.2 b hb).trans e) f0 f1 f4 f5 f6, rfl, q'⟩
theorem zby {i : Nat} {y : Str} {py spos : Pos} (N : CompNames X.env.scope X.N scope x ns idx) (hcalm : X.calm = true) (hN : X.N.Nodup) (hiy : X.N[i]? = some y) (hly : Loc X.env.scope y) (hw : PI X (.Name x px) iter wi)
    (hi : ∀ C s₀ H₀ fp, zg5 (zaA X scope C (x :: ns) s₀ H₀ fp) ifs tt) (he : ∀ C s₀ H₀ fp, PE (zaA X scope C (x :: ns) s₀ H₀ fp) elt te)
    (hsw : swapsWith (.ListComp elt [⟨.Name x px, iter, ifs, 0⟩] scope pos) (some (.Name y py)) spos.line X.env = pure true) (hf : X.fn y = true \/ X.env.scope.names.lookup y = some .local := by first | exact .inl rfl | exact .inr rfl | assumption)
    (hs : ∀ x, foldedSetIterable iter X.env x = pure x := by intro _; rfl) : PS X (.Assign [.Name y py] (.ListComp elt [⟨.Name x px, iter, ifs, 0⟩] scope pos) spos) (zkm (tLC wi idx (zbg 0) tt te) (zbg i)) := by
  intro pins s σ H D I h; rw [exec_Assign_Name_used _ _ _ _ hsw]; refine wpAny_bind (wpAny_standAt (wpAny_bind ?_)); show wpAny _ X.A (do let _ <- comprehension (.ListComp elt [⟨.Name x px, iter, ifs, 0⟩] scope pos) scope X.env _ (newList []) false (eval iter X.env) (some (assign (.Name y py) X.env))) _ _ s
  refine wpAny_bind (wpAny_mono (wpAny_comprehension_free (use := some (assign (.Name y py) X.env)) (Q := fun _ s' => SP X pins D .next s') rfl hs (N.clos I.ok) N.kind N.loc
    (thn (hw pins s σ H _ I h) fun v s1 h1 => thn h1 fun itv s2 h2 => ?_)) (fun _ s' hq => wpAny_pure (wpAny_pure hq)) fun _ _ e => e)
  obtain ⟨it, fp, tn, J, H2, e, I2, T, st2, f2, q⟩ := h2; subst e; refine zfo (Q := fun x H1 => zbg i x σ H1 D.nx) (RR := fun acc C => compPost (model X.prog X.w) X.A X.xe (some (assign (.Name y py) X.env)) (fun _ s' => SP X pins D .next s') acc C) N hcalm (zgh N) hi he I2 T st2 f2 q fun E C s' H' I' F' hm q' => ?_; obtain ⟨m, hn⟩ := hm; obtain ⟨f0, f1, f3, f4, f5, f6⟩ := F'; show wpAny _ X.A (assign (.Name y py) X.env (.ref E)) _ _ s'; refine wpAny_assign_Name (zfm I' hN hiy hly (show RelV (.ref E) (.ref E) from rfl) (fun s'' I'' hsb => ?_) hf); obtain ⟨a, sb, ha⟩ := hsb
  have hCa : C ≠ a := by
    rcases ha with z | z
    . rw [z]; exact f1
    . exact fun e => f5 y a z e.symm
  refine ⟨m, hn.sameBut sb hCa, fun h' hs' => ?_⟩; exact ⟨_, H', I''.turned (t' := s''.toks) (fun b o hb e => (hs'.2 b hb).trans e) f0 f1 f4 f5 f6, q'⟩
end
theorem za6 {K : PySem.W.Frag} {a : Addr} {xs : List V} {idx : List Nat} {tt : TT} {te : TE} {σ : St} {H : Hp} {Q : VK} (p : V -> Bool) (f : V -> V) (hq : SqL K H a xs) (hl : xs.length <= sizeLine)
    (ht : ∀ x ∈ xs, ∀ D ys (R : Bool -> Hp -> Prop), H D = none -> R (p x) (upd H D (.lst ys)) -> tt (some x :: cap σ idx) (upd H D (.lst ys)) R)
    (he : ∀ x ∈ xs, p x = true -> ∀ D ys (R : VK), H D = none -> R (f x) (upd H D (.lst ys)) -> te (some x :: cap σ idx) (upd H D (.lst ys)) R)
    (hQ : ∀ D, H D = none -> Q (.ref D) (upd H D (.lst ((xs.filter p).map f)))) :
    LCW idx (Itl K a) (zbg 0) tt te Q σ H := by
  intro D hD; refine ⟨fun i m ys ρ H' => m = xs.length - i /\ i <= xs.length /\ ys = ((xs.take i).filter p).map f /\ (∃ y0, ρ = y0 :: cap σ idx) /\ H' = upd H D (.lst ys), ⟨xs.length, by simp, Nat.zero_le _, by simp, ⟨none, rfl⟩, rfl⟩, ?_⟩
  rintro i m ys ρ H' ⟨rfl, hi, hys, ⟨y0, rfl⟩, rfl⟩; refine ⟨zab, ?_⟩
  have hqD : ∀ zs, SqL K (upd H D (.lst zs)) a xs := fun zs => by
    rcases hq with (h | ⟨o, h⟩) | h
    . exact .inl (.inl (by rw [zah (zaq h hD)]; exact h))
    . exact .inl (.inr ⟨o, by rw [zah (zaq h hD)]; exact h⟩)
    . exact .inr h
  by_cases hlt : i < xs.length
  . refine .inr ⟨⟨xs, xs[i], hqD ys, by simp [hlt]⟩, ?_, fun x H' y => ?_⟩
    . rw [hys, List.length_map]; have h1 := List.length_filter_le p (xs.take i); have h2 : (xs.take i).length = i := by rw [List.length_take]; omega
      omega
    . obtain ⟨e, y⟩ := y; subst e; have hx : xs[i]? = some x := y xs (hqD ys); have hmem : x ∈ xs := List.mem_of_getElem? hx; have htk : xs.take (i + 1) = xs.take i ++ [x] := by rw [List.take_add_one, hx]; rfl
      show tt (some x :: cap σ idx) (upd H D (.lst ys)) _; refine ht x hmem D ys _ hD ?_
      cases hp : p x with
      | true =>
        rw [if_pos rfl]; refine he x hmem hp D ys _ hD ⟨zab, xs.length - (i + 1), by omega, rfl, hlt, ?_, ⟨some x, rfl⟩, zhV⟩
        rw [htk, List.filter_append, List.map_append, hys]; simp [hp]
      | false =>
        rw [if_neg Bool.false_ne_true]; refine ⟨xs.length - (i + 1), by omega, rfl, hlt, ?_, ⟨some x, rfl⟩, rfl⟩
        rw [htk, List.filter_append, List.map_append, hys]; simp [hp]
  . have e : i = xs.length := by omega
    subst e; refine .inl ⟨⟨xs, hqD ys, Nat.le_refl _⟩, ?_⟩; rw [hys, List.take_length]; exact hQ D hD
def zap (lo : Int) (n : Nat) : List Int := (List.range n).map fun (i : Nat) => lo + (i : Int)
theorem zge {lo : Int} {n : Nat} {idx : List Nat} {tt : TT} {te : TE} {σ : St} {H : Hp} {Q : VK} (p : Int -> Bool) (f : Int -> V) (hl : n <= sizeLine)
    (ht : ∀ x, lo <= x -> x < lo + n -> ∀ D ys (R : Bool -> Hp -> Prop), H D = none -> R (p x) (upd H D (.lst ys)) -> tt (some (.int x) :: cap σ idx) (upd H D (.lst ys)) R)
    (he : ∀ x, lo <= x -> x < lo + n -> p x = true -> ∀ D ys (R : VK), H D = none -> R (f x) (upd H D (.lst ys)) -> te (some (.int x) :: cap σ idx) (upd H D (.lst ys)) R)
    (hQ : ∀ D, H D = none -> Q (.ref D) (upd H D (.lst (((zap lo n).filter p).map f)))) :
    LCW idx (Itr lo n) (zbg 0) tt te Q σ H := by
  intro D hD; refine ⟨fun i m ys ρ H' => m = n - i /\ i <= n /\ ys = ((zap lo i).filter p).map f /\ (∃ y0, ρ = y0 :: cap σ idx) /\ H' = upd H D (.lst ys), ⟨n, by simp, Nat.zero_le _, by simp [zap], ⟨none, rfl⟩, rfl⟩, ?_⟩
  rintro i m ys ρ H' ⟨rfl, hi, hys, ⟨y0, rfl⟩, rfl⟩; refine ⟨zab, ?_⟩
  by_cases hlt : i < n
  . refine .inr ⟨hlt, ?_, fun x H' y => ?_⟩
    . rw [hys, List.length_map]; have h1 := List.length_filter_le p (zap lo i); have h2 : (zap lo i).length = i := by simp [zap]
      omega
    . obtain ⟨e, y⟩ := y; subst e y; have htk : zap lo (i + 1) = zap lo i ++ [lo + (i : Int)] := by simp [zap, List.range_succ]
      show tt (some (.int (lo + i)) :: cap σ idx) (upd H D (.lst ys)) _; refine ht (lo + i) (by omega) (by omega) D ys _ hD ?_
      cases hp : p (lo + i) with
      | true =>
        rw [if_pos rfl]; refine he (lo + i) (by omega) (by omega) hp D ys _ hD ⟨zab, n - (i + 1), by omega, rfl, hlt, ?_, ⟨_, rfl⟩, zhV⟩
        rw [htk, List.filter_append, List.map_append, hys]; simp [hp]
      | false =>
        rw [if_neg Bool.false_ne_true]; refine ⟨n - (i + 1), by omega, rfl, hlt, ?_, ⟨_, rfl⟩, rfl⟩
        rw [htk, List.filter_append, List.map_append, hys]; simp [hp]
  . have e : i = n := by omega
    subst e; refine .inl ⟨Nat.le_refl _, ?_⟩; rw [hys]; exact hQ D hD
end L2
set_option Elab.async false
set_option linter.all false
set_option maxRecDepth 100000
namespace L2
open PySem PySem.Spec PyProof.Rows
open PySem.SeqAt (noMix noMixAll)
mutual
/-- the value is that datum -/
def Is (K : PySem.W.Frag) (H : Hp) : PyData -> V -> Prop
  | .none, v => v = .non
  | .bool b, v => v = .bl b
  | .int i, v => v = .int i
  | .str x, v => v = .str x
  | .list ds, v => ∃ a xs, v = .ref a /\ SqL K H a xs /\ IsAll K H ds xs
  | .tuple ds, v => ∃ a xs, v = .ref a /\ SqT K H a xs /\ IsAll K H ds xs
  | .dict _, _ => False
def IsAll (K : PySem.W.Frag) (H : Hp) : List PyData -> List V -> Prop
  | [], xs => xs = []
  | d :: ds, xs => ∃ y ys, xs = y :: ys /\ Is K H d y /\ IsAll K H ds ys
end
section
variable {X : Cx} {pins : List (Addr × Obj)} {σ : St} {H : Hp} {s : Shared}
mutual
theorem Is.reads (I : Inv X pins σ H s) : ∀ (d : PyData) (v : V) (u : Value), Is X.K H d v -> RelV v u -> ∃ as, Reads s.heap u d as
  | .none, v, u, h, r => by
    have h' : v = .non := by simpa only [Is] using h
    subst h'; cases (show u = Value.none from r); exact ⟨_, .none⟩
  | .bool b, v, u, h, r => by
    have h' : v = .bl b := by simpa only [Is] using h
    subst h'; cases (show u = Value.bool b from r); exact ⟨_, .bool b⟩
  | .int i, v, u, h, r => by
    have h' : v = .int i := by simpa only [Is] using h
    subst h'; obtain ⟨t, rfl⟩ := (show ∃ t, u = Value.int i t from r); exact ⟨_, .int i t⟩
  | .str x, v, u, h, r => by
    have h' : v = .str x := by simpa only [Is] using h
    subst h'; obtain ⟨t, rfl⟩ := (show ∃ t, u = Value.str x t from r); exact ⟨_, .str x t⟩
  | .list ds, v, u, h, r => by
    have h' : ∃ a xs, v = .ref a /\ SqL X.K H a xs /\ IsAll X.K H ds xs := by simpa only [Is] using h
    obtain ⟨a, xs, rfl, hq, ha⟩ := h'
    cases (show u = Value.ref a from r)
    obtain ⟨its, rv, ⟨o, n, e, hc, _, hd⟩, _⟩ := I.list hq; obtain ⟨as, ra⟩ := IsAll.reads I ds xs its ha rv; exact ⟨_, .list e hc hd (by simpa using ra)⟩
  | .tuple ds, v, u, h, r => by
    have h' : ∃ a xs, v = .ref a /\ SqT X.K H a xs /\ IsAll X.K H ds xs := by simpa only [Is] using h
    obtain ⟨a, xs, rfl, hq, ha⟩ := h'
    cases (show u = Value.ref a from r)
    obtain ⟨its, rv, ⟨o, e, hc, n, hd⟩, _⟩ := I.tuple hq; obtain ⟨as, ra⟩ := IsAll.reads I ds xs its ha rv; exact ⟨_, .tuple e hc hd (by simpa using ra)⟩
  | .dict _, v, u, h, r => by
    have h' : False := by simpa only [Is] using h
    exact h'.elim
theorem IsAll.reads (I : Inv X pins σ H s) : ∀ (ds : List PyData) (xs : List V) (us : List Value), IsAll X.K H ds xs -> Vals xs us -> ∃ as, ReadsAll s.heap us ds as
  | [], xs, us, h, r => by
    have h' : xs = [] := by simpa only [IsAll] using h
    subst h'; cases r; exact ⟨_, .nil⟩
  | d :: ds, xs, us, h, r => by
    have h' : ∃ y ys, xs = y :: ys /\ Is X.K H d y /\ IsAll X.K H ds ys := by simpa only [IsAll] using h
    obtain ⟨y, ys, rfl, h1, h2⟩ := h'
    cases r with
    | cons r1 r2 =>
      obtain ⟨as, q1⟩ := Is.reads I d y _ h1 r1; obtain ⟨bs, q2⟩ := IsAll.reads I ds ys _ h2 r2; exact ⟨_, .cons q1 q2⟩
end
end
mutual
/-- neither bools nor dicts -/
def zb5 : PyData -> Bool
  | .bool _ => false
  | .dict _ => false
  | .list ds => zb7 ds
  | .tuple ds => zb7 ds
  | .none => true
  | .int _ => true
  | .str _ => true
def zb7 : List PyData -> Bool
  | [] => true
  | d :: ds => zb5 d && zb7 ds
end
mutual
theorem zeA : ∀ d e : PyData, zb5 d = true -> zb5 e = true -> noMix d e = true
  | .bool _, _, h, _ => by simp [zb5] at h
  | .dict _, _, h, _ => by simp [zb5] at h
  | .none, e, _, h => by cases e <;> simp_all [noMix, zb5]
  | .int _, e, _, h => by cases e <;> simp_all [noMix, zb5]
  | .str _, e, _, h => by cases e <;> simp_all [noMix, zb5]
  | .list ds, e, h, h' => by
    cases e with
    | list es => simp only [noMix]; simp only [zb5] at h h'; exact zcp ds es h h'
    | bool _ => simp [zb5] at h'
    | dict _ => simp [zb5] at h'
    | _ => simp [noMix]
  | .tuple ds, e, h, h' => by
    cases e with
    | tuple es => simp only [noMix]; simp only [zb5] at h h'; exact zcp ds es h h'
    | bool _ => simp [zb5] at h'
    | dict _ => simp [zb5] at h'
    | _ => simp [noMix]
theorem zcp : ∀ ds es : List PyData, zb7 ds = true -> zb7 es = true -> noMixAll ds es = true
  | [], es, _, _ => by cases es <;> simp [noMixAll]
  | d :: ds, [], _, _ => by simp [noMixAll]
  | d :: ds, e :: es, h, h' => by
    simp only [zb7, Bool.and_eq_true] at h h'; simp only [noMixAll, Bool.and_eq_true]; exact ⟨zeA d e h.1 h'.1, zcp ds es h.2 h'.2⟩
end
def Cmp (d : PyData) : Prop := SeqAt.shaped d = true /\ zb5 d = true
section
variable {X : Cx}
def znp (K : PySem.W.Frag) : R2 := fun x y H Q => ∃ d e, Is K H d x /\ Is K H e y /\ Cmp d /\ Cmp e /\ Q (.bl (same d e)) H
def znu (K : PySem.W.Frag) : R2 := fun x y H Q => ∃ d e, Is K H d x /\ Is K H e y /\ Cmp d /\ Cmp e /\ Q (.bl (!same d e)) H
theorem zjx (hu : X.A.units + 64 < cLine) : OpR X (compareOp .Eq) (znp X.K) := by
  intro pins s σ H x y v u Q I rx ry h; obtain ⟨d, e, h1, h2, c1, c2, q⟩ := h; obtain ⟨as, ra⟩ := Is.reads I d x v h1 rx; obtain ⟨bs, rb⟩ := Is.reads I e y u h2 ry; exact eq_dataH_same ra rb c1.1 c2.1 hu (zeA d e c1.2 c2.2) ⟨.bl _, H, I, rfl, q⟩
theorem zmf (hu : X.A.units + 64 < cLine) : OpR X (compareOp .NotEq) (znu X.K) := by
  intro pins s σ H x y v u Q I rx ry h; obtain ⟨d, e, h1, h2, c1, c2, q⟩ := h; obtain ⟨as, ra⟩ := Is.reads I d x v h1 rx; obtain ⟨bs, rb⟩ := Is.reads I e y u h2 ry; exact ne_dataH_same ra rb c1.1 c2.1 hu (zeA d e c1.2 c2.2) ⟨.bl _, H, I, rfl, q⟩
def znf (K : PySem.W.Frag) : List V -> Hp -> VK -> Prop := fun xs H Q => ∃ x T t b, xs = [x, .ty T] /\ TyOf K H x t /\ PySem.W.kitOne K t (.type T) = some b /\ Q (.bl b) H
theorem zeo : zbF X (.builtin "isinstance") (znf X.K) := by
  intro pins s σ H xs us Q I r h; obtain ⟨x, T, t, b, rfl, ty, e, q⟩ := h; obtain ⟨u, w', rfl, rx, rt⟩ := zkT r
  cases (show w' = Value.type T from rt)
  exact zim I rx ty e fun tk => ⟨.bl b, H, I.tok tk, rfl, q⟩
theorem ziw (hc : X.calm = true) : zbF X (.builtin "min") (fun xs H Q => ∃ p ns, xs = [.ref p] /\ SqL X.K H p (ns.map V.int) /\ ns ≠ [] /\ ∀ M, M ∈ ns -> (∀ a ∈ ns, M <= a) -> Q (.int M) H) := by
  intro pins s σ H xs us Q I r h; obtain ⟨p, ns, rfl, hq, hne, q⟩ := h; obtain ⟨u, rfl, ru⟩ := zcm r
  cases (show u = Value.ref p from ru)
  obtain ⟨its, rv, pl, hz⟩ := I.list hq; have hi : IntsAre its ns := zej rv; obtain ⟨zs, hzs⟩ := hi.allInts.items; have hpl := pl.isList; rw [hzs] at hpl
  have hsz : 0 < zs.size := by
    have e1 : its.length = ns.length := by have := rv.length; rw [List.length_map] at this; omega
    have e2 : 0 < ns.length := by cases ns with | nil => exact absurd rfl hne | cons _ _ => simp
    have e3 : its.toArray.size = zs.size := by rw [hzs]; simp [intItems]
    rw [List.size_toArray] at e3; omega
  have hnum : ns = numsOf its := hi.numsOf.symm
  have hnum2 : numsOf its = zs.toList.map (·.1) := by
    have := nums_intItems zs; rw [<- hzs] at this
    simpa using this
  refine min_intList (I.ok.hd hc) hpl hsz fun v h' tk hv hk => ?_; obtain ⟨t, rfl⟩ := intItems_at hv; obtain ⟨h1, h2⟩ := argBest_lt (numAt zs) (zs.size - 1); refine ⟨.int _, H, I.kept hk, ⟨t, rfl⟩, q _ ?_ fun a ha => ?_⟩
  . rw [hnum, hnum2, numAt_eq]; exact getD_mem (by rw [List.length_map, Array.length_toList]; omega)
  . rw [hnum, hnum2] at ha; obtain ⟨j, hj, rfl⟩ := mem_getD ha; rw [List.length_map, Array.length_toList] at hj; rw [<- numAt_eq]; exact h2 j (by omega)
end
structure Fn (P : Program) (w : World) (K : PySem.W.Frag) (mg : Str -> Option Value) (base : Heap) (x : Str) (k : Nat) (sp : Sp) : Prop where
  ex : ∃ (f : Addr) (fd : FuncData) (ps : List Str), FnOk P w K mg base CX0 k f fd ps sp /\ mg x = some (.ref f) /\ PySem.W.keepIn K (.ref f) = true /\ Binds K fd ps []
theorem Fn.mk' {P : Program} {w : World} {K : PySem.W.Frag} {mg : Str -> Option Value} {base : Heap} {x : Str} {k : Nat} {sp : Sp} {f : Addr} {fd : FuncData} {ps : List Str} (ok : FnOk P w K mg base CX0 k f fd ps sp) (m : mg x = some (.ref f))
    (kp : PySem.W.keepIn K (.ref f) = true) (b : Binds K fd ps []) : Fn P w K mg base x k sp := ⟨f, fd, ps, ok, m, kp, b⟩
section
variable {X : Cx} {x : Str} {p pos : Pos} {e : Expr} {es : List Expr} {t : TA} {k j : Nat} {sp : Sp}
end
theorem zmc {K : PySem.W.Frag} : PySem.W.kitOne K (.type "int") (.type "int") = some true := by rfl
theorem zmk {K : PySem.W.Frag} : PySem.W.kitOne K (.type "int") (.type "bool") = some false := by rfl
section
variable {X : Cx}
theorem zaX (K : PySem.W.Frag) (h : X.K = K := by rfl) : IxR X (zmQ K) := h ▸ zbc
theorem zbb (K : PySem.W.Frag) (h : X.K = K := by rfl) : IxR X (zm8 K) := h ▸ zav
theorem zgU (K : PySem.W.Frag) (h : X.K = K := by rfl) : OpR X (compareOp .In) (rIn K false) := h ▸ zic
theorem zcP (K : PySem.W.Frag) (h : X.K = K := by rfl) : OpR X (compareOp .NotIn) (rIn K true) := h ▸ zfW
end
theorem zeN {c A B : Prop} [Decidable c] (h : ¬ c) (b : B) : if c then A else B := by rw [if_neg h]; exact b
theorem zdE {c A B : Prop} [Decidable c] (h : c) (a : A) : if c then A else B := by rw [if_pos h]; exact a
theorem zk3 {c A B : Prop} [Decidable c] (h : ¬ c) (b : B) : if decide c = true then A else B := zeN (by rw [decide_eq_true_eq]; exact h) b
theorem zmv {c A B : Prop} [Decidable c] (h : c) (a : A) : if decide c = true then A else B := zdE (decide_eq_true h) a
theorem znE {c A B : Prop} [Decidable c] (h1 : c -> A) (h2 : ¬ c -> B) : if decide c = true then A else B := by
  by_cases h : c
  . exact zmv h (h1 h)
  . exact zk3 h (h2 h)
theorem at0 {α : Type} {x : α} {r : List α} : atI (x :: r) 0 = some x := zdm (j := 0) rfl
theorem at1 {α : Type} {x y : α} {r : List α} : atI (x :: y :: r) 1 = some y := zdm (j := 1) rfl
theorem at2 {α : Type} {x y z : α} {r : List α} : atI (x :: y :: z :: r) 2 = some z := zdm (j := 2) rfl
theorem at3 {α : Type} {x y z w : α} {r : List α} : atI (x :: y :: z :: w :: r) 3 = some w := zdm (j := 3) rfl
theorem zdT {α : Type} {xs : List α} {i : Int} (h0 : 0 <= i) (h1 : i < xs.length) : ∃ v, atI xs i = some v /\ xs[i.toNat]? = some v := by
  have hl : i.toNat < xs.length := by omega
  refine ⟨xs[i.toNat], ?_, by simp [hl]⟩
  have e : ((i.toNat : Nat) : Int) = i := by omega
  have := zdm (j := i.toNat) (v := xs[i.toNat]) (xs := xs) (by simp [hl])
  rw [e] at this; exact this
theorem Same.upd {H : Hp} {a : Addr} {o : HO} (h : H a = none) : Same H (L2.upd H a o) := fun b u e => by rw [zah (zaq e h)]; exact e
theorem Same.tup {K : PySem.W.Frag} {H H' : Hp} {a : Addr} {xs : List V} (e : Same H H') (h : SqT K H a xs) : SqT K H' a xs := by
  rcases h with (h | ⟨o, h⟩) | h
  . exact .inl (.inl (e _ _ h))
  . exact .inl (.inr ⟨o, e _ _ h⟩)
  . exact .inr h
theorem zeM (i : Int) : ∀ gs : List Int, inV (.int i) (gs.map V.int) = gs.any fun g => g == i
  | [] => rfl
  | g :: r => by
    have := zeM i r; unfold inV at this ⊢; rw [List.map_cons, List.any_cons, List.any_cons, this]
    rfl
theorem zcy : ∀ gs : List Int, (gs.map V.int).all zdb = true
  | [] => rfl
  | g :: r => by
    rw [List.map_cons, List.all_cons, zcy r]
    rfl
theorem zef {K : PySem.W.Frag} {H : Hp} : ∀ ns : List Int, IsAll K H (ns.map PyData.int) (ns.map V.int)
  | [] => by simp [IsAll]
  | n :: r => by
    rw [List.map_cons, List.map_cons]; simp only [IsAll]; exact ⟨_, _, rfl, by simp [Is], zef r⟩
theorem zec {K : PySem.W.Frag} {H : Hp} {a : Addr} {ns : List Int} (h : SqL K H a (ns.map V.int)) : Is K H (.list (ns.map PyData.int)) (.ref a) := by
  simp only [Is]; exact ⟨a, _, rfl, h, zef ns⟩
theorem zer : ∀ ns : List Int, zb7 (ns.map PyData.int) = true
  | [] => by simp [zb7]
  | n :: r => by simp [zb7, zb5, zer r]
theorem zcq (ns : List Int) : Cmp (.list (ns.map PyData.int)) := ⟨PySem.W.ke_shaped_ints ns, by simp only [zb5]; exact zer ns⟩
theorem zen (ns ms : List Int) : same (.list (ns.map PyData.int)) (.list (ms.map PyData.int)) = decide (ns = ms) := PySem.W.ke_same ns ms
end L2
set_option Elab.async false
set_option linter.all false
set_option maxRecDepth 100000
namespace L2
open PySem PySem.Spec PyProof.Rows
def zdk (h : Heap) (e T : Addr) (C fl : Value) : Prop :=
  ∃ oe vs oT ts a0, h.get? e = some oe /\ (oe.cls = C /\ vs[0]? = some a0) /\ oe.data = .fields vs /\ vs[1]? = some (.ref T) /\ T ≠ e /\ h.get? T = some oT /\ oT.data = .fields ts /\ ts[3]? = some fl
def zma (h : Heap) (e : Addr) (C : Value) : Prop := ∃ oe vs a0, h.get? e = some oe /\ (oe.cls = C /\ vs[0]? = some a0) /\ oe.data = .fields vs /\ vs[1]? = some .none
structure Fl (fr Z : List Addr) (h h' : Heap) : Prop where
  keep : ∀ b o, b ∉ Z -> b ∉ fr -> h.get? b = some o -> h'.get? b = some o
  slot : ∀ b o, b ∈ fr -> h.get? b = some o -> ∃ sl, h'.get? b = some { o with slots := sl }
structure Ls (X : Cx) (pins : List (Addr × Obj)) (H : Hp) (z : Addr) : Prop where
  un : H z = none
  new : X.s₀.heap.get? z = none
  loc : z ≠ X.env.locals
  cell : ∀ x c, X.env.cells.lookup x = some c -> c ≠ z
  pin : ∀ p ∈ X.pn ++ pins, p.1 ≠ z
theorem ObjOk.here {P : Program} {w : World} {H : Hp} {h : Heap} {a : Addr} {o : HO} (x : ObjOk P w H h a o) : ∃ ob, h.get? a = some ob := by
  cases o with
  | lst xs => obtain ⟨_, _, _, _, e⟩ := x; exact ⟨_, e⟩
  | tup xs => obtain ⟨_, _, _, _, e, _⟩ := x; exact ⟨_, e⟩
  | dK kvs => obtain ⟨_, _, _, _, o, _, _, e, _⟩ := x; exact ⟨_, e⟩
  | dT kvs => obtain ⟨_, _, _, _, o, _, _, e, _⟩ := x; exact ⟨_, e⟩
  | set S n => obtain ⟨o, _, _, _, e, _⟩ := x; exact ⟨_, e⟩
  | ins C dx fs => obtain ⟨_, _, _, e, _⟩ := x; exact ⟨_, e⟩
  | own y => obtain ⟨_, e⟩ := x; exact ⟨_, e⟩
  | xd fs => obtain ⟨_, ⟨_, _, _, e, _⟩, _⟩ := x; exact ⟨_, e⟩
  | rng lo hi => obtain ⟨_, _, _, e⟩ := x; exact ⟨_, e⟩
  | frz ob u => obtain ⟨e, _⟩ := x; exact ⟨_, e⟩
  | tbl ps => exact ⟨_, (show h.get? a = some _ from x)⟩
  | met f y => exact ⟨_, (show h.get? a = some _ from x)⟩
  | ext φ => obtain ⟨_, ⟨_, e⟩, _⟩ := x; exact ⟨_, e⟩
section
variable {X : Cx} {pins : List (Addr × Obj)} {σ : St} {H : Hp} {s : Shared} {h' : Heap}
theorem Inv.old {z : Addr} (I : Inv X pins σ H s) (hz : s.heap.get? z = none) (hx : z ∉ X.ex) : X.s₀.heap.get? z = none := by
  cases e : X.s₀.heap.get? z with
  | none => rfl
  | some o => obtain ⟨o', q⟩ := I.base.there z o e hx; rw [hz] at q; cases q
theorem Inv.un' {z : Addr} (I : Inv X pins σ H s) (hz : s.heap.get? z = none) : H z = none := by
  cases e : H z with
  | none => rfl
  | some o => obtain ⟨ob, q⟩ := (I.hok z o e).here; rw [hz] at q; cases q
theorem Inv.ls {z : Addr} (I : Inv X pins σ H s) (hz : s.heap.get? z = none) (hx : z ∉ X.ex) : Ls X pins H z := by
  refine ⟨I.un' hz, I.old hz hx, fun q => ?_, fun x c e q => ?_, fun p hp q => ?_⟩
  . obtain ⟨m, ⟨o, _, _, ho, _⟩, _⟩ := I.loc; rw [<- q, hz] at ho; cases ho
  . obtain ⟨v, o, ho, _⟩ := I.cell x c e; rw [q, hz] at ho; cases ho
  . have := (I.pin p hp).1; rw [q, hz] at this; cases this
theorem Inv.fly {Z : List Addr} (I : Inv X pins σ H s) (hz : ∀ z ∈ Z, Ls X pins H z) (f : Fl (frs X.stack) Z s.heap h') : Inv X pins σ H { s with heap := h' } := by
  have tr : ∀ b o, H b = some o -> b ∉ Z /\ b ∉ frs X.stack := fun b o e => by
    refine ⟨fun q => ?_, fun q => ?_⟩
    . have := (hz b q).un; rw [e] at this; cases this
    . have := I.stkFree b q; rw [e] at this; cases this
  have any : ∀ b o, b ∉ Z -> s.heap.get? b = some o -> ∃ sl, h'.get? b = some { o with slots := sl } := fun b o hb e => by
    by_cases q : b ∈ frs X.stack
    . exact f.slot b o q e
    . exact ⟨o.slots, f.keep b o hb q e⟩
  have nz : ∀ b o, X.s₀.heap.get? b = some o -> b ∉ Z := fun b o e q => by rw [(hz b q).new] at e; cases e
  have nL : ∀ b o, X.s₀.heap.get? b = some o -> b ≠ X.env.locals := fun b o e => Nat.ne_of_lt (Nat.lt_of_lt_of_le (Heap.lt_size e) I.ok.above); have nf : ∀ b, b ≠ X.env.locals -> b ∉ X.fs -> b ∉ frs X.stack := fun b h1 h2 q => (List.mem_cons.mp (I.stkSub b q)).elim h1 h2
  have cK : ∀ x c, X.env.cells.lookup x = some c -> ∀ v, s.heap.IsCell c v -> h'.IsCell c v := fun x c e v ⟨o, ho, hd⟩ => by
    obtain ⟨sl, q⟩ := any c o (fun q => (hz c q).cell x c e rfl) ho; exact ⟨_, q, hd⟩
  refine ⟨I.ok, I.os, I.bare, ⟨fun b o e n hb hx => f.keep b o (nz b o e) (nf b (nL b o e) hb) (I.base.keep b o e n hb hx), fun b o e n hb hx => ?_, I.base.free, fun b o e hx => ?_, I.base.tups, I.base.frzs, I.base.tbls⟩, ?_, fun x c e => ?_, I.free, I.freeC, fun p hp => ?_,
    fun a o e => (I.hok a o e).stay (fun b u hb q => ?_) (fun _ q => q) fun _ _ q => q, I.len⟩
  . obtain ⟨sl, e1⟩ := I.base.slot b o e n hb hx; obtain ⟨sl', e2⟩ := any b _ (nz b o e) e1; exact ⟨sl', e2⟩
  . obtain ⟨o', e1⟩ := I.base.there b o e hx; obtain ⟨sl', e2⟩ := any b _ (nz b o e) e1; exact ⟨_, e2⟩
  . obtain ⟨m, ⟨o, es, ep, ho, r⟩, hl⟩ := I.loc; obtain ⟨sl, q⟩ := any _ o (fun q => (hz _ q).loc rfl) ho; refine ⟨m, ⟨_, es, ep, q, r⟩, fun i x v e1 e2 e3 => ?_⟩; obtain ⟨u, rv, l⟩ := hl i x v e1 e2 e3; refine ⟨u, rv, ?_⟩
    rcases l with l | ⟨k, c, e, z⟩
    . exact .inl l
    . exact .inr ⟨k, c, e, cK x c e _ z⟩
  . obtain ⟨v, z⟩ := I.cell x c e; exact ⟨v, cK x c e v z⟩
  . obtain ⟨e, n, ne, nfs, d⟩ := I.pin p hp; exact ⟨f.keep p.1 p.2 (fun q => (hz _ q).pin p hp rfl) (nf _ ne nfs) e, n, ne, nfs, d⟩
  . rcases hb with rfl | hb
    . exact f.keep b u (tr b o e).1 (tr b o e).2 q
    . exact f.keep b u (tr b _ hb).1 (tr b _ hb).2 q
end
section
variable {M : Model} {A : Around} {E : Value -> Shared -> Prop} {s : Shared} {base : Heap} {l : List Env}
theorem zaO {h h0 : Heap} {Z : List Addr} : ∀ {l : List Env}, h.FunFrames h0 l -> (∀ b ∈ frs l, b ∈ Z) -> h.FunFrames (PySem.W.hideAll h Z) l
  | [], _, _ => trivial
  | env :: r, ⟨k, ⟨L, o, e1, _, e3, e4⟩, q⟩, hz => by
    have hm : ∀ b ∈ frs r, b ∈ frs (env :: r) := fun b hb => by unfold frs; rw [List.filterMap_cons, e1]; exact List.mem_cons_of_mem _ hb
    exact ⟨k, ⟨L, o, e1, PySem.W.hideAll_none _ (hz L (by unfold frs; rw [List.filterMap_cons, e1]; exact List.mem_cons_self ..)), e3, e4⟩, zaO q fun b hb => hz b (hm b hb)⟩
theorem zaI {h h0 : Heap} : ∀ {l : List Env}, h.FunFrames h0 l -> ∀ b ∈ frs l, ∃ o, h.get? b = some o /\ ∀ vs, o.data ≠ .fields vs
  | env :: r, ⟨_, ⟨L, o, e1, _, e3, e4⟩, q⟩, b, hb => by
    unfold frs at hb; rw [List.filterMap_cons, e1] at hb
    rcases List.mem_cons.mp hb with rfl | hb
    . exact ⟨o, e3, e4⟩
    . exact zaI q b hb
theorem zfg {h h' : Heap} {Z fr : List Addr} (k : (PySem.W.hideAll h (Z ++ fr)).StaysIn h') (fm : ∀ b ∈ fr, ∃ o, h.get? b = some o /\ ∀ vs, o.data ≠ .fields vs)
    (sl : ∀ b o, h.get? b = some o -> (∀ vs, o.data ≠ .fields vs) -> ∃ sl, h'.get? b = some { o with slots := sl }) : Fl fr Z h h' :=
  ⟨fun b o h1 h2 e => k b o (PySem.W.hideAll_get _ e fun q => (List.mem_append.mp q).elim h1 h2), fun b o hb e => by
    obtain ⟨o', e1, e2⟩ := fm b hb; rw [e] at e1; cases e1
    exact sl b o e e2⟩
end
section
variable {X : Cx} {pins : List (Addr × Obj)} {σ : St} {H : Hp} {s : Shared} {e : Addr} {C : Value} {Q : Unit -> Shared -> Prop} {E : Value -> Shared -> Prop}
structure Own (X : Cx) : Prop where
  stk : X.stack = X.env :: X.outer
  fr : X.env.frame = some X.env.locals
  ex : X.ex = []
def Up (X : Cx) (pins : List (Addr × Obj)) (H : Hp) (h : Heap) (e : Addr) (C : Value) : Prop := ∃ T fl, Ls X pins H T /\ (fl = .none \/ fl = rawInt X.env.locals) /\ zdk h e T C fl
theorem zbX {Z : List Addr} {h' : Heap} {T : Addr} {oT : Obj} {ts : Array Value} (I : Inv X pins σ H s) (O : Own X) (hz : ∀ z ∈ Z, Ls X pins H z) (f : Fl (frs X.stack) Z s.heap h') (hn : (PySem.W.hideAll s.heap (Z ++ frs X.stack)).get? T = none)
    (hT : h'.get? T = some oT) (hd : oT.data = .fields ts) : Ls X pins H T := by
  cases q : s.heap.get? T with
  | none => exact I.ls q (by rw [O.ex]; simp)
  | some o =>
    by_cases hm : T ∈ Z ++ frs X.stack
    . rcases List.mem_append.mp hm with hm | hm
      . exact hz T hm
      . exfalso; obtain ⟨o', e1, e2⟩ := zaI I.stack T hm; rw [q] at e1; cases e1; obtain ⟨sl, e3⟩ := f.slot T o hm q; rw [hT] at e3; cases e3; exact e2 ts hd
    . rw [PySem.W.hideAll_get _ q hm] at hn; cases hn
theorem zgR (I : Inv X pins σ H s) (O : Own X) (le : Ls X pins H e) (hm : zma s.heap e C \/ Up X pins H s.heap e C)
    (hq : ∀ h' T, Inv X pins σ H { s with heap := h' } -> Ls X pins H T -> zdk h' e T C .none -> Q () { s with heap := h' }) : wpAny (model X.prog X.w) X.A («leaving» X.env (.ref e)) Q E s := by
  have hfr : X.A.frames = some (X.env :: X.outer) := O.stk ▸ I.ok.frames; have stk := I.stack
  rcases hm with ⟨oe, vs, a0, he, ⟨hc, h0⟩, hd, h1⟩ | ⟨T, fl, lT, hfl, oe, vs, oT, ts, a0, he, ⟨hc, h0⟩, hd, h1, hTe, hT, hdT, h3⟩
  . have hz : ∀ z ∈ [e], Ls X pins H z := fun z hz => by rw [List.mem_singleton.mp hz]; exact le
    refine wpAny_leaving_firstW (base := PySem.W.hideAll s.heap ([e] ++ frs X.stack)) (a0 := a0) hfr (by rw [<- O.stk]; exact zaO stk fun b hb => List.mem_append_right _ hb) O.fr he (fun b o q => PySem.W.of_hideAll _ q) (PySem.W.hideAll_none _ (by simp)) hd h1 h0 fun h' hL => ?_
    obtain ⟨x1, _, ⟨oe', vs', T, oT, ts, y1, y2, y3, y4, y5, y6, y7, y8, y9⟩, x4⟩ := hL; have f : Fl (frs X.stack) [e] s.heap h' := zfg x1 (zaI stk) x4; exact hq h' T (I.fly hz f) (zbX I O hz f y5 y7 y8) ⟨oe', vs', oT, ts, a0, y1, ⟨y2.1.trans hc, y2.2⟩, y3, y4, y6, y7, y8, y9⟩
  . have hz : ∀ z ∈ [e, T], Ls X pins H z := fun z hz => by
      rcases List.mem_cons.mp hz with rfl | hz
      . exact le
      . rw [List.mem_singleton.mp hz]; exact lT
    rcases hfl with rfl | rfl
    . refine wpAny_leaving_nextW (base := PySem.W.hideAll s.heap ([e, T] ++ frs X.stack)) (cls := C) (a0 := a0) hfr (by rw [<- O.stk]; exact zaO stk fun b hb => List.mem_append_right _ hb) O.fr
        ⟨oe, vs, T, oT, ts, he, ⟨hc, h0⟩, hd, h1, PySem.W.hideAll_none _ (by simp), hTe, hT, hdT, h3⟩ (fun b o q => PySem.W.of_hideAll _ q) (PySem.W.hideAll_none _ (by simp)) fun h' hL => ?_
      obtain ⟨x1, _, ⟨oe', vs', T', oT', ts', y1, y2, y3, y4, y5, y6, y7, y8, y9⟩, x4⟩ := hL; have f : Fl (frs X.stack) [e, T] s.heap h' := zfg x1 (zaI stk) x4; exact hq h' T' (I.fly hz f) (zbX I O hz f y5 y7 y8) ⟨oe', vs', oT', ts', a0, y1, y2, y3, y4, y6, y7, y8, y9⟩
    . unfold «leaving»; refine wpAny_bind (wpAny_noteFrame_againW (base := PySem.W.hideAll s.heap ([e, T] ++ frs X.stack)) (cls := C) (a0 := a0) O.fr ⟨oe, vs, T, oT, ts, he, ⟨hc, h0⟩, hd, h1, PySem.W.hideAll_none _ (by simp), hTe, hT, hdT, h3⟩ ?_)
      refine wpAny_setFlight_noneW (base := PySem.W.hideAll s.heap ([e, T] ++ frs X.stack)) (l := X.stack) (cls := C) (a0 := a0) (fl := rawInt X.env.locals) (fun b o q => PySem.W.of_hideAll _ q) (zaO stk fun b hb => List.mem_append_right _ hb)
        ⟨oe, vs, T, oT, ts, he, ⟨hc, h0⟩, hd, h1, PySem.W.hideAll_none _ (by simp), hTe, hT, hdT, h3⟩ fun h2 z1 _ ⟨oe2, vs2, T2, oT2, ts2, u1, u2, u3, u4, u5, u6, u7, u8, u9⟩ z4 => ?_
      have f2 : Fl (frs X.stack) [e, T] s.heap h2 := zfg z1 (zaI stk) fun b o q n => ⟨o.slots, z4 b o q n⟩; exact hq h2 T2 (I.fly hz f2) (zbX I O hz f2 u5 u7 u8) ⟨oe2, vs2, oT2, ts2, a0, u1, u2, u3, u4, u6, u7, u8, u9⟩
end
def CX1 (P : Program) (w : World) : CXT := fun outer H s E x s' => ∃ e T C H', x = .ref e /\ s'.os = s.os /\ AllBare s'.gens /\ Un (frs outer) [] H H' s.heap s'.heap /\ HOk P w H' s'.heap ∧
  (H' e = none /\ s.heap.get? e = none) /\ (H' T = none /\ s.heap.get? T = none) /\ zdk s'.heap e T C .none /\ E C none H'
def XQ (X : Cx) (E : XK) (x : Value) (s' : Shared) : Prop := ∃ pins σ H e C, x = .ref e /\ Inv X pins σ H s' /\ Ls X pins H e /\ (zma s'.heap e C \/ Up X pins H s'.heap e C) /\ E C none H
section
variable {P : Program} {w : World} {K : PySem.W.Frag} {mg : Str -> Option Value} {base : Heap} {N : List Str} {qual : Str} {scope : Scope} {f : Addr} {cd : Value} {A : Around} {outer : List Env} {s : Shared} {H : Hp} {E : XK}
theorem own_cx {CX : CXT} : Own (zdu CX P w K mg base N qual scope f cd A outer s H E) := ⟨rfl, rfl, rfl⟩
theorem zjy {x : Value} {s' : Shared} (h : XQ (zdu (CX1 P w) P w K mg base N qual scope f cd A outer s H E) E x s') : (zdu (CX1 P w) P w K mg base N qual scope f cd A outer s H E).xe x s' := by
  obtain ⟨pins, σ, H', e, C, rfl, I, le, hm, q⟩ := h; refine zgR I own_cx le hm fun h' T I' lT fl => ?_; exact ⟨e, T, C, H', rfl, I'.os, I'.bare, I'.base, I'.hok, ⟨le.un, le.new⟩, ⟨lT.un, lT.new⟩, fl, q⟩
end
section
variable {X : Cx} {E : XK}
theorem Ls.unwish {pins : List (Addr × Obj)} {H : Hp} {z : Addr} {F : Value -> Shared -> Prop} (l : Ls (X.wish F) pins H z) : Ls X pins H z := ⟨l.un, l.new, l.loc, l.cell, l.pin⟩
theorem XQ.unwish {F : Value -> Shared -> Prop} {x : Value} {s' : Shared} (h : XQ (X.wish F) E x s') : XQ X E x s' := by
  obtain ⟨pins, σ, H, e, C, rfl, I, le, hm, q⟩ := h; exact ⟨pins, σ, H, e, C, rfl, I.unwish, le.unwish, hm.imp id fun ⟨T, f, lT, hf, fl⟩ => ⟨T, f, lT.unwish, hf, fl⟩, q⟩
theorem zhF {F : Value -> Shared -> Prop} (O : Own X) (hF : ∀ x s', XQ X E x s' -> X.xe x s') : zc2 (CX1 X.prog X.w) X E := fun pins σ H s x s' I h => by
  obtain ⟨e, T, C, H', rfl, os, bare, un, hok, ⟨e1, e2⟩, ⟨t1, t2⟩, fl, q⟩ := h; have I' : Inv X pins σ H' s' := I.call' os un hok bare fun b z => nomatch z
  have ls : ∀ z, H' z = none -> s.heap.get? z = none -> Ls X pins H' z := fun z h1 h2 => by
    have l := I.ls h2 (by rw [O.ex]; simp)
    exact ⟨h1, l.new, l.loc, l.cell, l.pin⟩
  exact hF _ _ ⟨pins, σ, H', e, C, rfl, I', ls e e1 e2, .inr ⟨T, _, ls T t1 t2, .inl rfl, fl⟩, q⟩
end
theorem zj8 {K : PySem.W.Frag} {h : Heap} {C : Addr} {bmB : List Value} {newId : String} (X : K.In h) (q : PySem.W.excIn K C bmB newId = true) :
    ∃ bm N nm q bs hdct sn sub ab col dd k0 k1 k2 k3 k5 mN, h.get? C = some (excClassObj nm q C N bs bm hdct sn sub ab col dd k0 k1 k2 k3 k5 newId) /\ h.Ns N mN /\ mN "__init__" = none /\ OwnTail h bmB bm := by
  unfold PySem.W.excIn at q
  split at q
  case h_2 => cases q
  case h_1 d₁ data₁ slots₁ there =>
    split at q
    case h_2 => cases q
    case h_1 C₁ tail₁ a₀ a₁ a₂ a₃ new₁ a₅ mroIs slotsAre =>
      rw [Bool.and_eq_true, Bool.and_eq_true, Bool.and_eq_true, Bool.and_eq_true, Bool.and_eq_true] at q; obtain ⟨⟨⟨⟨⟨q1, q2⟩, q3⟩, q4⟩, q5⟩, q6⟩ := q
      cases eq_of_beq q1
      cases eq_of_beq q2
      obtain ⟨y1, y2, y3, y4, y5, y6, y7, y8, y9, y10, y11⟩ := data₁; dsimp only at mroIs q3 q5 q6; subst mroIs; have y11' : y11 = false := by simpa using q3
      subst y11'; have sl' : slots₁ = #[a₀, a₁, a₂, a₃, some (.builtin newId), a₅] := by cases slots₁; simp only at slotsAre; rw [slotsAre]
      subst sl'; exact ⟨_, _, _, _, _, _, _, _, _, _, _, _, _, _, _, _, _, X _ _ there, .of_isNs (PySem.W.isNs_of_in X q5), PySem.W.nsMap_none_of_in X q5 (eq_of_beq q6), PySem.W.tail_of_in X q4⟩
structure zkc (K : PySem.W.Frag) (mg : Str -> Option Value) (x : Str) (C : Addr) : Prop where
  bound : mg x = some (.ref C)
  inK : PySem.W.excIn K C [.type "ValueError", .type "Exception", .type "BaseException", .type "object"] "ValueError.__new__" = true
def zlN (C : Addr) (E : XK) (t : TA) : TS := fun _ σ H => t σ H fun vs H1 => vs.length <= 1000 /\ E (.ref C) none H1
section
variable {X : Cx} {E : XK} {x : Str} {C : Addr} {np cpos pos : Pos} {e₀ : Expr} {es : List Expr} {t : TA}
theorem zds (k : zkc X.K X.mg x C) (hE : ∀ y s', XQ X E y s' -> X.xe y s') (hx : X.ex = []) (hg : Gl X x) (ha : PA X (e₀ :: es) t) (hc : X.calm = true)
    (he : starEach (e₀ :: es) X.env = (false, eval e₀ X.env) :: starEach es X.env := by rfl) (hpl : (backTo cpos (starEach es X.env)).any (·.1) = false := by rfl) (hd : (x == ("__debug__" : Str)) = false := by decide) :
    PS X (.Raise (some (.Call (.Name x np) (e₀ :: es) [] cpos)) none pos) (zlN C E t) := by
  intro pins s σ H D I h; obtain ⟨bm, N, nm, q, bs, hdct, sn, sub, ab, col, dd, k0, k1, k2, k3, k5, mN, hC, hN, hni, T⟩ := zj8 I.mod.kin k.inK
  refine wpAny_Raise_call_subU PySem.F.excBase_ValueError (by decide) PySem.F.excBase_ValueError (C := C) (N := N) (nm := nm) (q := q) (bs := bs) (bm := bm) (hdct := hdct) (sn := sn) (sub := sub) (ab := ab) (col := col) (dd := dd) (k0 := k0) (k1 := k1) (k2 := k2) (k3 := k3) (k5 := k5) (mN := mN)
    (T.hasType (X := "BaseException") (b := true) (by decide)) (I.ok.hd hc) (by rw [he]; show (false || (backTo cpos (starEach es X.env)).any (·.1)) = false; rw [hpl]; rfl) hni ?_
  refine zdn I hg k.bound ⟨rfl, ?_⟩ hd; have h2 := ha cpos pins s σ H _ I h; rw [he] at h2 ⊢; refine Calls.evalArgs_plain (thn h2 fun us s2 ⟨vs, H2, I2, r, hl, w⟩ => ?_); refine ⟨rfl, ?_, I2.bk _ _ hC, hN.keeps I2.bk, T.keeps I2.bk, fun h' e hm => ?_⟩
  . rw [show us.length = vs.length from r.length.symm]; exact Nat.le_of_lt (ziL hl)
  . obtain ⟨t, he, _, _⟩ := hm.there; exact hE _ _ ⟨pins, σ, H2, e, .ref C, rfl, I2.kept (t' := s2.toks) hm.keeps, I2.ls hm.new (by rw [hx]; simp), .inl ⟨_, _, _, he, ⟨rfl, rfl⟩, rfl, rfl⟩, w⟩
end
theorem Fun.okX {P : Program} {w : World} {K : PySem.W.Frag} {mg : Str -> Option Value} {base : Heap} {x qual : Str} {st : Stmt} {f : Addr} {fd : FuncData} {N ps : List Str} {k : Nat} {sp : Sp} (F : Fun K x qual st f fd) (S : zal N ps (zaf st)) (len : ∀ vs H Q E, sp vs H Q E -> vs.length = ps.length)
    (hbody : ∀ (cdv : Value) (A : Around) (outer : List Env) (s : Shared) (H : Hp) (vs : List V) (Q : VK) (E : XK), Room k (A.deeper (envOfC qual (zaf st) s.heap.objs.size f cdv)) -> sp vs H Q E →
      ∃ t, PSs ((zdu (CX1 P w) P w K mg base N qual (zaf st) f cdv A outer s H E).wish (XQ (zdu (CX1 P w) P w K mg base N qual (zaf st) f cdv A outer s H E) E)) (zaU st) t /\ t { nx := fun _ H' => Q .non H', rt := Q } (start N vs) H) :
    FnOk P w K mg base (CX1 P w) (k + 1) f fd ps sp := by
  obtain ⟨oc, od, kV, doc, pm, an, cdv, ct, osl, rfl, lk, hcd⟩ := F.ex; refine zk0 lk hcd S len fun A outer s H vs Q E hr hsp => ?_; obtain ⟨t, h, q⟩ := hbody cdv A outer s H vs Q E hr hsp; exact ⟨t, fun pins s σ H D I hw => wpAny_mono (h pins s σ H D (I.wish _) hw) (fun _ _ q => q.unwish) fun _ _ z => zjy z, q⟩
theorem FnOk.calm {P : Program} {w : World} {K : PySem.W.Frag} {mg : Str -> Option Value} {base : Heap} {CX : CXT} {k : Nat} {f : Addr} {fd : FuncData} {ps : List Str} {sp : Sp} (F : FnOk P w K mg base CX0 k f fd ps sp) : FnOk P w K mg base CX k f fd ps sp :=
  ⟨F.len, fun A outer s H args us vs Q E hr he hb hv hs => codeAny_mono (F.run A outer s H args us vs Q E hr he hb hv hs) fun r s' h => by
    cases r with
    | ok f => cases f <;> exact h
    | error e => exact False.elim h⟩
theorem zed {X : Cx} {E : XK} : ∀ y s', XQ (X.wish (XQ X E)) E y s' -> (X.wish (XQ X E)).xe y s' := fun _ _ h => h.unwish
end L2
set_option Elab.async false
set_option linter.all false
set_option maxRecDepth 100000
namespace L2
open PySem PySem.Spec PyProof.Rows
theorem Own.wish {X : Cx} {F : Value -> Shared -> Prop} (O : Own X) : Own (X.wish F) := ⟨O.stk, O.fr, O.ex⟩
abbrev Cx.marked (X : Cx) (e : Addr) : Cx := { X with A := X.A.mark (some (.ref e)), calm := false, xe := fun _ _ => False }
theorem Inv.marked {X : Cx} {pins : List (Addr × Obj)} {σ : St} {H : Hp} {s : Shared} {e : Addr} (I : Inv X pins σ H s) : Inv (X.marked e) pins σ H s :=
  ⟨⟨I.ok.mod, I.ok.kind, I.ok.glob, I.ok.blt, I.ok.above, I.ok.inj, I.ok.has, I.ok.cab, (fun q => nomatch q), I.ok.frames, I.ok.stk, I.ok.exf, I.ok.bs, I.ok.bsz, I.ok.noex, I.ok.exfs, I.ok.funs, I.ok.frf⟩, I.os, I.bare, I.base, I.loc, I.cell, I.free, I.freeC, I.pin, I.hok, I.len⟩
theorem Inv.unmarked {X : Cx} {pins : List (Addr × Obj)} {σ : St} {H : Hp} {s : Shared} {e : Addr} (hh : X.calm = true -> X.A.handled = none) (I : Inv (X.marked e) pins σ H s) : Inv X pins σ H s :=
  ⟨⟨I.ok.mod, I.ok.kind, I.ok.glob, I.ok.blt, I.ok.above, I.ok.inj, I.ok.has, I.ok.cab, hh, I.ok.frames, I.ok.stk, I.ok.exf, I.ok.bs, I.ok.bsz, I.ok.noex, I.ok.exfs, I.ok.funs, I.ok.frf⟩, I.os, I.bare, I.base, I.loc, I.cell, I.free, I.freeC, I.pin, I.hok, I.len⟩
theorem SP.unmarked {X : Cx} {pins : List (Addr × Obj)} {D : zci} {f : Flow} {s' : Shared} {e : Addr} (hh : X.calm = true -> X.A.handled = none) (h : SP (X.marked e) pins D f s') : SP X pins D f s' := by
  cases f with
  | next => obtain ⟨σ', H', I, q⟩ := h; exact ⟨σ', H', I.unmarked hh, q⟩
  | brk => obtain ⟨σ', H', I, q⟩ := h; exact ⟨σ', H', I.unmarked hh, q⟩
  | cont => obtain ⟨σ', H', I, q⟩ := h; exact ⟨σ', H', I.unmarked hh, q⟩
  | ret u => obtain ⟨v, σ', H', I, r, q⟩ := h; exact ⟨v, σ', H', I.unmarked hh, r, q⟩
section
variable {X : Cx} {pins : List (Addr × Obj)} {σ : St} {H : Hp} {s : Shared} {e T : Addr} {C fl : Value} {Q : Unit -> Shared -> Prop} {E : Value -> Shared -> Prop} {A : Around}
theorem zjm (le : Ls X pins H e) (lT : Ls X pins H T) : ∀ z ∈ [e, T], Ls X pins H z := fun z hz => by
  rcases List.mem_cons.mp hz with rfl | hz
  . exact le
  . rw [List.mem_singleton.mp hz]; exact lT
theorem zjJ (I : Inv X pins σ H s) (O : Own X) (le : Ls X pins H e) (hm : zma s.heap e C \/ Up X pins H s.heap e C)
    (hq : ∀ h' T, Inv X pins σ H { s with heap := h' } -> Ls X pins H T -> zdk h' e T C (rawInt X.env.locals) -> Q () { s with heap := h' }) : wpAny (model X.prog X.w) X.A (noteFrame (.ref e) X.env) Q E s := by
  have hfr : X.A.frames = some (X.env :: X.outer) := O.stk ▸ I.ok.frames; have stk := I.stack
  rcases hm with ⟨oe, vs, a0, he, ⟨hc, h0⟩, hd, h1⟩ | ⟨T, fl, lT, hfl, oe, vs, oT, ts, a0, he, ⟨hc, h0⟩, hd, h1, hTe, hT, hdT, h3⟩
  . have hz : ∀ z ∈ [e], Ls X pins H z := fun z hz => by rw [List.mem_singleton.mp hz]; exact le
    unfold noteFrame; simp only [O.fr]; refine wpAny_bind (wpAny_field he hd h1 ?_); rw [if_neg (by decide)]
    refine wpAny_entryW (base := PySem.W.hideAll s.heap ([e] ++ frs X.stack)) (a0 := a0) hfr (by rw [<- O.stk]; exact zaO stk fun b hb => List.mem_append_right _ hb) O.fr he (fun b o q => PySem.W.of_hideAll _ q) (PySem.W.hideAll_none _ (by simp)) hd (Array.getElem?_eq_some_iff.mp h1).1 h0 fun h' hL => ?_
    obtain ⟨x1, _, ⟨oe', vs', T', oT', ts', y1, y2, y3, y4, y5, y6, y7, y8, y9⟩, x4⟩ := hL; have f : Fl (frs X.stack) [e] s.heap h' := zfg x1 (zaI stk) x4; exact hq h' T' (I.fly hz f) (zbX I O hz f y5 y7 y8) ⟨oe', vs', oT', ts', a0, y1, ⟨y2.1.trans hc, y2.2⟩, y3, y4, y6, y7, y8, y9⟩
  . have hz := zjm le lT
    rcases hfl with rfl | rfl
    . refine wpAny_noteFrame_onW (base := PySem.W.hideAll s.heap ([e, T] ++ frs X.stack)) (cls := C) (a0 := a0) hfr (by rw [<- O.stk]; exact zaO stk fun b hb => List.mem_append_right _ hb) O.fr
        ⟨oe, vs, T, oT, ts, he, ⟨hc, h0⟩, hd, h1, PySem.W.hideAll_none _ (by simp), hTe, hT, hdT, h3⟩ (fun b o q => PySem.W.of_hideAll _ q) (PySem.W.hideAll_none _ (by simp)) fun h' hL => ?_
      obtain ⟨x1, _, ⟨oe', vs', T', oT', ts', y1, y2, y3, y4, y5, y6, y7, y8, y9⟩, x4⟩ := hL; have f : Fl (frs X.stack) [e, T] s.heap h' := zfg x1 (zaI stk) x4; exact hq h' T' (I.fly hz f) (zbX I O hz f y5 y7 y8) ⟨oe', vs', oT', ts', a0, y1, y2, y3, y4, y6, y7, y8, y9⟩
    . exact wpAny_noteFrame_againW (base := PySem.W.hideAll s.heap ([e, T] ++ frs X.stack)) (cls := C) (a0 := a0) O.fr ⟨oe, vs, T, oT, ts, he, ⟨hc, h0⟩, hd, h1, PySem.W.hideAll_none _ (by simp), hTe, hT, hdT, h3⟩
        (hq s.heap T I lT ⟨oe, vs, oT, ts, a0, he, ⟨hc, h0⟩, hd, h1, hTe, hT, hdT, h3⟩)
theorem zkE (I : Inv X pins σ H s) (O : Own X) (le : Ls X pins H e) (lT : Ls X pins H T) (hm : zdk s.heap e T C fl)
    (hq : ∀ h' T', Inv X pins σ H { s with heap := h' } -> Ls X pins H T' -> zdk h' e T' C .none -> Q () { s with heap := h' }) : wpAny (model X.prog X.w) A (setFlight (.ref e) none) Q E s := by
  have stk := I.stack; obtain ⟨oe, vs, oT, ts, a0, he, ⟨hc, h0⟩, hd, h1, hTe, hT, hdT, h3⟩ := hm; have hz := zjm le lT
  refine wpAny_setFlight_noneW (base := PySem.W.hideAll s.heap ([e, T] ++ frs X.stack)) (l := X.stack) (cls := C) (a0 := a0) (fl := fl) (fun b o q => PySem.W.of_hideAll _ q) (zaO stk fun b hb => List.mem_append_right _ hb)
    ⟨oe, vs, T, oT, ts, he, ⟨hc, h0⟩, hd, h1, PySem.W.hideAll_none _ (by simp), hTe, hT, hdT, h3⟩ fun h2 z1 _ ⟨oe2, vs2, T2, oT2, ts2, u1, u2, u3, u4, u5, u6, u7, u8, u9⟩ z4 => ?_
  have f2 : Fl (frs X.stack) [e, T] s.heap h2 := zfg z1 (zaI stk) fun b o q n => ⟨o.slots, z4 b o q n⟩; exact hq h2 T2 (I.fly hz f2) (zbX I O hz f2 u5 u7 u8) ⟨oe2, vs2, oT2, ts2, a0, u1, u2, u3, u4, u6, u7, u8, u9⟩
theorem zh7 (I : Inv X pins σ H s) (O : Own X) (le : Ls X pins H e) (lT : Ls X pins H T) (hm : zdk s.heap e T C fl)
    (hq : ∀ h', Inv X pins σ H { s with heap := h' } -> zdk h' e T C (rawInt X.env.locals) -> E (.ref e) { s with heap := h' }) : cameBackBy (model X.prog X.w) X.A X.env E (.ref e) s := by
  obtain ⟨oe, vs, oT, ts, a0, he, ⟨hc, h0⟩, hd, h1, hTe, hT, hdT, h3⟩ := hm; have hs3 : 3 < ts.size := (Array.getElem?_eq_some_iff.mp h3).1; unfold cameBackBy; refine wpAny_bind (wpAny_field he hd h1 ?_); rw [if_neg (show ¬ ((Value.ref T == Value.none) = true) from by simp)]
  unfold setFlight; rw [O.fr]; refine wpAny_bind (wpAny_field he hd h1 ?_); rw [if_pos (show (Value.ref T != Value.none) = true from by simp)]
  refine wpAny_setField hT hdT hs3 ?_; have ot : ∀ b, b ≠ T -> (s.heap.update T (Obj.mapFields (·.setIfInBounds 3 (rawInt X.env.locals)))).get? b = s.heap.get? b := fun b hb => Heap.get?_update_other _ _ (Ne.symm hb); have hz : ∀ z ∈ [T], Ls X pins H z := fun z hz => by rw [List.mem_singleton.mp hz]; exact lT
  have f : Fl (frs X.stack) [T] s.heap (s.heap.update T (Obj.mapFields (·.setIfInBounds 3 (rawInt X.env.locals)))) := by
    refine ⟨fun b o h1 _ e => (ot b fun q => h1 (by simp [q])).trans e, fun b o hb e => ⟨o.slots, (ot b fun q => ?_).trans e⟩⟩
    obtain ⟨o', e1, e2⟩ := zaI I.stack b hb; rw [q, hT] at e1; cases e1; exact e2 ts hdT
  refine hq _ (I.fly hz f) ⟨oe, vs, _, _, a0, (ot e (Ne.symm hTe)).trans he, ⟨hc, h0⟩, hd, h1, hTe, Heap.get?_update_self _ hT (Obj.isFreed_of_fields (Obj.data_mapFields hdT _)), Obj.data_mapFields hdT _, by simp [hs3]⟩
end
theorem znO {X : Cx} {E : XK} (O : Own X) : PassesOwn (model X.prog X.w) X.A X.env (XQ X E) := fun x s' h => by
  obtain ⟨pins, σ, H, e, C, rfl, I, le, hm, q⟩ := h; refine zjJ I O le hm fun h' T I' lT fl => ?_; exact zh7 I' O le lT fl fun h2 I2 f2 => ⟨pins, σ, H, e, C, rfl, I2, le, .inr ⟨T, _, lT, .inr rfl, f2⟩, q⟩
def zjb (X : Cx) : List (Addr × TS) -> zci -> Value -> Hp -> Prop
  | [], _, _, _ => False
  | (c, t) :: r, D, C, H => (PySem.W.exmOne X.K C (.ref c) = some true /\ t D (List.replicate X.N.length none) H) \/ (PySem.W.exmOne X.K C (.ref c) = some false /\ zjb X r D C H)
inductive zgb (X : Cx) : List ExceptHandler -> List (Addr × TS) -> Prop
  | nil : zgb X [] []
  | cons {x : Str} {np pos : Pos} {b₀ : Stmt} {suite : List Stmt} {hs : List ExceptHandler} {c : Addr} {t : TS} {r : List (Addr × TS)} (hg : Gl X x) (hm : X.mg x = some (.ref c)) (hd : (x == ("__debug__" : Str)) = false) (ht : ∀ e, PSs (X.marked e) (b₀ :: suite) t) (h : zgb X hs r) :
      zgb X (.ExceptHandler (some (.Name x np)) none (b₀ :: suite) pos :: hs) ((c, t) :: r)
def znh (X : Cx) (tb : XK -> TS) (hs : List (Addr × TS)) : TS := fun D σ H => tb (fun C _ H' => zjb X hs D C H') D σ H
section
variable {X : Cx} {D : zci}
theorem zfc (O : Own X) (hc : X.calm = true) : ∀ {hs : List ExceptHandler} {r : List (Addr × TS)}, zgb X hs r -> ∀ {pins : List (Addr × Obj)} {σ : St} {H : Hp} {s : Shared} {e T : Addr} {C fl : Value}, Inv X pins σ H s -> Ls X pins H e -> Ls X pins H T -> zdk s.heap e T C fl -> zjb X r D C H →
    wpAny (model X.prog X.w) X.A (handleBy (.ref e) X.env hs) (SP X pins D) X.xe s
  | _, _, .nil, _, _, _, _, _, _, _, _, _, _, _, _, h => h.elim
  | _, _, .cons hg hm hd ht hr, pins, σ, H, s, e, T, C, fl, I, le, lT, up, h => by
    have hcls : ∃ oe, s.heap.get? e = some oe /\ oe.cls = C := by
      obtain ⟨oe, vs, oT, ts, a0, he, ⟨hc, _⟩, _⟩ := up; exact ⟨oe, he, hc⟩
    obtain ⟨oe, he, hce⟩ := hcls; have LT : PySem.W.Looks (model X.prog X.w) s.heap (typeOf (.ref e)) C := hce ▸ (PySem.W.Looks.ld he).andThen .now; refine wpAny_handleBy_cons (codeAny_handlers_test ?_) (by intro q; cases q)
    refine zdn (X := X.marked e) I.marked hg hm ?_ hd; have I0 := I
    rcases h with ⟨hx, h⟩ | ⟨hx, h⟩
    . refine PySem.W.exm_one I.kIn LT hx _ _ _ s (fun _ _ q => q) ?_; refine codeAny_handlers_suite ?_; refine zkE I O le lT up fun h' _ I' _ _ => ?_
      have I2 : Inv X pins (List.replicate X.N.length none) H { s with heap := h' } := I'.weak (by rw [List.length_replicate, I'.len]) fun i v q => by
        rw [List.getElem?_replicate] at q; split at q <;> cases q
      refine wpAny_mono (ht e pins _ _ H D I2.marked h) (fun f s2 q => q.unmarked I.ok.hd) fun _ _ z => False.elim z
    . refine PySem.W.exm_one I.kIn LT hx _ _ _ s (fun _ _ q => q) ?_; exact zfc O hc hr I le lT up h
abbrev Cx.pinned (X : Cx) (pn : List (Addr × Obj)) : Cx := { X with pn := pn }
theorem Inv.pinIn {pins : List (Addr × Obj)} {σ : St} {H : Hp} {s : Shared} (I : Inv X pins σ H s) : Inv (X.pinned (X.pn ++ pins)) [] σ H s :=
  ⟨⟨I.ok.mod, I.ok.kind, I.ok.glob, I.ok.blt, I.ok.above, I.ok.inj, I.ok.has, I.ok.cab, I.ok.hd, I.ok.frames, I.ok.stk, I.ok.exf, I.ok.bs, I.ok.bsz, I.ok.noex, I.ok.exfs, I.ok.funs, I.ok.frf⟩, I.os, I.bare, I.base, I.loc, I.cell, I.free, I.freeC, fun p hp => I.pin p (by simpa using hp), I.hok, I.len⟩
theorem Inv.pinOut {pins pins' : List (Addr × Obj)} {σ : St} {H : Hp} {s : Shared} (I : Inv (X.pinned (X.pn ++ pins)) pins' σ H s) : Inv X pins σ H s :=
  ⟨⟨I.ok.mod, I.ok.kind, I.ok.glob, I.ok.blt, I.ok.above, I.ok.inj, I.ok.has, I.ok.cab, I.ok.hd, I.ok.frames, I.ok.stk, I.ok.exf, I.ok.bs, I.ok.bsz, I.ok.noex, I.ok.exfs, I.ok.funs, I.ok.frf⟩, I.os, I.bare, I.base, I.loc, I.cell, I.free, I.freeC, fun p hp => I.pin p (List.mem_append_left _ hp), I.hok, I.len⟩
theorem Ls.pinOut {pins pins' : List (Addr × Obj)} {H : Hp} {z : Addr} (l : Ls (X.pinned (X.pn ++ pins)) pins' H z) : Ls X pins H z := ⟨l.un, l.new, l.loc, l.cell, fun p hp => l.pin p (List.mem_append_left _ hp)⟩
theorem SP.pinOut {pins : List (Addr × Obj)} {f : Flow} {s' : Shared} (h : SP (X.pinned (X.pn ++ pins)) [] D f s') : SP X pins D f s' := by
  cases f with
  | next => obtain ⟨σ', H', I, q⟩ := h; exact ⟨σ', H', I.pinOut, q⟩
  | brk => obtain ⟨σ', H', I, q⟩ := h; exact ⟨σ', H', I.pinOut, q⟩
  | cont => obtain ⟨σ', H', I, q⟩ := h; exact ⟨σ', H', I.pinOut, q⟩
  | ret u => obtain ⟨v, σ', H', I, r, q⟩ := h; exact ⟨v, σ', H', I.pinOut, r, q⟩
abbrev Cx.inTry (X : Cx) (pn : List (Addr × Obj)) (E : XK) : Cx := (X.pinned pn).wish (XQ (X.pinned pn) E)
theorem Own.inTry {pn : List (Addr × Obj)} {E : XK} (O : Own X) : Own (X.inTry pn E) := ⟨O.stk, O.fr, O.ex⟩
theorem zd8 {pn : List (Addr × Obj)} {E : XK} (O : Own X) : zc2 (CX1 X.prog X.w) (X.inTry pn E) E := zhF (X := X.inTry pn E) (F := fun _ _ => True) O.inTry fun _ _ h => h.unwish
theorem ziN {body : List Stmt} {h₀ : ExceptHandler} {hs : List ExceptHandler} {r : List (Addr × TS)} {tb : XK -> TS} {pos : Pos} (O : Own X) (hc : X.calm = true) (hb : ∀ pn E, PSs (X.inTry pn E) body (tb E)) (hh : zgb X (h₀ :: hs) r) :
    PS X (.Try body (h₀ :: hs) [] [] pos) (znh X tb r) := by
  intro pins s σ H D I h; refine wpAny_Try_except (wpAny_mono (hb (X.pn ++ pins) _ [] s σ H D (I.pinIn.wish _) h) (fun f s1 q => ?_) fun x s1 z => ?_)
  . have q := q.unwish.pinOut
    cases f with
    | next => exact wpAny_execs_nil q
    | _ => exact q
  . obtain ⟨pins', σ', H', e, C, rfl, I1, le, hm, w⟩ := z; refine zjJ I1.pinOut O le.pinOut (hm.imp id fun ⟨T, f, lT, hf, fl⟩ => ⟨T, f, lT.pinOut, hf, fl⟩) fun h' T I2 lT fl => ?_; exact zkE I2 O le.pinOut lT fl fun h2 T2 I3 lT2 f2 => zfc (D := D) O hc hh I3 le.pinOut lT2 f2 w
end
theorem zfh {X : Cx} {E : XK} (O : Own X) : PassesOwn (model X.prog X.w) X.A X.env (X.wish (XQ X E)).xe := znO O
end L2
set_option Elab.async false
set_option linter.all false
set_option maxRecDepth 100000
namespace L2
open PySem PySem.Spec PyProof.Rows
def zmn (P : Program) (w : World) (K : PySem.W.Frag) (a : Addr) (kvs : List (Key × V)) : Prop :=
  (a == sysModules) = false /\ ∃ vs, KV kvs vs /\ ∀ h : Heap, K.In h -> h.DictOf (zaE P w) a vs
def zl9 (P : Program) (w : World) (K : PySem.W.Frag) (a : Addr) (kvs : List (List Key × V)) : Prop :=
  (a == sysModules) = false /\ ∃ xs : List (List Key × Addr × Value), Paired (fun (p : List Key × V) (q : List Key × Addr × Value) => p.1 = q.1 /\ RelV p.2 q.2.2) kvs xs /\ ∀ h : Heap, K.In h -> h.DictOfH (tupleKind (zaE P w)) a xs
theorem zez {kvs : List (List Key × V)} {xs : List (List Key × Addr × Value)} (r : Paired (fun (p : List Key × V) (q : List Key × Addr × Value) => p.1 = q.1 /\ RelV p.2 q.2.2) kvs xs) (k : List Key) : RelO (zbB kvs k) ((atKey xs k).map (·.2)) := by
  induction r with
  | nil => exact True.intro
  | @cons p q ps qs hq t ih =>
    obtain ⟨e, rv⟩ := hq
    by_cases hk : p.1 = k
    . rw [za8 hk]; have : atKey (q :: qs) k = some q.2 := by simp [atKey, List.find?_cons, <- e, hk]
      rw [this]; exact rv
    . rw [za9 hk]; have : atKey (q :: qs) k = atKey qs k := by simp [atKey, List.find?_cons, <- e, hk]
      rw [this]; exact ih
def zhp (P : Program) (w : World) (K : PySem.W.Frag) (H : Hp) (a : Addr) (y : V) (r : Option V) : Prop :=
  (∃ kvs k, zmn P w K a kvs /\ y = kV k /\ r = zbB kvs k) \/ ∃ kvs k b, zl9 P w K a kvs /\ y = .ref b /\ H b = some (.tup (k.map kV)) /\ r = zbB kvs k
section
variable {X : Cx} {pins : List (Addr × Obj)} {σ : St} {H : Hp} {s : Shared} {a : Addr} {y v : V} {u r : Value} {o : Option V} {A : Around} {E : Value -> Shared -> Prop}
theorem zig {Q : Value -> Shared -> Prop} (hu : A.units + 1 < cLine) (I : Inv X pins σ H s) (g : zhp X.prog X.w X.K H a y (some v)) (ry : RelV y u) (h : ∀ w' s', Inv X pins σ H s' -> RelV v w' -> Q w' s') :
    wpAny (model X.prog X.w) A (getItem (.ref a) u) Q E s := by
  rcases g with ⟨kvs, k, ⟨hd, vs, rel, dd⟩, ey, l⟩ | ⟨kvs, k, b, ⟨hd, xs, rel, dd⟩, ey, eb, l⟩
  . subst ey; obtain ⟨w', hw, rw'⟩ := RelO.some_of (v := v) (o := valueAt vs k) (by rw [l]; exact rel.val k)
    exact wpAny_getItem_of (zet ry) (dd _ I.kIn).mapOf hw (h w' _ (I.tok _) rw')
  . subst ey
    cases (show u = Value.ref b from ry)
    obtain ⟨w', hw, rw'⟩ := RelO.some_of (v := v) (o := (atKey xs k).map (·.2)) (by rw [l]; exact zez rel k)
    obtain ⟨p, hp, hp2⟩ := Option.map_eq_some_iff.mp hw; refine wpAny_getItem_heap (tupleKind_room_in1 hu) (zdQ I.hok eb) (dd _ I.kIn) hp ?_; rw [hp2]; exact h w' _ (I.tok _) rw'
theorem zkO {Q : Value -> Shared -> Prop} (hu : A.units + 1 < cLine) (I : Inv X pins σ H s) (g : zhp X.prog X.w X.K H a y o) (ry : RelV y u) (h : ∀ s', Inv X pins σ H s' -> Q (.bool (!o.isSome)) s') :
    wpAny (model X.prog X.w) A (compareOp .NotIn u (.ref a)) Q E s := by
  rcases g with ⟨kvs, k, ⟨hd, vs, rel, dd⟩, ey, l⟩ | ⟨kvs, k, b, ⟨hd, xs, rel, dd⟩, ey, eb, l⟩
  . subst ey; refine wpAny_notIn_of (zet ry) hd (dd _ I.kIn).mapOf ?_; rw [<- (rel.val k).isSome_eq, <- l]; exact h _ (I.tok _)
  . subst ey
    cases (show u = Value.ref b from ry)
    refine wpAny_notIn_heap (tupleKind_room_in1 hu) (zdQ I.hok eb) hd (dd _ I.kIn) ?_; have q := (zez rel k).isSome_eq; rw [Option.isSome_map] at q; rw [<- q, <- l]; exact h _ (I.tok _)
theorem znr {Q : Value -> Shared -> Prop} (hu : A.units + 1 < cLine) (I : Inv X pins σ H s) (g : zhp X.prog X.w X.K H a y o) (ry : RelV y u) (h : ∀ s', Inv X pins σ H s' -> Q (.bool o.isSome) s') :
    wpAny (model X.prog X.w) A (compareOp .In u (.ref a)) Q E s := by
  rcases g with ⟨kvs, k, ⟨hd, vs, rel, dd⟩, ey, l⟩ | ⟨kvs, k, b, ⟨hd, xs, rel, dd⟩, ey, eb, l⟩
  . subst ey; refine wpAny_in_of (zet ry) hd (dd _ I.kIn).mapOf ?_; rw [<- (rel.val k).isSome_eq, <- l]; exact h _ (I.tok _)
  . subst ey
    cases (show u = Value.ref b from ry)
    refine wpAny_in_heap (tupleKind_room_in1 hu) (zdQ I.hok eb) hd (dd _ I.kIn) ?_; have q := (zez rel k).isSome_eq; rw [Option.isSome_map] at q; rw [<- q, <- l]; exact h _ (I.tok _)
theorem zj3 (I : Inv X pins σ H s) (g : zhp X.prog X.w X.K H a y o) : s.TypeIs (.ref a) "dict" := by
  rcases g with ⟨kvs, k, ⟨hd, vs, rel, dd⟩, ey, l⟩ | ⟨kvs, k, b, ⟨hd, xs, rel, dd⟩, ey, eb, l⟩
  . exact (dd _ I.kIn).typeIs
  . exact (dd _ I.kIn).typeIs
end
def zmD (P : Program) (w : World) (K : PySem.W.Frag) (td ty : TE) : TE := fun σ H Q => td σ H fun x H1 => ty σ H1 fun y H2 => ∃ a v, x = .ref a /\ zhp P w K H2 a y (some v) /\ Q v H2
def znH (P : Program) (w : World) (K : PySem.W.Frag) (ty td : TE) : TE := fun σ H Q => ty σ H fun y H1 => td σ H1 fun x H2 => ∃ a o, x = .ref a /\ zhp P w K H2 a y o /\ Q (.bl o.isSome) H2
def zkw (P : Program) (w : World) (K : PySem.W.Frag) (ty td : TE) : TE := fun σ H Q => ty σ H fun y H1 => td σ H1 fun x H2 => ∃ a o, x = .ref a /\ zhp P w K H2 a y o /\ Q (.bl (!o.isSome)) H2
section
variable {X : Cx} {o i e value : Expr} {pos pos' tpos : Pos} {td ty tv : TE}
theorem zhW (hu : X.A.units + 1 < cLine) (ho : PE X o td) (hi : PE X i ty) (hs : zkn i) : PE X (.Subscript o i pos) (zmD X.prog X.w X.K td ty) := by
  intro pins s σ H Q I h; refine zfD PySem.F.slot_dict_getitem.lookup hs (thn (ho pins s σ H _ I h) fun u s1 ⟨x, H1, I1, rx, q1⟩ => thn (hi pins s1 σ H1 _ I1 q1) fun iv s2 ⟨y, H2, I2, ry, a, v, ex, g, q2⟩ => ?_); subst ex; obtain rfl : u = Value.ref a := rx; exact ⟨zj3 I2 g, zig hu I2 g ry fun w' s3 I3 rw' => ⟨v, H2, I3, rw', q2⟩⟩
theorem zlX (hu : X.A.units + 1 < cLine) (hi : PE X i ty) (ho : PE X o td) : PC X .In i o (znH X.prog X.w X.K ty td) := by
  intro pins s σ H Q I h; refine thn (hi pins s σ H _ I h) fun iv s1 ⟨y, H1, I1, ry, q1⟩ => thn (ho pins s1 σ H1 _ I1 q1) fun u s2 ⟨x, H2, I2, rx, a, ov, ex, g, q2⟩ => ?_; subst ex; obtain rfl : u = Value.ref a := rx; exact znr hu I2 g ry fun s3 I3 => ⟨.bl ov.isSome, H2, I3, rfl, q2⟩
theorem zit (hu : X.A.units + 1 < cLine) (hi : PE X i ty) (ho : PE X o td) : PC X .NotIn i o (zkw X.prog X.w X.K ty td) := by
  intro pins s σ H Q I h; refine thn (hi pins s σ H _ I h) fun iv s1 ⟨y, H1, I1, ry, q1⟩ => thn (ho pins s1 σ H1 _ I1 q1) fun u s2 ⟨x, H2, I2, rx, a, ov, ex, g, q2⟩ => ?_; subst ex; obtain rfl : u = Value.ref a := rx; exact zkO hu I2 g ry fun s3 I3 => ⟨.bl (!ov.isSome), H2, I3, rfl, q2⟩
end
theorem zhA {P : Program} {w : World} {K : PySem.W.Frag} {a : Addr} {xs : List (Str × Nat × Value)} {kvs : List (Key × V)} {n : Nat} (hl : K.lookup a = some ⟨.type "dict", none, .dict (xs.map fun x => (⟨PyData.keyHash w.params x.1, .str x.1 x.2.1, x.2.2⟩ : DictEntry)).toArray n, #[]⟩)
    (hs : (a == sysModules) = false) (hk : KV kvs (xs.map fun x => ((Sum.inr x.1 : Key), x.2.2))) (nd : (xs.map (·.1)).Nodup) : zmn P w K a kvs := by
  refine ⟨hs, _, hk, fun h X => ⟨_, _, _, X _ _ hl, ⟨rfl, rfl, rfl⟩, rfl, ?_, ?_, ?_⟩⟩
  . intro e he; simp only [List.mem_toArray, List.mem_map] at he; obtain ⟨x, _, rfl⟩ := he; exact ⟨.inr x.1, zb9 x.1 x.2.1, rfl⟩
  . simp only; clear hl hk nd
    induction xs with
    | nil => exact .nil
    | cons x r ih => exact .cons (zb9 x.1 x.2.1) rfl ih
  . rw [List.map_map]; have : ((fun kv : Key × Value => kv.1) ∘ fun x : Str × Nat × Value => ((Sum.inr x.1 : Key), x.2.2)) = (fun x => Sum.inr x.1) := rfl; rw [this]; have e : (xs.map fun x => (Sum.inr x.1 : Key)) = (xs.map (·.1)).map Sum.inr := by rw [List.map_map]; rfl
    rw [e]; exact List.pairwise_map.mpr (List.Pairwise.imp (fun h h' => h (Sum.inr.inj h')) nd)
theorem zhf {P : Program} {w : World} {K : PySem.W.Frag} {a : Addr} {xs : List ((Str × Nat) × (Str × Nat) × Addr × Value)} {kvs : List (List Key × V)} {n : Nat}
    (hl : K.lookup a = some ⟨.type "dict", none, .dict (xs.map fun x => (⟨reduceHash (Builtin.Tuple.tupleHashOf [PyData.keyHash w.params x.1.1, PyData.keyHash w.params x.2.1.1]), .ref x.2.2.1, x.2.2.2⟩ : DictEntry)).toArray n, #[]⟩)
    (ht : ∀ x ∈ xs, K.lookup x.2.2.1 = some ⟨.type "tuple", none, .seq #[.str x.1.1 x.1.2, .str x.2.1.1 x.2.1.2] 0, #[]⟩)
    (hs : (a == sysModules) = false) (hk : Paired (fun (p : List Key × V) (q : List Key × Addr × Value) => p.1 = q.1 /\ RelV p.2 q.2.2) kvs (xs.map fun x => ([(Sum.inr x.1.1 : Key), Sum.inr x.2.1.1], x.2.2.1, x.2.2.2)))
    (nd : (xs.map fun x => (x.1.1, x.2.1.1)).Nodup) : zl9 P w K a kvs := by
  refine ⟨hs, _, hk, fun h X => ⟨_, _, _, X _ _ hl, ⟨rfl, rfl, rfl⟩, rfl, ?_, ?_, ?_⟩⟩
  . rw [List.map_map]; rfl
  . intro y hy; obtain ⟨x, hx, rfl⟩ := List.mem_map.mp hy; exact ⟨_, _, _, X _ _ (ht x hx), rfl, rfl, .cons (zb9 x.1.1 x.1.2) (.cons (zb9 x.2.1.1 x.2.1.2) .nil)⟩
  . rw [List.map_map]; have e : (xs.map ((fun y : List Key × Addr × Value => y.1) ∘ fun x => ([(Sum.inr x.1.1 : Key), Sum.inr x.2.1.1], x.2.2.1, x.2.2.2))) = (xs.map fun x => (x.1.1, x.2.1.1)).map fun p => [(Sum.inr p.1 : Key), Sum.inr p.2] := by rw [List.map_map]; rfl
    rw [e]; refine List.pairwise_map.mpr (List.Pairwise.imp (fun {p q} h h' => h ?_) nd); injection h' with h1 h2
    injection h2 with h2 _
    exact Prod.ext (Sum.inr.inj h1) (Sum.inr.inj h2)
end L2
set_option Elab.async false
set_option linter.all false
set_option maxRecDepth 100000
namespace L2
open PySem PySem.Spec PyProof.Rows PySem.Builtin
def tF (tv : TE) : TE := fun σ H Q => tv σ H fun x H1 => ∃ t : Str, x = .str t /\ t.length <= sizeLine /\ Q (.str t) H1
def tFr (tv : TE) : TE := fun σ H Q => tv σ H fun x H1 => ∃ t : Str, x = .str t /\ (reprText t).length <= sizeLine /\ Q (.str (reprText t)) H1
def zhd : List TE -> Str -> TE
  | [], out => fun _ H Q => out.length <= sizeLine /\ Q (.str out) H
  | t :: r, out => fun σ H Q => t σ H fun x H1 => ∃ y : Str, x = .str y /\ (out ++ y).length <= sizeLine /\ zhd r (out ++ y) σ H1 Q
inductive PFs (X : Cx) : List Expr -> List TE -> Prop
  | nil : PFs X [] []
  | cons {e : Expr} {t : TE} {es : List Expr} {ts : List TE} : PE X e t -> PFs X es ts -> PFs X (e :: es) (t :: ts)
section
variable {X : Cx} {e v₁ v₂ : Expr} {es : List Expr} {ts : List TE} {tv : TE} {pos : Pos}
theorem ziJ (h : PE X e tv) : PE X (.FormattedValue e (-1) none pos) (tF tv) := by
  intro pins s σ H Q I hq; refine wpAny_FormattedValue_plain (thn (h pins s σ H _ I hq) fun u s1 ⟨x, H1, I1, r, t, ex, hz, q⟩ => ?_); subst ex; obtain ⟨tk, rfl⟩ := r; exact formatField_str (fun t' tk' => ⟨.str t, H1, I1.tok tk', ⟨t', rfl⟩, q⟩) hz
theorem zel (h : PE X e tv) : PE X (.FormattedValue e 114 none pos) (tFr tv) := by
  intro pins s σ H Q I hq; refine wpAny_FormattedValue_repr (thn (h pins s σ H _ I hq) fun u s1 ⟨x, H1, I1, r, t, ex, hz, q⟩ => ?_); subst ex; obtain ⟨tk, rfl⟩ := r; refine wpAny_pyReprObj_str ?_ hz; exact formatField_str (fun t' tk' => ⟨.str (reprText t), H1, I1.tok tk', ⟨t', rfl⟩, q⟩) hz
theorem zkR {pins : List (Addr × Obj)} {σ : St} {Q : VK} : ∀ {es : List Expr} {ts : List TE}, PFs X es ts -> ∀ {out : Str} {s : Shared} {H : Hp}, Inv X pins σ H s -> zhd ts out σ H Q -> wpAny (model X.prog X.w) X.A (joinParts out (evalEach es X.env)) (EP X pins σ Q) X.xe s
  | _, _, .nil, out, s, H, I, ⟨hz, q⟩ => joinParts_nilE (joinParts_nil ⟨.str out, H, I.tok _, ⟨_, rfl⟩, q⟩ hz)
  | _, _, .cons he hr, out, s, H, I, hq => by
    refine joinParts_consE (joinParts_cons (thn (he pins s σ H _ I hq) fun u s1 ⟨x, H1, I1, r, y, ex, hz, q⟩ => ?_)); subst ex; obtain ⟨tk, rfl⟩ := r; exact ⟨hz, zkR hr I1 q⟩
theorem zdR (h : PFs X (v₁ :: v₂ :: es) ts) : PE X (.JoinedStr (v₁ :: v₂ :: es) pos) (zhd ts Str.empty) := by
  intro pins s σ H Q I hq; rw [arm_eval_JoinedStr]; show wpAny _ _ (joinParts Str.empty (evalEach (v₁ :: v₂ :: es) X.env)) _ _ _; exact zkR h I hq
end
end L2
set_option Elab.async false
set_option linter.all false
set_option maxRecDepth 100000
namespace L2
open PySem PySem.Spec PyProof.Rows
structure FnX (P : Program) (w : World) (K : PySem.W.Frag) (mg : Str -> Option Value) (base : Heap) (x : Str) (k : Nat) (sp : Sp) : Prop where
  ex : ∃ (f : Addr) (fd : FuncData) (ps : List Str), FnOk P w K mg base (CX1 P w) k f fd ps sp /\ mg x = some (.ref f) /\ PySem.W.keepIn K (.ref f) = true /\ Binds K fd ps []
theorem FnX.mk' {P : Program} {w : World} {K : PySem.W.Frag} {mg : Str -> Option Value} {base : Heap} {x : Str} {k : Nat} {sp : Sp} {f : Addr} {fd : FuncData} {ps : List Str} (ok : FnOk P w K mg base (CX1 P w) k f fd ps sp) (m : mg x = some (.ref f))
    (kp : PySem.W.keepIn K (.ref f) = true) (b : Binds K fd ps []) : FnX P w K mg base x k sp := ⟨f, fd, ps, ok, m, kp, b⟩
theorem Fn.x {P : Program} {w : World} {K : PySem.W.Frag} {mg : Str -> Option Value} {base : Heap} {x : Str} {k : Nat} {sp : Sp} (G : Fn P w K mg base x k sp) : FnX P w K mg base x k sp :=
  let ⟨f, fd, ps, ok, m, kp, b⟩ := G.ex; ⟨f, fd, ps, ok.calm, m, kp, b⟩
section
variable {X : Cx} {x : Str} {p pos : Pos} {e : Expr} {es : List Expr} {t : TA} {k j : Nat} {sp : Sp} {E : XK}
theorem zai (G : FnX X.prog X.w X.K X.mg X.base x j sp) (hx : zc2 (CX1 X.prog X.w) X E) (hr : Room k X.A) (hg : Gl X x) (ha : PA X (e :: es) t) (hj : j <= k := by decide) (hdb : (x == ("__debug__" : Str)) = false := by decide)
    (he : starEach (e :: es) X.env = (false, eval e X.env) :: starEach es X.env := by rfl) (hpl : (backTo pos (starEach es X.env)).any (·.1) = false := by rfl) : PE X (.Call (.Name x p) (e :: es) [] pos) (zkU sp [] E t) := by
  obtain ⟨f, fd, ps, F, hm, hk, hb⟩ := G.ex; exact zkg F (hr.mono hj) hg hm hk hb .nil hx ha hdb he hpl
theorem zaD : zc2 (CX1 X.prog X.w) X E0 := fun _ _ _ _ _ _ _ h => by
  obtain ⟨_, _, _, _, _, _, _, _, _, _, _, _, q⟩ := h; exact False.elim q
theorem zaN (O : Own X) : zc2 (CX1 X.prog X.w) (X.wish (XQ X E)) E := zhF (X := X.wish (XQ X E)) (F := fun _ _ => True) O.wish fun _ _ h => h.unwish
end
section
variable {P : Program} {w : World} {K : PySem.W.Frag} {mg : Str -> Option Value} {base : Heap}
end
end L2
set_option Elab.async false
set_option linter.all false
set_option maxRecDepth 100000
namespace HT
open PySem PySem.Spec PyProof.Rows
section
variable {prog : Program} {w : World} {A : Around} {E : Value -> Shared -> Prop} {s : Shared}
theorem getItem_tuple_all {t sl : Addr} {items : Array Value} {vl vu : Value} {lo hi : Option Int} {Q : Value -> Shared -> Prop} (ht : IsTup s.heap t items) (hs : s.heap.IsSliceOf sl vl vu .none) (pl : IsPart vl lo) (pu : IsPart vu hi)
    (hw : sIx items.size 0 lo = 0 /\ sIx items.size items.size hi = items.size) (h : Q (.ref t) s) (hsz : items.size <= sizeLine) : wpAny (model prog w) A (getItem (.ref t) (.ref sl)) Q E s := by
  obtain ⟨os, hos, hcs, hds⟩ := id hs; have hTs : s.TypeIs (.ref sl) "slice" := ⟨os, hos, hcs⟩; unfold getItem; refine wpAny_holding ?_; refine wpAny_bind (wpAny_sequenceKey ht.typeIs (by decide) ?_)
  refine wpAny_bind (wpAny_callSpecial?_slot (name := Str.ofString "__getitem__") ht.typeIs PyProof.Rows.slot_tuple_getitem
    (wpAny_call_entry PyProof.Rows.slot_tuple_getitem ht.typeIs entry_tuple_getitem ?_ (args_tuple_getitem _ _)))
  show wpAny _ _ (Builtin.Tuple.tupleItemsOf (.ref t) >>= _) _ _ s; refine wpAny_bind (tupleItemsOf_ ht ?_); refine wpAny_bind (wpAny_typeOf hTs ?_); rw [if_pos (by decide)]
  refine wpAny_bind (zb1 hs pl pu ?_); have hyes : (((sIx items.size 0 lo : Nat) : Int) == 0 && (1 : Int) == 1 && (sIx items.size items.size hi - sIx items.size 0 lo) == items.size) = true := by rw [hw.1, hw.2]; simp
  show wpAny _ _ (if (((sIx items.size 0 lo : Nat) : Int) == 0 && (1 : Int) == 1 && (sIx items.size items.size hi - sIx items.size 0 lo) == items.size) = true then _ else _) _ _ s; rw [if_pos hyes]; refine wpAny_bind (m := Builtin.Tuple.tupleIsExact _) ?_; unfold Builtin.Tuple.tupleIsExact; refine wpAny_bind (wpAny_typeOf ht.typeIs ?_); refine wpAny_pure ?_; rw [if_pos (by decide)]
  exact wpAny_bind (wpAny_rule (wpAny_pure ⟨_, rfl, wpAny_pure h⟩))
end
end HT
namespace L2
open PySem PySem.Spec PyProof.Rows
def zmG (K : PySem.W.Frag) : V -> Option Int -> Option Int -> Hp -> VK -> Prop := fun x lo hi H Q => ∃ a xs, x = .ref a /\ SqT K H a xs ∧
  ((HT.sIx xs.length 0 lo = 0 /\ HT.sIx xs.length xs.length hi = xs.length /\ Q (.ref a) H) \/ (¬ (HT.sIx xs.length 0 lo = 0 /\ HT.sIx xs.length xs.length hi = xs.length) /\ ∀ p, H p = none -> Q (.ref p) (upd H p (.tup (zdS xs lo hi)))))
theorem zkA {X : Cx} : SlR X (zmG X.K) := by
  intro pins s σ H x v vl vu lo hi sl Q I rx hs pl pu h; obtain ⟨a, xs, rfl, hx, h⟩ := h
  rcases h with ⟨h1, h2, q⟩ | ⟨hw, q⟩
  . cases rx; obtain ⟨its, r, ht, hz⟩ := I.tuple hx; have hlen : its.toArray.size = xs.length := by rw [List.size_toArray]; exact r.length.symm
    refine ⟨"tuple", _, PyProof.Rows.slot_tuple_getitem.lookup, ht.typeIs, ?_⟩; exact HT.getItem_tuple_all ht hs pl pu (by rw [hlen]; exact ⟨h1, h2⟩) ⟨.ref a, H, I, rfl, q⟩ (by rw [hlen]; exact hz)
  . exact zlF pins s σ H _ v vl vu lo hi sl Q I rx hs pl pu ⟨a, xs, rfl, hx, hw, q⟩
end L2
set_option Elab.async false
set_option linter.all false
set_option maxRecDepth 100000
namespace L2
open PySem PySem.Spec PyProof.Rows
section
variable {X : Cx} {pins : List (Addr × Obj)} {σ : St} {H : Hp} {s : Shared}
end
section
variable {X : Cx}
end
structure S1 (X : Cx) (st : Stmt) (t : TS) : Prop where
  out : PS X st t
structure SSs (X : Cx) (st : List Stmt) (t : TS) : Prop where
  out : PSs X st t
section
variable {X : Cx} {pos : Pos}
theorem zdr {st : Stmt} {rest : List Stmt} {t u : TS} (h1 : S1 X st t) (h2 : SSs X rest u) : SSs X (st :: rest) (zm7 t u) := ⟨zad h1.out h2.out⟩
theorem zkD {st : Stmt} {t : TS} (h1 : S1 X st t) : SSs X [st] t := ⟨zae h1.out⟩
end
end L2
set_option Elab.async false
set_option linter.all false
set_option maxRecDepth 100000
namespace L2
open PySem PySem.Spec PyProof.Rows
open PySem.SeqAt (noMix noMixAll)
section
variable {X : Cx}
theorem zh3 : ∀ {bs : List Bool} {us : List Value}, Vals (bs.map V.bl) us -> us = bs.map Value.bool
  | [], us, r => by cases r; rfl
  | b :: bs, us, r => by
    cases r with
    | cons r1 r2 =>
      rw [show _ = Value.bool b from r1, zh3 r2]
      rfl
theorem ziz (hc : X.calm = true) : zbF X (.builtin "any") (fun xs H Q => ∃ (p : Addr) (bs : List Bool), xs = [.ref p] /\ SqL X.K H p (bs.map V.bl) /\ Q (.bl (bs.any id)) H) := by
  intro pins s σ H xs us Q I r h; obtain ⟨p, bs, rfl, hq, q⟩ := h; obtain ⟨u, rfl, ru⟩ := zcm r
  cases (show u = Value.ref p from ru)
  obtain ⟨its, rv, pl, hz⟩ := I.list hq; have hl := pl.isList; have hb := zh3 rv; subst hb; have hlt : p < s.heap.objs.size := by obtain ⟨_, e, _⟩ := hl; exact Heap.lt_size e
  refine call_any_walk (wpAny_pyIter_list hl ?_)
  refine ⟨s.heap.objs.size, [s.heap.objs.size, p], [s.heap.objs.size], (bs.map Value.bool).toArray.size, _, _, fun i => (bs[i]?).getD false, rfl, Walks.list (A := X.A.in1) (I.ok.hd hc) _ p (Nat.ne_of_lt hlt) (bs.map Value.bool).toArray,
    ⟨⟨_, Heap.get?_push_size _ rfl, rfl, rfl⟩, hl.push _⟩, fun i v s' Q' E' hP hQ => ?_, fun h' tk hk => ?_⟩
  . have hP' : (bs.map Value.bool)[i]? = some v := by simpa using hP
    rw [List.getElem?_map] at hP'; obtain ⟨b, e, rfl⟩ := Option.map_eq_some_iff.mp hP'; simp only [e, Option.getD_some] at hQ; exact wpAny_truthy_bool hQ
  . have e : ((List.range (bs.map Value.bool).toArray.size).any fun i => (bs[i]?).getD false) = bs.any id := by
      rw [List.size_toArray, List.length_map]; exact LSm.range_any bs
    rw [e]; exact ⟨.bl (bs.any id), H, I.kept (t' := tk) (LSm.kept_iter hk), rfl, q⟩
theorem zdp : zbF X (.builtin "sorted") (fun xs H Q => ∃ (p : Addr) (ns : List Int), xs = [.ref p] /\ SqL X.K H p (ns.map V.int) /\ ns.length < 64 ∧
    ∀ (l : Addr) (ns' : List Int), H l = none -> ns'.Perm ns -> ns'.Pairwise (· <= ·) -> Q (.ref l) (upd H l (.lst (ns'.map V.int)))) := by
  intro pins s σ H xs us Q I r h; obtain ⟨p, ns, rfl, hq, h64, q⟩ := h; obtain ⟨u, rfl, ru⟩ := zcm r
  cases (show u = Value.ref p from ru)
  obtain ⟨its, rv, pl, hz⟩ := I.list hq; have hi : IntsAre its ns := zej rv; have hlen : its.length = ns.length := by have := rv.length; rw [List.length_map] at this; omega
  have hsz : sizeLine = 16777216 := sizeLine_eq; refine sorted_ints pl.isList hi (by omega) fun out ns' a1 a2 a3 => ?_
  obtain ⟨e, he⟩ := sortedAll_at s.heap its out; refine ⟨.ref _, _, I.laid (a := s.heap.objs.size + 1) (t' := s.toks) (fun b o e => sortedAll_old e) (Nat.le_succ _) (show ObjOk X.prog X.w _ _ _ (.lst (ns'.map V.int)) from ⟨?_, out.toList, e, zdV a1, ?_⟩), rfl, q _ ns' (I.hok.fresh (Nat.le_succ _)) a2 a3⟩
  . rw [List.length_map, a2.length_eq]; omega
  . rw [he]
theorem zhR : ∀ {xs : List V} {us : List Value}, xs.length = us.length -> (∀ (i : Nat) x y, xs[i]? = some x -> us[i]? = some y -> RelV x y) -> Vals xs us
  | [], [], _, _ => .nil
  | [], _ :: _, h, _ => by simp at h
  | _ :: _, [], h, _ => by simp at h
  | x :: xs, u :: us, h, f => .cons (f 0 x u rfl rfl) (zhR (by simpa using h) fun i y z hy hz => f (i + 1) y z (by simpa using hy) (by simpa using hz))
theorem zf9 : zbF X (.type "range") (fun xs H Q => ∃ n : Int, xs = [.int n] /\ ∀ l, H l = none -> Q (.ref l) (upd H l (.rng 0 n))) := by
  intro pins s σ H xs us Q I r h; obtain ⟨n, rfl, q⟩ := h; obtain ⟨u, rfl, t, rfl⟩ := zcm r; refine call_range_1 ?_; exact ⟨.ref _, _, I.laid (a := s.heap.objs.size) (t' := s.toks + 1 + 1) (fun b o e => Heap.get?_push_of_some _ e) (Nat.le_refl _) (show ObjOk X.prog X.w _ _ _ (.rng 0 n) from ⟨_, _, _, Heap.get?_push_size _ rfl⟩), rfl, q _ (I.hok.fresh (Nat.le_refl _))⟩
theorem zgT (hc : X.calm = true) : zbF X (.type "list") (fun xs H Q => ∃ (p : Addr) (n : Int), xs = [.ref p] /\ H p = some (.rng 0 n) /\ 0 <= n /\ n <= 1000000 /\ ∀ l, H l = none -> Q (.ref l) (upd H l (.lst ((zap 0 n.toNat).map V.int)))) := by
  intro pins s σ H xs us Q I r h; obtain ⟨p, n, rfl, hp, h0, h1, q⟩ := h; obtain ⟨u, rfl, ru⟩ := zcm r
  cases (show u = Value.ref p from ru)
  have hsz : sizeLine = 16777216 := sizeLine_eq; obtain ⟨t, u, v, e⟩ := (show ObjOk X.prog X.w H s.heap p (.rng 0 n) from I.hok p _ hp); have hr : Builtin.Range.rangeSize 0 n 1 = ((n.toNat : Nat) : Int) := by rw [rangeSize_one]; split <;> omega
  refine call_list_range (I.ok.hd hc) e (small_one (by omega) (by omega) (by omega) (by omega)) hr (by omega) fun h' tk acc' c' kp eL hI => ?_
  have hv : Vals ((zap 0 n.toNat).map V.int) acc'.toList := by
    obtain ⟨hs, ha⟩ := hI; refine zhR (by rw [List.length_map]; simp [zap, hs]) fun i x y hx hy => ?_
    rw [List.getElem?_map] at hx; obtain ⟨z, hz, rfl⟩ := Option.map_eq_some_iff.mp hx
    have hi : i < n.toNat := by
      have := (List.getElem?_eq_some_iff.mp hz).1
      simpa [zap] using this
    obtain ⟨t, e⟩ := ha i y (by simpa using hy)
    have hz' : z = 0 + (i : Int) := by
      have : (zap 0 n.toNat)[i]? = some (0 + (i : Int)) := by simp [zap, hi]
      rw [hz] at this; exact Option.some.inj this
    exact ⟨t, by rw [e, hz', Int.mul_one]⟩
  exact ⟨.ref _, _, I.laid (a := s.heap.objs.size) (t' := tk) kp (Nat.le_refl _) (show ObjOk X.prog X.w _ _ _ (.lst ((zap 0 n.toNat).map V.int)) from ⟨by rw [List.length_map]; simp [zap]; omega, acc'.toList, c', hv, by rw [eL]⟩), rfl, q _ (I.hok.fresh (Nat.le_refl _))⟩
end
section
variable {X : Cx} {pins : List (Addr × Obj)} {σ : St} {H : Hp} {s : Shared} {h' : Heap}
theorem Inv.turned2 {t' : Nat} {i1 i2 a : Addr} {ob : HO} (I : Inv X pins σ H s) (k : ∀ b o, b ≠ i1 -> b ≠ i2 -> s.heap.get? b = some o -> h'.get? b = some o) (f1 : zcu X pins H i1) (f2 : zcu X pins H i2)
    (hp : s.heap.objs.size <= a) (new : ObjOk X.prog X.w (upd H a ob) h' a ob) : Inv X pins σ (upd H a ob) { s with heap := h', toks := t' } := by
  have kk : ∀ b o, b ∉ [i1, i2] -> s.heap.get? b = some o -> h'.get? b = some o := fun b o hc e => k b o (fun z => hc (by simp [z])) (fun z => hc (by simp [z])) e
  have nit : ∀ b u, H b = some u -> b ∉ [i1, i2] := fun b u e z => by
    rcases List.mem_cons.mp z with z | z
    . rw [z, f1.1] at e; cases e
    . rw [List.mem_singleton.mp z, f2.1] at e; cases e
  have hn := I.hok.fresh hp
  refine I.step (g' := s.gens) (d' := s.drawn) (ch := [i1, i2]) (fun b hb => ?_) (fun b o _ _ hc e _ => kk b o hc e) (fun b o _ _ hc e _ => ⟨o.slots, kk b o hc e⟩) (fun b o _ q n => by rw [zah (Nat.ne_of_lt (Nat.lt_of_lt_of_le (Heap.lt_size q) hp))]; exact n)
    (fun b o hc e => ⟨o, kk b o hc e⟩) (fun b xs q => by rw [zah (zaq q hn)]; exact q) (fun b o u q => by rw [zah (zaq q hn)]; exact q) (fun b ps q => ⟨#[], by rw [zah (zaq q hn), q]; simp⟩) (fun m hm => ?_) (fun b u e => ?_) I.bare
  . rcases List.mem_cons.mp hb with rfl | hb
    . exact ⟨f1.2.2.2.1, f1.2.1, f1.2.2.2.2.1, f1.2.2.2.2.2⟩
    . rw [List.mem_singleton.mp hb]; exact ⟨f2.2.2.2.1, f2.2.1, f2.2.2.2.2.1, f2.2.2.2.2.2⟩
  . obtain ⟨o, es, ep, ho, r⟩ := hm; exact ⟨o, es, ep, k _ o (Ne.symm f1.2.1) (Ne.symm f2.2.1) ho, r⟩
  . by_cases hb : b = a
    . subst hb; rw [zab] at e; cases e; exact new
    . rw [zah hb] at e; refine (I.hok b u e).stay (fun c v hc q => kk c v ?_ q) (fun c q => by rw [zah (zaq q hn)]; exact q) fun c xs q => by rw [zah (zaq q hn)]; exact q
      rcases hc with z | z
      . rw [z]; exact nit b u e
      . exact nit c _ z
end
def Ite (K : PySem.W.Frag) (a : Addr) : It :=
  ⟨fun i H => ∃ xs x, SqL K H a xs /\ xs[i]? = some x, fun i H x H' => ∃ t, x = .ref t /\ H t = none /\ ∀ xs y, SqL K H a xs -> xs[i]? = some y -> H' = upd H t (.tup [.int i, y]), fun i H => ∃ xs, SqL K H a xs /\ xs.length <= i⟩
theorem zh6 {P : Program} {w : World} {K : PySem.W.Frag} {elts : List Expr} {x1 : Nat} {tpos : Pos} (a e it : Addr) (hei : e ≠ it) : ze6 P w K (.Tuple elts x1 tpos) (Ite K a) [e, it] e (fun i h => (∃ old, IsEnum h e it ((i : Nat) : Int) old) /\ h.IsListIter it a i) where
  mem := by simp
  obj := fun i h ⟨⟨old, he⟩, st⟩ b hb => by
    rcases List.mem_cons.mp hb with rfl | hb
    . exact ⟨_, he, fun v z => by cases (show Data.fields _ = Data.cell v from z)⟩
    . rw [List.mem_singleton.mp hb]; obtain ⟨o, e, c, d⟩ := st; exact ⟨o, e, fun v z => by rw [d] at z; cases z⟩
  keep := fun i h h' ⟨⟨old, he⟩, st⟩ k => ⟨⟨old, k e (by simp) _ he⟩, st.at fun o q => k it (by simp) o q⟩
  item := by
    intro X hP hw hK hc i pins s σ H E I hf st hg; subst hP hw hK; obtain ⟨⟨old, he⟩, st⟩ := st; obtain ⟨xs, x, hq, hx⟩ := hg; obtain ⟨its, rv, p, hz⟩ := I.list hq; obtain ⟨u, hu, ru⟩ := rv.get hx; have g1 := hf e (by simp)
    have g2 := hf it (by simp)
    have hsz : sizeLine = 16777216 := sizeLine_eq; refine wpAny_pyNext_enum_item he st p.isList (x := u) (by simpa using hu) hei fun h' heo hit' ht' hz' k' => ?_
    refine ⟨_, rfl, wpAny_letOwnedTupleGo_enum heo fun h2 he2 hs2 => ?_⟩; have hlt : e < s.heap.objs.size := Heap.lt_size he; have k2 : ∀ b o, b ≠ e -> b ≠ it -> s.heap.get? b = some o -> h2.get? b = some o := fun b o b1 b2 q => hs2.extBut b o b1 (k' b o b1 b2 q); have ht2 : h2.get? s.heap.objs.size = some { cls := .type "tuple", data := .seq #[.int i s.toks, u] } := hs2.extBut _ _ (Nat.ne_of_gt hlt) ht'; have hfr := I.hok.fresh (Nat.le_refl s.heap.objs.size)
    have I2 : Inv X pins σ (upd H s.heap.objs.size (.tup [.int i, x])) { s with heap := h2, toks := s.toks + 1 } :=
      I.turned2 k2 g1 g2 (Nat.le_refl _) (show ObjOk X.prog X.w _ h2 _ (.tup [.int i, x]) from ⟨by show 2 <= sizeLine; omega, [.int i s.toks, u], .cons ⟨_, rfl⟩ (.cons ru .nil), ⟨_, ht2, rfl, _, rfl⟩⟩)
    have hcast : ((i + 1 : Nat) : Int) = (i : Int) + 1 := by push_cast; rfl
    refine ⟨.ref s.heap.objs.size, _, I2, rfl, ⟨_, rfl, hfr, fun ys y hy hyi => ?_⟩, ⟨⟨u, hcast ▸ he2⟩, hit'.extBut hs2.extBut (Ne.symm hei)⟩, fun b hb => ?_⟩
    . rw [I.list_inj hy hq, hx] at hyi; rw [Option.some.inj hyi]
    . have hb' : b < s.heap.objs.size := by
        rcases List.mem_cons.mp hb with rfl | hb
        . exact hlt
        . rw [List.mem_singleton.mp hb]; obtain ⟨o, q, _⟩ := st; exact Heap.lt_size q
      rw [zah (Nat.ne_of_lt hb')]; exact (hf b hb).1
  done := by
    intro X hP hw hK hc i pins s σ H E I hf st hg; subst hP hw hK; obtain ⟨⟨old, he⟩, st⟩ := st; obtain ⟨xs, hq, hx⟩ := hg; obtain ⟨its, rv, p, hz⟩ := I.list hq; obtain ⟨f0, f1, f2, f3, f4, f5⟩ := hf it (by simp)
    have hl := rv.length; exact wpAny_pyNext_enum_end (I.ok.hd hc) he st p.isList (by simp; omega) fun h' eb => ⟨rfl, I.turned (t' := s.toks) (fun b o hb e => eb b o hb e) f0 f1 f3 f4 f5⟩
  self := fun _ _ _ _ _ ⟨⟨_, he⟩, _⟩ h => wpAny_pyIter_enum he h
def zmr (K : PySem.W.Frag) (ta : TA) : TI := fun σ H R => ta σ H fun vs H1 => ∃ a, vs = [.ref a] /\ (∃ xs, SqL K H1 a xs) /\ R (Ite K a) H1
section
variable {X : Cx}
theorem zhS {a : Expr} {ta : TA} {p pos tpos : Pos} {elts : List Expr} {x1 : Nat} (hg : Gl X "enumerate") (hm : X.mg "enumerate" = none) (ha : PA X [a] ta) (hs : starEach [a] X.env = [(false, eval a X.env)] := by rfl) :
    PI X (.Tuple elts x1 tpos) (.Call (.Name "enumerate" p) [a] [] pos) (zmr X.K ta) := by
  intro pins s σ H R I h; refine Call_ (zc8 I hg hm boot_enumerate (PyProof.Rows.callWith_type1 (thn (ha pos pins s σ H _ I h) fun us s1 ⟨vs, H1, I1, r1, q1⟩ => ?_) hs rfl)); obtain ⟨l, e, ⟨xs, hq⟩, q⟩ := q1; subst e
  cases r1 with
  | cons r rr =>
    cases rr; cases r; obtain ⟨its, rv, pl, hz⟩ := I1.list hq; refine call_enumerate_list pl.isList fun h' he hit hsz kp => ?_; refine wpAny_pyIter_enum (s := { s1 with heap := h' }) he ⟨s1.heap.objs.size + 1, [s1.heap.objs.size + 1, s1.heap.objs.size], _, _, H1, rfl, I1.kept (t' := s1.toks) kp, zh6 l _ _ (Nat.succ_ne_self _), ⟨⟨_, he⟩, hit⟩, fun b hb => ?_, q⟩
    rcases List.mem_cons.mp hb with rfl | hb
    . exact I1.fpOk (Nat.le_succ _) (I1.hok.fresh (Nat.le_succ _))
    . rw [List.mem_singleton.mp hb]; exact I1.fpOk (Nat.le_refl _) (I1.hok.fresh (Nat.le_refl _))
theorem zjC {K : PySem.W.Frag} {a : Addr} {xs : List V} {g : TG} {tb : TS} {D : zci} {σ : St} {H : Hp} (Pv : Nat -> St -> Hp -> Prop) (h0 : Pv 0 σ H) (hl : ∀ i σ H, i <= xs.length -> Pv i σ H -> SqL K H a xs)
    (hs : ∀ i x t σ H, xs[i]? = some x -> Pv i σ H -> H t = none -> g (.ref t) σ (upd H t (.tup [.int i, x])) fun σ2 H2 => tb { D with nx := Pv (i + 1), ct := Pv (i + 1), bk := D.nx } σ2 H2) (hd : ∀ σ H, Pv xs.length σ H -> D.nx σ H) :
    ∃ W : Nat -> Nat -> St -> Hp -> Prop, (∃ m, W 0 m σ H) /\ ∀ i m σ H, W i m σ H →
      ((Ite K a).stop i H /\ D.nx σ H) \/ ((Ite K a).go i H /\ ∃ N : St -> Hp -> Prop, (∀ σ' H', N σ' H' -> ∃ m', m' < m /\ W (i + 1) m' σ' H') /\ ∀ x H', (Ite K a).yld i H x H' -> g x σ H' fun σ2 H2 => tb { D with nx := N, ct := N, bk := D.nx } σ2 H2) := by
  refine ⟨fun i m σ H => m = xs.length - i /\ i <= xs.length /\ Pv i σ H, ⟨xs.length, by simp, Nat.zero_le _, h0⟩, ?_⟩
  rintro i m σ H ⟨rfl, hi, p⟩; have hq := hl i σ H hi p
  by_cases hlt : i < xs.length
  . refine .inr ⟨⟨xs, xs[i], hq, List.getElem?_eq_getElem hlt⟩, fun σ' H' => Pv (i + 1) σ' H', fun σ' H' p' => ⟨xs.length - (i + 1), by omega, rfl, by omega, p'⟩, ?_⟩
    rintro x H' ⟨t, rfl, ht, hH⟩; rw [hH xs _ hq (List.getElem?_eq_getElem hlt)]; exact hs i _ t σ H (List.getElem?_eq_getElem hlt) p ht
  . have e : i = xs.length := by omega
    subst e; exact .inl ⟨⟨xs, hq, Nat.le_refl _⟩, hd σ H p⟩
end
section
variable {X : Cx}
end
theorem zin {lo : Int} {n : Nat} {idx : List Nat} {te : TE} {σ : St} {H : Hp} {Q : VK} (Iv : Addr -> Nat -> List V -> Hp -> Prop) (hl : n <= sizeLine)
    (h0 : ∀ D, H D = none -> Iv D 0 [] (upd H D (.lst []))) (hD : ∀ D i ys H', Iv D i ys H' -> H' D = some (.lst ys) /\ ys.length = i)
    (he : ∀ D i ys H' (R : VK), H D = none -> i < n -> Iv D i ys H' -> (∀ v H4, H4 D = some (.lst ys) -> Iv D (i + 1) (ys ++ [v]) (upd H4 D (.lst (ys ++ [v]))) -> R v H4) -> te (some (.int (lo + (i : Nat))) :: cap σ idx) H' R)
    (hQ : ∀ D ys H', H D = none -> Iv D n ys H' -> Q (.ref D) H') : LCW idx (Itr lo n) (zbg 0) zhX te Q σ H := by
  intro D hn; refine ⟨fun i m ys ρ H' => m = n - i /\ i <= n /\ (∃ y0, ρ = y0 :: cap σ idx) /\ Iv D i ys H', ⟨n, by simp, Nat.zero_le _, ⟨none, rfl⟩, h0 D hn⟩, ?_⟩
  rintro i m ys ρ H' ⟨rfl, hi, ⟨y0, rfl⟩, hv⟩; obtain ⟨d1, d2⟩ := hD D i ys H' hv; refine ⟨d1, ?_⟩
  by_cases hlt : i < n
  . refine .inr ⟨hlt, by omega, fun x H2 y => ?_⟩
    obtain ⟨e, y⟩ := y; subst e y; show te (some (.int (lo + i)) :: cap σ idx) H2 _; exact he D i ys H2 _ hn hlt hv fun v H4 h1 h2 => ⟨h1, n - (i + 1), by omega, rfl, hlt, ⟨_, rfl⟩, h2⟩
  . have e : i = n := by omega
    subst e; exact .inl ⟨Nat.le_refl _, hQ D ys H' hn hv⟩
section
variable {X : Cx}
end
theorem zji {K : PySem.W.Frag} {a : Addr} {xs : List V} {idx : List Nat} {te : TE} {σ : St} {H : Hp} {Q : VK} (Iv : Addr -> Nat -> List V -> Hp -> Prop) (hl : xs.length <= sizeLine)
    (h0 : ∀ D, H D = none -> Iv D 0 [] (upd H D (.lst []))) (hD : ∀ D i ys H', Iv D i ys H' -> H' D = some (.lst ys) /\ ys.length = i /\ SqL K H' a xs)
    (he : ∀ D (i : Nat) x ys H' (R : VK), H D = none -> xs[i]? = some x -> Iv D i ys H' -> (∀ v H4, H4 D = some (.lst ys) -> Iv D (i + 1) (ys ++ [v]) (upd H4 D (.lst (ys ++ [v]))) -> R v H4) -> te (some x :: cap σ idx) H' R)
    (hQ : ∀ D ys H', H D = none -> Iv D xs.length ys H' -> Q (.ref D) H') : LCW idx (Itl K a) (zbg 0) zhX te Q σ H := by
  intro D hn; refine ⟨fun i m ys ρ H' => m = xs.length - i /\ i <= xs.length /\ (∃ y0, ρ = y0 :: cap σ idx) /\ Iv D i ys H', ⟨xs.length, by simp, Nat.zero_le _, ⟨none, rfl⟩, h0 D hn⟩, ?_⟩
  rintro i m ys ρ H' ⟨rfl, hi, ⟨y0, rfl⟩, hv⟩; obtain ⟨d1, d2, d3⟩ := hD D i ys H' hv; refine ⟨d1, ?_⟩
  by_cases hlt : i < xs.length
  . refine .inr ⟨⟨xs, xs[i], d3, List.getElem?_eq_getElem hlt⟩, by omega, fun x H2 y => ?_⟩
    obtain ⟨e, y⟩ := y; subst e; exact he D i x ys H2 _ hn (y xs d3) hv fun v H4 h1 h2 => ⟨h1, xs.length - (i + 1), by omega, rfl, hlt, ⟨_, rfl⟩, h2⟩
  . have e : i = xs.length := by omega
    subst e; exact .inl ⟨⟨xs, d3, Nat.le_refl _⟩, hQ D ys H' hn hv⟩
end L2
set_option Elab.async false
set_option linter.all false
set_option maxRecDepth 100000
namespace L2
open PySem PySem.Spec PyProof.Rows PySem.W
section
variable {N : Nat} (h0 : 0 < N)
include h0
end
section
variable {prog : Program} {w : World} {A : Around} {E : Value -> Shared -> Prop} {s : Shared}
end
section
variable {X : Cx}
end
end L2
set_option Elab.async false
set_option linter.all false
set_option maxRecDepth 100000
set_option maxHeartbeats 4000000
namespace L2
open PySem PySem.Spec PyProof.Rows
section
variable {prog : Program} {w : World} {A : Around} {E : Value -> Shared -> Prop} {s : Shared}
end
section
variable {X : Cx} {e : Expr} {ta : TA} {p1 p2 c1 c2 : Pos}
end
end L2
set_option Elab.async false
set_option linter.all false
set_option maxRecDepth 100000
set_option maxHeartbeats 4000000
namespace L2
open PySem PySem.Spec PyProof.Rows
structure EK (prog : Program) (w : World) (K : Type) [DecidableEq K] where
  is : Heap -> K -> Value -> Prop
  hash : K -> Int
  draws : K -> Nat
  inj : ∀ {h : Heap} {v : Value} {x y : K}, is h x v -> is h y v -> x = y
  keeps : ∀ {h h' : Heap} {k : K} {v : Value} {d : Addr} {o : Obj} {es ep}, is h k v -> h.get? d = some o -> o.data = .dict es ep -> Heap.SameBut d h h' -> is h' k v
  pyHash : ∀ {A : Around} {E : Value -> Shared -> Prop} {s : Shared} {k : K} {v : Value} {Q : Int -> Shared -> Prop}, A.units + 80 < cLine -> is s.heap k v -> Q (hash k) { s with toks := s.toks + draws k } -> wpAny (model prog w) A (PySem.pyHash v) Q E s
  eqBool : ∀ {A : Around} {E : Value -> Shared -> Prop} {s : Shared} {x y : K} {v u : Value} {Q : Bool -> Shared -> Prop}, A.units + 80 < cLine -> is s.heap x v -> is s.heap y u -> Q (decide (x = y)) s -> wpAny (model prog w) A (PySem.eqBool v u) Q E s
  quiet : ∀ {A : Around} {E : Value -> Shared -> Prop} {s : Shared} {k : K} {v : Value} {Q : Bool -> Shared -> Prop}, is s.heap k v -> Q true s -> wpAny (model prog w) A (eqIsQuiet 7 v) Q E s
section
variable {prog : Program} {w : World} {K : Type} [DecidableEq K] (ek : EK prog w K)
inductive ItemsH (h : Heap) : List K -> List Value -> Prop
  | nil : ItemsH h [] []
  | cons {k : K} {v : Value} {ks : List K} {vs : List Value} : ek.is h k v -> ItemsH h ks vs -> ItemsH h (k :: ks) (v :: vs)
def IsNest (h : Heap) (ks : List K) (a : Addr) : Prop := ∃ o items n, h.get? a = some o /\ o.cls = .type "tuple" /\ o.data = .seq items n /\ ItemsH ek h ks items.toList
variable {ek}
theorem ItemsH.inj {h : Heap} {x y : List K} {vs : List Value} (hx : ItemsH ek h x vs) (hy : ItemsH ek h y vs) : x = y := by
  induction hx generalizing y with
  | nil => cases hy; rfl
  | cons h1 _ ih =>
    cases hy with
    | cons h2 t2 => rw [ek.inj h1 h2, ih t2]
theorem ItemsH.keeps {h h' : Heap} {x : List K} {vs : List Value} {d : Addr} {o : Obj} {es ep} (hx : ItemsH ek h x vs) (ho : h.get? d = some o) (hd : o.data = .dict es ep) (hs : Heap.SameBut d h h') : ItemsH ek h' x vs := by
  induction hx with
  | nil => exact .nil
  | cons h1 _ ih => exact .cons (ek.keeps h1 ho hd hs) ih
theorem IsNest.typeIs {s : Shared} {ks : List K} {a : Addr} (x : IsNest ek s.heap ks a) : s.TypeIs (.ref a) "tuple" := by
  obtain ⟨o, _, _, ho, hc, _⟩ := x; exact ⟨o, ho, hc⟩
theorem IsNest.inj {h : Heap} {a : Addr} {x y : List K} (hx : IsNest ek h x a) (hy : IsNest ek h y a) : x = y := by
  obtain ⟨o, items, n, ho, _, hd, hi⟩ := hx; obtain ⟨o', items', n', ho', _, hd', hi'⟩ := hy; rw [ho] at ho'; cases ho'; rw [hd] at hd'; cases hd'; exact hi.inj hi'
theorem IsNest.keeps {h h' : Heap} {ks : List K} {a d : Addr} {o : Obj} {es ep} (x : IsNest ek h ks a) (ho : h.get? d = some o) (hd : o.data = .dict es ep) (hs : Heap.SameBut d h h') : IsNest ek h' ks a := by
  obtain ⟨o', items, n, ho', hc, hd', hi⟩ := x
  have hne : a ≠ d := fun z => by
    rw [z, ho] at ho'; cases ho'; rw [hd] at hd'; exact nomatch hd'
  exact ⟨o', items, n, (hs.2 a hne).trans ho', hc, hd', hi.keeps ho hd hs⟩
def zeP (ek : EK prog w K) (ks : List K) : Int := reduceHash (Builtin.Tuple.tupleHashOf (ks.map ek.hash))
def zdI (ek : EK prog w K) (ks : List K) : Nat := (ks.map ek.draws).sum + 1
variable {A : Around} {E : Value -> Shared -> Prop} {s : Shared}
theorem zih {ks : List K} {a : Addr} {Q : Int -> Shared -> Prop} (hu : A.units + 90 < cLine) (hk : IsNest ek s.heap ks a) (h : Q (zeP ek ks) { s with toks := s.toks + zdI ek ks }) : wpAny (model prog w) A (pyHash (.ref a)) Q E s := by
  have hT := hk.typeIs; obtain ⟨o, items, n, ho, _, hd, hi⟩ := hk; unfold pyHash
  first | unfold pyHashByItsType | skip
  first | refine wpAny_bind (wpAny_cRoomFor_or (.inr (by omega)) ?_) | skip
  refine wpAny_bind (wpAny_specialOf hT F.slot_tuple_hash.lookup ?_); show wpAny _ _ (if (some (Value.builtin "tuple.__hash__") == some Value.none) = true then _ else _) Q E s; rw [if_neg (by rw [beq_builtin_none]; exact Bool.false_ne_true)]
  refine wpAny_bind (wpAny_specialOf hT F.slot_tuple_hash.lookup ?_); show wpAny _ _ (callSpecialIfBoundUnlessNone? (.ref a) "__hash__" _ >>= _) Q E s; refine wpAny_bind (wpAny_callSpecialIfBoundUnlessNone?_slot hT F.slot_tuple_hash (wpAny_call_entry F.slot_tuple_hash hT F.entry_tuple_hash ?_ (F.args_tuple_hash_1 _))); show wpAny _ _ (Builtin.Tuple.tupleItemsOf (.ref a) >>= _) _ _ s; refine wpAny_bind (wpAny_tupleItemsOf ho hd ?_); refine wpAny_bind ?_; rw [<- Array.forIn_toList]
  refine wpAny_forIn_list _
    (fun rest (b : Array Int) s' => ∃ done left, ks = done ++ left /\ ItemsH ek s.heap left rest /\ b.toList = done.map ek.hash /\ s' = { s with toks := s.toks + (done.map ek.draws).sum })
    _ ?_ ?_ _ _ ⟨[], ks, rfl, hi, rfl, rfl⟩
  . rintro x rest b s' ⟨done, left, rfl, hl, hb, rfl⟩
    cases hl with
    | @cons k _ ks' _ h1 hl' =>
      refine wpAny_bind (ek.pyHash ?_ h1 ?_)
      . show A.units + 1 + 80 < cLine; omega
      . first
          | exact wpAny_pure ⟨done ++ [k], ks', by simp, hl', by simp [hb], by simp [Nat.add_assoc]⟩
          | exact wpAny_bind (wpAny_pure (wpAny_pure ⟨done ++ [k], ks', by simp, hl', by simp [hb], by simp [Nat.add_assoc]⟩))
  . rintro b s' ⟨done, left, rfl, hl, hb, rfl⟩; cases hl; rw [List.append_nil] at h; show wpAny _ _ (retInt (Builtin.Tuple.tupleHashOf b.toList)) _ _ _; rw [hb]; refine wpAny_ret_mkInt ?_; show wpAny _ _ (if (decide (-(2 : Int) ^ 63 <= Builtin.Tuple.tupleHashOf (done.map ek.hash)) && decide (Builtin.Tuple.tupleHashOf (done.map ek.hash) < 2 ^ 63)) = true then _ else _) Q E _; unfold zeP zdI reduceHash at h
    by_cases hr : (decide (-(2 : Int) ^ 63 <= Builtin.Tuple.tupleHashOf (done.map ek.hash)) && decide (Builtin.Tuple.tupleHashOf (done.map ek.hash) < 2 ^ 63)) = true
    . rw [if_pos hr]; rw [if_pos hr] at h; exact wpAny_pure (by simpa [Nat.add_assoc] using h)
    . rw [if_neg hr]; rw [if_neg hr] at h; exact wpAny_bind (wpAny_rule (wpAny_pure (by simpa [Nat.add_assoc] using h)))
theorem zfE {x y : List K} {a b : Addr} {P : PySem.Fin -> Shared -> Prop} (hu : A.units + 80 < cLine) (hx : IsNest ek s.heap x a) (hy : IsNest ek s.heap y b) (h : P (.done (.ret (.bool (decide (x = y))))) s) :
    wpAny (model prog w) A (Builtin.«tuple.__eq__» ⟨[.ref a, .ref b], []⟩) P E s := by
  have hTb := hy.typeIs; obtain ⟨oa, xs, na, hoa, _, hda, hia⟩ := hx; obtain ⟨ob, ys, nb, hob, _, hdb, hib⟩ := hy; show wpAny _ _ (isInstance (.ref b) (.type "tuple") >>= _) _ _ s; refine wpAny_bind (wpAny_isInstance hTb isSubtype_tuple_tuple ?_); simp only [Bool.not_true, Bool.false_eq_true, if_false]; refine wpAny_bind (wpAny_tupleItemsOf hoa hda ?_); refine wpAny_bind (wpAny_tupleItemsOf hob hdb ?_); refine wpAny_bind ?_
  refine wpAny_forIn_list _
    (fun rest r s' => r.1 = none /\ s' = s /\ ∃ x' y' xs' ys', rest = List.zip xs' ys' /\ ItemsH ek s.heap x' xs' /\ ItemsH ek s.heap y' ys' /\ decide (x' = y') = decide (x = y) /\ (xs'.length == ys'.length) = (xs.size == ys.size))
    _ ?_ ?_ _ _ ⟨rfl, rfl, x, y, xs.toList, ys.toList, rfl, hia, hib, rfl, by simp⟩
  . rintro ⟨u, v⟩ rest r s' ⟨hr, rfl, x', y', xs', ys', hz, hx', hy', hdec, hlen⟩
    cases hx' with
    | nil => simp at hz
    | @cons k1 u' x'' xs'' h1 hx'' =>
      cases hy' with
      | nil => simp at hz
      | @cons k2 v' y'' ys'' h2 hy'' =>
        simp only [List.zip_cons_cons, List.cons.injEq, Prod.mk.injEq] at hz; obtain ⟨⟨rfl, rfl⟩, rfl⟩ := hz; refine wpAny_bind (ek.eqBool (x := k1) (y := k2) hu h1 h2 ?_)
        by_cases hk : k1 = k2
        . subst hk; rw [decide_eq_true rfl]; simp only [Bool.not_true, Bool.false_eq_true, if_false]; refine wpAny_pure ⟨rfl, rfl, x'', y'', xs'', ys'', rfl, hx'', hy'', ?_, by simpa using hlen⟩
          rw [<- hdec]
          by_cases hxy : x'' = y'' <;> simp [hxy]
        . rw [decide_eq_false hk]; simp only [Bool.not_false, if_true]; have hf : decide (x = y) = false := by rw [<- hdec]; simp [hk]
          rw [hf] at h; exact wpAny_bind (wpAny_pure (wpAny_pure (wpAny_pure h)))
  . rintro ⟨r1, r2⟩ s' ⟨hr, rfl, x', y', xs', ys', hz, hx', hy', hdec, hlen⟩; simp only at hr; subst hr; refine wpAny_pure ?_
    have hfin : (xs.size == ys.size) = decide (x = y) := by
      rw [<- hdec, <- hlen]
      cases hx' with
      | nil => cases hy' <;> simp
      | cons _ _ =>
        cases hy' with
        | nil => simp
        | cons _ _ => simp at hz
    show P (.done (.ret (.bool (xs.size == ys.size)))) s'; rw [hfin]; exact h
theorem zke {x y : List K} {a b : Addr} {Q : Bool -> Shared -> Prop} (hu : A.units + 90 < cLine) (hx : IsNest ek s.heap x a) (hy : IsNest ek s.heap y b) (h : Q (decide (x = y)) s) : wpAny (model prog w) A (eqBool (.ref a) (.ref b)) Q E s := by
  unfold eqBool
  try with_reducible refine wpAny_holding ?_
  show wpAny _ _ (if (Value.ref a == Value.ref b) = true then _ else _) Q E s
  by_cases hab : (Value.ref a == Value.ref b) = true
  . rw [if_pos hab]; have e : a = b := by have := eq_of_beq hab; injection this
    subst e; obtain rfl := hx.inj hy; exact wpAny_bind (wpAny_rule (wpAny_pure (by simpa using h)))
  . rw [if_neg hab]
    refine wpAny_bind (wpAny_richCompare_same_room (op := .Eq) hx.typeIs hy.typeIs F.slot_tuple_eq
      (wpAny_call_entry F.slot_tuple_eq hx.typeIs F.entry_tuple_eq (zfE ?_ hx hy ⟨_, rfl, (fun e => nomatch e), wpAny_truthy_bool h⟩) (F.args_tuple_eq_2 _ _)) (by omega))
    first
      | (show A.units + 1 + 80 < cLine; omega)
      | (show A.units + 1 + 1 + 80 < cLine; omega)
theorem zgV {ks : List K} {a : Addr} {Q : Bool -> Shared -> Prop} (hk : IsNest ek s.heap ks a) (h : Q true s) : wpAny (model prog w) A (eqIsQuiet 8 (.ref a)) Q E s := by
  have hT := hk.typeIs; obtain ⟨o, items, n, ho, _, hd, hi⟩ := hk; unfold eqIsQuiet; refine wpAny_bind (wpAny_specialOf hT F.slot_tuple_eq.lookup ?_); show wpAny _ _ (isInstance (.ref a) (.type "tuple") >>= _) _ _ s; refine wpAny_bind (wpAny_isInstance hT isSubtype_tuple_tuple ?_); simp only [Bool.not_true, Bool.false_eq_true, if_false]; refine wpAny_bind (wpAny_seqItems ho hd ?_); refine wpAny_bind ?_; show wpAny _ _ (forIn items _ _) _ _ s; rw [<- Array.forIn_toList]; refine wpAny_forIn_list _ (fun rest r s' => r.1 = none /\ s' = s /\ ∃ ks, ItemsH ek s.heap ks rest) _ ?_ ?_ _ _ ⟨rfl, rfl, _, hi⟩
  . rintro v rest r s' ⟨hr, rfl, ks, hl⟩
    cases hl with
    | @cons k _ ks' _ h1 hl' =>
      refine wpAny_bind (ek.quiet h1 ?_); simp only [Bool.not_true, Bool.false_eq_true, if_false]; exact wpAny_pure ⟨rfl, rfl, ks', hl'⟩
  . rintro ⟨r1, r2⟩ s' ⟨hr, rfl, _⟩; simp only at hr; subst hr; exact wpAny_pure h
end
def zbY {prog : Program} {w : World} {K : Type} [DecidableEq K] (ek : EK prog w K) : HeapKind prog w (List K) where
  is := IsNest ek
  hash := zeP ek
  draws := zdI ek
  room := fun A => A.units + 90 < cLine
  inj := fun hx hy => hx.inj hy
  keeps := fun x ho hd hs => x.keeps ho hd hs
  pyHash := fun hu hk h => zih hu hk h
  eqBool := fun hu hx hy h => zke hu hx hy h
  quiet := fun hk h => zgV hk h
section
variable {prog : Program} {w : World} {A : Around} {E : Value -> Shared -> Prop} {s : Shared}
theorem zgg {h : Heap} {ks : List Int} {vs : List Value} (hx : ItemsAre (intKind prog w) ks vs) : ∃ as, ReadsAll h vs (ks.map PyData.int) as := by
  induction hx with
  | nil => exact ⟨_, .nil⟩
  | @cons k v ks vs h1 _ ih =>
    obtain ⟨as, ra⟩ := ih; obtain ⟨t, rfl⟩ := Value.isInt_shape h1; exact ⟨_, .cons (.int k t) ra⟩
theorem zgP {h : Heap} {ks : List Int} {a : Addr} (hk : IsTupleKey (intKind prog w) h ks a) : ∃ as, Reads h (.ref a) (.tuple (ks.map PyData.int)) as := by
  obtain ⟨o, items, n, ho, hc, hd, hi⟩ := hk; obtain ⟨as, ra⟩ := zgg (h := h) hi; exact ⟨_, .tuple ho hc hd ra⟩
theorem zei (ks : List Int) : SeqAt.shaped (.tuple (ks.map PyData.int)) = true := by
  have h1 := (zcq ks).1; unfold SeqAt.shaped at h1 ⊢; simp only [PyData.canLay0, PyData.depth] at h1 ⊢; exact h1
theorem zey (i : Int) : SeqAt.shaped (.int i) = true := by
  unfold SeqAt.shaped; simp [PyData.canLay0, PyData.depth]
theorem zlK {ks : List Int} {i : Int} {a : Addr} {t : Tok} {Q : Bool -> Shared -> Prop} (hu : A.units + 80 < cLine) (hk : IsTupleKey (intKind prog w) s.heap ks a) (h : Q false s) : wpAny (model prog w) A (eqBool (.ref a) (.int i t)) Q E s := by
  obtain ⟨as, ra⟩ := zgP hk; unfold eqBool
  try with_reducible refine wpAny_holding ?_
  show wpAny _ _ (if (Value.ref a == Value.int i t) = true then _ else _) Q E s; rw [if_neg (by intro z; cases eq_of_beq z)]
  have q := eq_dataH_same (prog := prog) (w := w) (A := A) (E := E) (Q := fun v s' => v = .bool false /\ s' = s) ra (.int i t) (zei ks) (zey i) (by omega) (by simp [SeqAt.noMix]) ⟨by simp [same], rfl⟩
  refine wpAny_bind (wpAny_mono (show wpAny (model prog w) A (richCompare .Eq (.ref a) (.int i t)) _ _ _ from q) (fun v s' hv => ?_) fun _ _ x => x); obtain ⟨rfl, rfl⟩ := hv; exact wpAny_truthy_bool h
theorem zkk {ks : List Int} {i : Int} {a : Addr} {t : Tok} {Q : Bool -> Shared -> Prop} (hu : A.units + 80 < cLine) (hk : IsTupleKey (intKind prog w) s.heap ks a) (h : Q false s) : wpAny (model prog w) A (eqBool (.int i t) (.ref a)) Q E s := by
  obtain ⟨as, ra⟩ := zgP hk; unfold eqBool
  try with_reducible refine wpAny_holding ?_
  show wpAny _ _ (if (Value.int i t == Value.ref a) = true then _ else _) Q E s; rw [if_neg (by intro z; cases eq_of_beq z)]
  have q := eq_dataH_same (prog := prog) (w := w) (A := A) (E := E) (Q := fun v s' => v = .bool false /\ s' = s) (.int i t) ra (zey i) (zei ks) (by omega) (by simp [SeqAt.noMix]) ⟨by simp [same], rfl⟩
  refine wpAny_bind (wpAny_mono (show wpAny (model prog w) A (richCompare .Eq (.int i t) (.ref a)) _ _ _ from q) (fun v s' hv => ?_) fun _ _ x => x); obtain ⟨rfl, rfl⟩ := hv; exact wpAny_truthy_bool h
theorem zie {ks : List Int} {a : Addr} {Q : Bool -> Shared -> Prop} (hk : IsTupleKey (intKind prog w) s.heap ks a) (h : Q true s) : wpAny (model prog w) A (eqIsQuiet 7 (.ref a)) Q E s := by
  have hT := hk.typeIs; obtain ⟨o, items, n, ho, _, hd, hi⟩ := hk; unfold eqIsQuiet; refine wpAny_bind (wpAny_specialOf hT F.slot_tuple_eq.lookup ?_); show wpAny _ _ (isInstance (.ref a) (.type "tuple") >>= _) _ _ s; refine wpAny_bind (wpAny_isInstance hT isSubtype_tuple_tuple ?_); simp only [Bool.not_true, Bool.false_eq_true, if_false]; refine wpAny_bind (wpAny_seqItems ho hd ?_); refine wpAny_bind ?_; show wpAny _ _ (forIn items _ _) _ _ s; rw [<- Array.forIn_toList]; refine wpAny_forIn_list _ (fun rest r s' => r.1 = none /\ s' = s /\ ∀ v ∈ rest, carriedByValue v = true) _ ?_ ?_ _ _ ⟨rfl, rfl, hi.byValue⟩
  . rintro v rest r s' ⟨hr, rfl, hall⟩; rw [eqIsQuiet_byValue _ (hall v List.mem_cons_self)]; refine wpAny_bind (wpAny_pure ?_); simp only [Bool.not_true, Bool.false_eq_true, if_false]; exact wpAny_pure ⟨rfl, rfl, fun u hu' => hall u (List.mem_cons_of_mem _ hu')⟩
  . rintro ⟨r1, r2⟩ s' ⟨hr, rfl, _⟩; simp only at hr; subst hr; exact wpAny_pure h
end
def zeZ (prog : Program) (w : World) (h : Heap) : List Int ⊕ Int -> Value -> Prop
  | .inl ks, v => ∃ a, v = .ref a /\ IsTupleKey (intKind prog w) h ks a
  | .inr i, v => ∃ t, v = .int i t
def zbn (prog : Program) (w : World) : EK prog w (List Int ⊕ Int) where
  is := zeZ prog w
  hash := fun k => match k with
    | .inl ks => tupleKeyHash (intKind prog w) ks
    | .inr i => hashInt i
  draws := fun k => match k with
    | .inl ks => ks.length + 1
    | .inr _ => 1
  inj := by
    intro h v x y hx hy
    cases x with
    | inl ks =>
      obtain ⟨a, rfl, h1⟩ := hx
      cases y with
      | inl ks' =>
        obtain ⟨a', e, h2⟩ := hy; cases e; rw [h1.inj h2]
      | inr i => obtain ⟨t, e⟩ := hy; cases e
    | inr i =>
      obtain ⟨t, rfl⟩ := hx
      cases y with
      | inl ks' => obtain ⟨a', e, h2⟩ := hy; cases e
      | inr j => obtain ⟨t', e⟩ := hy; cases e; rfl
  keeps := by
    intro h h' k v d o es ep hk ho hd hs
    cases k with
    | inl ks => obtain ⟨a, rfl, h1⟩ := hk; exact ⟨a, rfl, h1.keeps ho hd hs⟩
    | inr i => exact hk
  pyHash := by
    intro A E s k v Q hu hk h
    cases k with
    | inl ks => obtain ⟨a, rfl, h1⟩ := hk; exact wpAny_pyHash_tuple (by omega) h1 h
    | inr i => obtain ⟨t, rfl⟩ := hk; exact wpAny_pyHash_int h
  eqBool := by
    intro A E s x y v u Q hu hx hy h
    cases x with
    | inl ks =>
      obtain ⟨a, rfl, h1⟩ := hx
      cases y with
      | inl ks' =>
        obtain ⟨a', rfl, h2⟩ := hy; exact wpAny_eqBool_tuple (by omega) h1 h2 (by simpa using h)
      | inr i =>
        obtain ⟨t, rfl⟩ := hy; exact zlK hu h1 (by simpa using h)
    | inr i =>
      obtain ⟨t, rfl⟩ := hx
      cases y with
      | inl ks' =>
        obtain ⟨a', rfl, h2⟩ := hy; exact zkk hu h2 (by simpa using h)
      | inr j =>
        obtain ⟨t', rfl⟩ := hy; refine wpAny_eqBool_int ?_; rw [show (i == j) = decide ((Sum.inr i : List Int ⊕ Int) = Sum.inr j) from by rw [Bool.eq_iff_iff]; simp]
        exact h
  quiet := by
    intro A E s k v Q hk h
    cases k with
    | inl ks => obtain ⟨a, rfl, h1⟩ := hk; exact zie h1 h
    | inr i =>
      obtain ⟨t, rfl⟩ := hk; rw [eqIsQuiet_byValue _ rfl]; exact wpAny_pure h
end L2
set_option Elab.async false
set_option linter.all false
set_option maxRecDepth 100000
set_option maxHeartbeats 4000000
namespace L2
open PySem PySem.Spec PyProof.Rows
abbrev NK := List (List Int ⊕ Int)
def zdq (P : Program) (w : World) (d : Addr) (xs : List (NK × Addr × Value)) (h : Heap) : Prop :=
  (d == sysModules) = false /\ ∃ o es ep, h.get? d = some o /\ o.ExactDict /\ o.data = .dict es ep /\ es.toList = xs.map (entryOfKey (zbY (zbn P w))) /\ (xs.map (·.1)).Nodup
def elAt (K : PySem.W.Frag) (H : Hp) : List Int ⊕ Int -> V -> Prop
  | .inl ks, v => ∃ t, v = .ref t /\ SqT K H t (ks.map V.int)
  | .inr i, v => v = .int i
def KeyAt (K : PySem.W.Frag) (H : Hp) (k : NK) (a : Addr) : Prop := ∃ vs, SqT K H a vs /\ Paired (elAt K H) k vs
def zew (ks : List NK) (k : NK) : Bool := ks.any fun x => decide (x = k)
theorem ziX {ks : List NK} {k : NK} : zew ks k = true ↔ k ∈ ks := by
  unfold zew; rw [List.any_eq_true]; constructor
  . rintro ⟨x, hx, h⟩; rw [<- of_decide_eq_true h]; exact hx
  . intro h; exact ⟨k, h, decide_eq_true rfl⟩
def NDict (P : Program) (w : World) (K : PySem.W.Frag) (H : Hp) (d : Addr) (ks : List NK) : Prop :=
  ∃ xs : List (NK × Addr × Value), H d = some (.ext (zdq P w d xs)) /\ xs.map (·.1) = ks /\ (∀ x ∈ xs, KeyAt K H x.1 x.2.1) /\ xs.length <= 100000
theorem SqT.moved {K : PySem.W.Frag} {H H' : Hp} {a : Addr} {xs : List V} (ht : ∀ b ys, H b = some (.tup ys) -> H' b = some (.tup ys)) (hf : ∀ b o u, H b = some (.frz o u) -> H' b = some (.frz o u)) (h : SqT K H a xs) : SqT K H' a xs := by
  rcases h with (h | ⟨ob, h⟩) | h
  . exact .inl (.inl (ht _ _ h))
  . exact .inl (.inr ⟨ob, hf _ _ _ h⟩)
  . exact .inr h
theorem KeyAt.moved {K : PySem.W.Frag} {H H' : Hp} {k : NK} {a : Addr} (ht : ∀ b ys, H b = some (.tup ys) -> H' b = some (.tup ys)) (hf : ∀ b o u, H b = some (.frz o u) -> H' b = some (.frz o u)) (h : KeyAt K H k a) : KeyAt K H' k a := by
  obtain ⟨vs, h1, h2⟩ := h; refine ⟨vs, SqT.moved ht hf h1, Paired.imp' (fun k v hv => ?_) h2⟩
  cases k with
  | inl ks => obtain ⟨t, rfl, h⟩ := hv; exact ⟨t, rfl, SqT.moved ht hf h⟩
  | inr i => exact hv
theorem KeyAt.keep {K : PySem.W.Frag} {H H' : Hp} {k : NK} {a : Addr} (s : Same H H') (h : KeyAt K H k a) : KeyAt K H' k a := h.moved (fun b ys e => s _ _ e) fun b o u e => s _ _ e
theorem NDict.keep {P : Program} {w : World} {K : PySem.W.Frag} {H H' : Hp} {d : Addr} {ks : List NK} (s : Same H H') (h : NDict P w K H d ks) : NDict P w K H' d ks := by
  obtain ⟨xs, h1, h2, h3, h4⟩ := h; exact ⟨xs, s _ _ h1, h2, fun x hx => (h3 x hx).keep s, h4⟩
theorem NDict.updL {P : Program} {w : World} {K : PySem.W.Frag} {H : Hp} {d g : Addr} {ks : List NK} {zs : List V} {o : HO} (hg : H g = some (.lst zs)) (h : NDict P w K H d ks) : NDict P w K (upd H g o) d ks := by
  obtain ⟨xs, h1, h2, h3, h4⟩ := h; refine ⟨xs, ?_, h2, fun x hx => (h3 x hx).moved (fun b ys e => ?_) (fun b o u e => ?_), h4⟩
  . rw [zah (zbx h1 hg (by intro z; cases z))]; exact h1
  . rw [zah (zbx e hg (by intro z; cases z))]; exact e
  . rw [zah (zbx e hg (by intro z; cases z))]; exact e
section
variable {X : Cx} {pins : List (Addr × Obj)} {σ : St} {H : Hp} {s : Shared}
theorem zgE : ∀ {ks : List Int} {us : List Value}, Vals (ks.map V.int) us -> ItemsAre (intKind X.prog X.w) ks us
  | [], us, r => by cases r; exact .nil
  | k :: ks, us, r => by
    cases r with
    | cons r1 r2 =>
      obtain ⟨t, rfl⟩ := (show ∃ t, _ = Value.int k t from r1); exact .cons (by simp [intKind, Value.isInt]) (zgE r2)
theorem zhO {t : Addr} {ks : List Int} (I : Inv X pins σ H s) (h : SqT X.K H t (ks.map V.int)) : IsTupleKey (intKind X.prog X.w) s.heap ks t := by
  obtain ⟨its, rv, ⟨o, e, hc, n, hd⟩, _⟩ := I.tuple h; exact ⟨o, its.toArray, n, e, hc, hd, by simpa using zgE rv⟩
theorem zfO {k : NK} {a : Addr} (I : Inv X pins σ H s) (h : KeyAt X.K H k a) : IsNest (zbn X.prog X.w) s.heap k a := by
  obtain ⟨vs, h1, h2⟩ := h; obtain ⟨its, rv, ⟨o, e, hc, n, hd⟩, _⟩ := I.tuple h1; refine ⟨o, its.toArray, n, e, hc, hd, ?_⟩
  have : ∀ {k : NK} {vs : List V} {us : List Value}, Paired (elAt X.K H) k vs -> Vals vs us -> ItemsH (zbn X.prog X.w) s.heap k us := by
    intro k vs us hp
    induction hp generalizing us with
    | nil => intro r; cases r; exact .nil
    | @cons k v ks vs hv _ ih =>
      intro r
      cases r with
      | cons r1 r2 =>
        refine .cons ?_ (ih r2)
        cases k with
        | inl ks =>
          obtain ⟨t, rfl, ht⟩ := hv; exact ⟨t, r1, zhO I ht⟩
        | inr i =>
          have hv' : v = .int i := hv; subst hv'; exact r1
  simpa using this h2 rv
theorem zfY {d : Addr} {xs : List (NK × Addr × Value)} (I : Inv X pins σ H s) (h1 : H d = some (.ext (zdq X.prog X.w d xs))) (h3 : ∀ x ∈ xs, KeyAt X.K H x.1 x.2.1) : (d == sysModules) = false /\ s.heap.DictOfH (zbY (zbn X.prog X.w)) d xs := by
  obtain ⟨⟨hs, o, es, ep, e, hx, hd, he, hn⟩, _⟩ := I.hok d _ h1; exact ⟨hs, o, es, ep, e, hx, hd, he, fun x hm => zfO I (h3 x hm), hn⟩
theorem zdH {xs : List (NK × Addr × Value)} {k : NK} : (atKey xs k).isSome = zew (xs.map (·.1)) k := by
  rw [Bool.eq_iff_iff, ziX]; unfold atKey; rw [Option.isSome_map, List.find?_isSome, List.mem_map]; constructor
  . rintro ⟨x, hx, h⟩; exact ⟨x, hx, of_decide_eq_true h⟩
  . rintro ⟨x, hx, rfl⟩; exact ⟨x, hx, decide_eq_true rfl⟩
end
section
variable {X : Cx} {pos : Pos}
def zlC (P : Program) (w : World) (K : PySem.W.Frag) : TE := fun _ H Q => ∀ (p : Addr) (H' : Hp), H p = none -> Same H H' -> NDict P w K H' p [] -> Q (.ref p) H'
theorem ziO {P : Program} {w : World} {H : Hp} {h : Heap} {d : Addr} {xs : List (NK × Addr × Value)} (hx : zdq P w d xs h) : ObjOk P w H h d (.ext (zdq P w d xs)) := by
  refine ⟨hx, ?_, fun h1 h2 q k => ?_⟩
  . obtain ⟨_, o, _, _, e, _⟩ := hx; exact ⟨o, e⟩
  . obtain ⟨a, o, es, ep, e, r⟩ := q; exact ⟨a, o, es, ep, k _ e, r⟩
theorem zla {P : Program} {w : World} {K : PySem.W.Frag} {H : Hp} {p : Addr} : NDict P w K (upd H p (.ext (zdq P w p []))) p [] := ⟨[], zab, rfl, fun x hx => by simp at hx, by simp⟩
theorem zgH : PE X (.Dict [] [] pos) (zlC X.prog X.w X.K) := by
  intro pins s σ H Q I h; refine wpAny_Dict_empty ⟨.ref s.heap.objs.size, _, I.laid (a := s.heap.objs.size) (o := .ext (zdq X.prog X.w s.heap.objs.size [])) (t' := s.toks) (fun _ _ q => Heap.get?_push_of_some _ q) (Nat.le_refl _) (ziO ?_), rfl, h _ _ (I.hok.fresh (Nat.le_refl _)) (Same.upd (I.hok.fresh (Nat.le_refl _))) zla⟩; exact ⟨beq_eq_false_iff_ne.mpr (Ne.symm (Nat.ne_of_lt I.big)), _, #[], 0, Heap.get?_push_size _ rfl, ⟨rfl, rfl, rfl⟩, rfl, rfl, List.nodup_nil⟩
theorem op_notInN (hu : X.A.units + 100 < cLine) : OpR X (compareOp .NotIn) (fun x y H Q => ∃ (a d : Addr) (k : NK) (ks : List NK), x = .ref a /\ y = .ref d /\ KeyAt X.K H k a /\ NDict X.prog X.w X.K H d ks /\ Q (.bl (!zew ks k)) H) := by
  intro pins s σ H x y v u Q I rx ry h; obtain ⟨a, d, k, ks, rfl, rfl, hk, ⟨xs, h1, rfl, h3, h4⟩, q⟩ := h; cases rx; cases ry; obtain ⟨hs, dd⟩ := zfY I h1 h3; refine wpAny_notIn_heap (knd := zbY (zbn X.prog X.w)) (show X.A.units + 1 + 90 < cLine by omega) (zfO I hk) hs dd ?_
  rw [zdH]; exact ⟨.bl _, H, I.tok _, rfl, q⟩
theorem zlo (hu : X.A.units + 100 < cLine) : OpR X (compareOp .In) (fun x y H Q => ∃ (a d : Addr) (k : NK) (ks : List NK), x = .ref a /\ y = .ref d /\ KeyAt X.K H k a /\ NDict X.prog X.w X.K H d ks /\ Q (.bl (zew ks k)) H) := by
  intro pins s σ H x y v u Q I rx ry h; obtain ⟨a, d, k, ks, rfl, rfl, hk, ⟨xs, h1, rfl, h3, h4⟩, q⟩ := h; cases rx; cases ry; obtain ⟨hs, dd⟩ := zfY I h1 h3; refine wpAny_in_heap (knd := zbY (zbn X.prog X.w)) (show X.A.units + 1 + 90 < cLine by omega) (zfO I hk) hs dd ?_
  rw [zdH]; exact ⟨.bl _, H, I.tok _, rfl, q⟩
theorem zdX (xs : List (NK × Addr × Value)) (k : NK) (a : Addr) (v : Value) : (storedH xs k a v).map (·.1) = if zew (xs.map (·.1)) k = true then xs.map (·.1) else xs.map (·.1) ++ [k] := by
  unfold storedH; rw [zdH]
  by_cases h : zew (xs.map (·.1)) k = true
  . rw [if_pos h, if_pos h, List.map_map]; refine List.map_congr_left fun x _ => ?_; show (putAt k v x).1 = x.1; unfold putAt
    split <;> rfl
  . rw [if_neg h, if_neg h, List.map_append]
    rfl
theorem ziB {xs : List (NK × Addr × Value)} {k : NK} {a : Addr} {v : Value} {y : NK × Addr × Value} (h : y ∈ storedH xs k a v) : (y.1 = k /\ y.2.1 = a) \/ ∃ x ∈ xs, y.1 = x.1 /\ y.2.1 = x.2.1 := by
  unfold storedH at h
  split at h
  . obtain ⟨x, hx, rfl⟩ := List.mem_map.mp h; refine .inr ⟨x, hx, ?_⟩; unfold putAt
    split <;> exact ⟨rfl, rfl⟩
  . rcases List.mem_append.mp h with h | h
    . exact .inr ⟨y, h, rfl, rfl⟩
    . rw [List.mem_singleton.mp h]; exact .inl ⟨rfl, rfl⟩
def zmy (P : Program) (w : World) (K : PySem.W.Frag) : V -> V -> V -> Hp -> (Hp -> Prop) -> Prop := fun o i v H Q => ∃ (d a : Addr) (k : NK) (ks : List NK), o = .ref d /\ i = .ref a /\ KeyAt K H k a /\ NDict P w K H d ks /\ ks.length < 100000 ∧
  ∀ φ, NDict P w K (upd H d (.ext φ)) d (if zew ks k = true then ks else ks ++ [k]) -> Q (upd H d (.ext φ))
theorem zlg (hu : X.A.units + 100 < cLine) : zmh X (zmy X.prog X.w X.K) := by
  intro pins s σ H o i v ov iv u Q I ro ri rv h; obtain ⟨d, a, k, ks, rfl, rfl, hk, ⟨xs, h1, rfl, h3, h4⟩, hl, q⟩ := h; cases ro; cases ri; have hsz : sizeLine = 16777216 := sizeLine_eq; obtain ⟨hs, dd⟩ := zfY I h1 h3; refine wpAny_setItem_heap (knd := zbY (zbn X.prog X.w)) (show X.A.units + 1 + 90 < cLine by omega) (zfO I hk) dd (fun h' dd' sb => ?_) (by omega)
  have hne : ∀ b ob, H b = some ob -> (∀ φ, ob ≠ .ext φ) -> b ≠ d := fun b ob e hob z => by rw [z, h1] at e; exact hob _ (Option.some.inj e).symm
  have mv : ∀ {k : NK} {c : Addr}, KeyAt X.K H k c -> KeyAt X.K (upd H d (.ext (zdq X.prog X.w d (storedH xs k a u)))) k c := fun {k c} hk => hk.moved
    (fun b ys e => by rw [zah (hne b _ e (by intro φ z; cases z))]; exact e) (fun b o u e => by rw [zah (hne b _ e (by intro φ z; cases z))]; exact e)
  have mv' : ∀ {k' : NK} {c : Addr} {φ : Heap -> Prop}, KeyAt X.K H k' c -> KeyAt X.K (upd H d (.ext φ)) k' c := fun {k' c φ} hk => hk.moved
    (fun b ys e => by rw [zah (hne b _ e (by intro φ z; cases z))]; exact e) (fun b o u e => by rw [zah (hne b _ e (by intro φ z; cases z))]; exact e)
  obtain ⟨o', es, ep, e', hx', hd', he', hk', hn'⟩ := dd'; have new : zdq X.prog X.w d (storedH xs k a u) h' := ⟨hs, o', es, ep, e', hx', hd', he', hn'⟩
  have J : Inv X pins σ (upd H d (.ext (zdq X.prog X.w d (storedH xs k a u)))) { s with heap := h', toks := s.toks + (zbY (zbn X.prog X.w)).draws k } :=
    I.write (x := d) (e := d) (by rw [h1]; exact True.intro) (.inl rfl) (fun b ob hb q => (sb.2 b hb).trans q) ⟨_, e'⟩ (ziO new)
  refine ⟨_, J, q _ ⟨storedH xs k a u, zab, zdX xs k a u, fun y hy => ?_, ?_⟩⟩
  . rcases ziB hy with ⟨e1, e2⟩ | ⟨x, hx, e1, e2⟩
    . rw [e1, e2]; exact mv' hk
    . rw [e1, e2]; exact mv' (h3 x hx)
  . have e := congrArg List.length (zdX xs k a u); rw [List.length_map] at e; rw [e]; rw [List.length_map] at hl
    split
    . rw [List.length_map]; omega
    . rw [List.length_append, List.length_map]; show _ + 1 <= _; omega
end
end L2
set_option Elab.async false
set_option linter.all false
set_option maxRecDepth 100000
set_option maxHeartbeats 4000000
namespace L2
open PySem PySem.Spec PyProof.Rows
structure CompNames2 (sc : Scope) (N0 : List Str) (scope : Scope) (x x' : Str) (ns : List Str) (idx : List Nat) : Prop where
  kind : scope.kind = .function
  cell : ∀ y ∈ scope.names, y.2 ≠ .cell
  loc : ∀ y ∈ scope.names, y.2 = .local -> scope.names.lookup y.1 = some .local
  tgt : scope.names.lookup x = some .local
  tgt' : scope.names.lookup x' = some .local
  nd : (x :: x' :: ns).Nodup
  from_ : ∀ y ∈ scope.names, y.2 = .free -> (sc.names.lookup y.1 = some .cell \/ sc.names.lookup y.1 = some .free)
  free : ∀ y ∈ ns, scope.names.lookup y = some .free
  ix : idx.map (fun j => N0[j]?) = ns.map some
def zm6 (sc : Scope) (N0 : List Str) (scope : Scope) (x x' : Str) (ns : List Str) (idx : List Nat) : Bool :=
  decide (scope.kind = .function) && scope.names.all (fun y => decide (y.2 ≠ .cell)) && scope.names.all (fun y => decide (y.2 = .local -> scope.names.lookup y.1 = some .local)) && decide (scope.names.lookup x = some .local) && decide (scope.names.lookup x' = some .local) &&
  decide ((x :: x' :: ns).Nodup) && scope.names.all (fun y => decide (y.2 = .free -> (sc.names.lookup y.1 = some .cell \/ sc.names.lookup y.1 = some .free))) && ns.all (fun y => decide (scope.names.lookup y = some .free)) &&
  decide (idx.map (fun j => N0[j]?) = ns.map some)
theorem zk6 {sc : Scope} {N0 : List Str} {scope : Scope} {x x' : Str} {ns : List Str} {idx : List Nat} (h : zm6 sc N0 scope x x' ns idx = true) : CompNames2 sc N0 scope x x' ns idx := by
  unfold zm6 at h; simp only [Bool.and_eq_true, List.all_eq_true, decide_eq_true_eq] at h; obtain ⟨⟨⟨⟨⟨⟨⟨⟨h1, h2⟩, h3⟩, h4⟩, h4'⟩, h5⟩, h6⟩, h7⟩, h8⟩ := h; exact ⟨h1, h2, h3, h4, h4', h5, h6, h7, h8⟩
section
variable {X : Cx} {pins : List (Addr × Obj)} {σ : St} {H : Hp} {s : Shared} {scope : Scope} {x x' : Str} {ns : List Str} {idx : List Nat} {fp : List Addr}
theorem CompNames2.clos (N : CompNames2 X.env.scope X.N scope x x' ns idx) (ok : X.Ok) : closureFor scope X.env = pure (zbT X.env.cells scope.names []) :=
  zcK fun y hy hk => ok.has y.1 (N.from_ y hy hk)
theorem Inv.comp2 {h1 : Heap} {t' : Nat} {C D : Addr} (N : CompNames2 X.env.scope X.N scope x x' ns idx) (I : Inv X pins σ H s) (f2 : ∀ b ∈ fp, zcu X pins H b) (fo : ∀ b ∈ fp, ∃ o, s.heap.get? b = some o)
    (hD : s.heap.objs.size <= D) (hC : s.heap.objs.size <= C) (hDC : D ≠ C) (old : ∀ b o, s.heap.get? b = some o -> h1.get? b = some o) (hacc : h1.get? D = some { cls := .type "list", data := .seq #[] 0 })
    (hns : h1.Ns C fun _ => none) :
    Inv (zaA X scope C (x :: x' :: ns) s H fp) [] (none :: none :: cap σ idx) (upd H D (.lst [])) { s with heap := h1, toks := t' } := by
  have hDn : H D = none := I.hok.fresh hD; have hCn : H C = none := I.hok.fresh hC; have cne : ∀ y c, (zbT X.env.cells scope.names []).lookup y = some c -> X.env.cells.lookup y = some c := zbz (acc := []) (fun _ _ q => by simp at q)
  have clt : ∀ y c, X.env.cells.lookup y = some c -> c < s.heap.objs.size := fun y c e => by
    obtain ⟨v, o, ho, _⟩ := I.cell y c e; exact Heap.lt_size ho
  refine ⟨⟨I.ok.mod, N.kind, I.ok.glob, I.ok.blt, hC, fun y z c e1 e2 => ?_, fun y hy => ?_, fun y c hf _ => ?_, I.ok.hd, I.ok.frames, .inl rfl, fun b hb => ⟨?_, fun y c e => ?_⟩, I.bs, Nat.le_trans I.ok.bsz I.sz, fun b o e hb => ?_, fun b hb hz => ?_, I.stack, I.stkFree⟩,
    rfl, I.bare, ?_, ⟨_, hns, fun i y v e1 e2 e3 => ?_⟩, fun y c e => ?_, ?_, fun y c e => ?_, fun p hp => absurd (show p ∈ ([] : List (Addr × Obj)) from hp) (by simp), ?_, ?_⟩
  . exact I.ok.inj y z c (cne y c e1) (cne z c e2)
  . have hy' := zcV (env := X.env) N.cell hy; obtain ⟨c, e⟩ := I.ok.has y (N.from_ (y, .free) (zbk hy') rfl); exact ⟨c, zdj e hy'⟩
  . exact absurd hf (by show ¬ (false = true); decide)
  . obtain ⟨o, e⟩ := fo b hb; exact Nat.ne_of_lt (Nat.lt_of_lt_of_le (Heap.lt_size e) hC)
  . exact (f2 b hb).2.2.2.2.1 y c (cne y c e)
  . rcases (f2 b hb).2.2.2.1 with z | z
    . exact I.ok.noex b o e z
    . exact absurd (Nat.lt_of_lt_of_le (Heap.lt_size (I.ok.bs b o e).1) z) (Nat.lt_irrefl _)
  . rcases List.mem_cons.mp (I.stkSub b hz) with z | z
    . exact (f2 b hb).2.1 z
    . exact (f2 b hb).2.2.1 z
  . exact Un.laid old hD hDn
  . cases i with
    | zero =>
      have e2' : (none : Option V) = some v := Option.some.inj e2; cases e2'
    | succ i =>
    cases i with
    | zero =>
      have e2' : (none : Option V) = some v := Option.some.inj e2; cases e2'
    | succ i =>
      have e1' : ns[i]? = some y := e1; have e2' : (cap σ idx)[i]? = some (some v) := e2; have hi : (idx.map (fun j => X.N[j]?))[i]? = some (some y) := by rw [N.ix, List.getElem?_map, e1']; rfl
      rw [List.getElem?_map] at hi; unfold cap at e2'; rw [List.getElem?_map] at e2'
      cases ej : idx[i]? with
      | none => rw [ej] at hi; cases hi
      | some j =>
        rw [ej] at hi e2'; have hj : X.N[j]? = some y := Option.some.inj hi; have hv : σ.getD j none = some v := Option.some.inj e2'
        have hv' : σ[j]? = some (some v) := by
          rw [List.getD_eq_getElem?_getD] at hv
          cases q : σ[j]? with
          | none => rw [q] at hv; cases hv
          | some w' => rw [q] at hv; exact congrArg some hv
        have hfr := N.free y (List.mem_of_getElem? e1'); have hk := N.from_ (y, .free) (zbk hfr) rfl; obtain ⟨m, hn, hl⟩ := I.loc
        have hvis : Vis X.env.scope y := by
          rcases hk with k | k
          . exact .inr (.inl k)
          . exact .inr (.inr k)
        obtain ⟨u, r, l⟩ := hl j y v hj hv' hvis; refine ⟨u, r, .inr ⟨?_, ?_⟩⟩
        . exact zc9 (env := X.env) hfr
        . rcases l with ⟨k, _⟩ | ⟨_, c, ec, o, ho, hd⟩
          . have k' : X.env.kindOf y = some .local := k
            rcases hk with q | q
            . have q' : X.env.kindOf y = some .cell := q; rw [k'] at q'; cases q'
            . have q' : X.env.kindOf y = some .free := q; rw [k'] at q'; cases q'
          . exact ⟨c, zdj ec hfr, o, old c o ho, hd⟩
  . obtain ⟨v, o, ho, hd⟩ := I.cell y c (cne y c e); exact ⟨v, o, old c o ho, hd⟩
  . show upd H D (.lst []) C = none; rw [zah (Ne.symm hDC)]; exact hCn
  . show upd H D (.lst []) c = none; rw [zah (Nat.ne_of_lt (Nat.lt_of_lt_of_le (clt y c (cne y c e)) hD))]; exact I.freeC y c (cne y c e)
  . exact I.hok.laid old hD ⟨Nat.zero_le _, [], 0, .nil, hacc⟩
  . show (none :: none :: cap σ idx).length = (x :: x' :: ns).length; have := congrArg List.length N.ix; rw [List.length_map, List.length_map] at this; unfold cap; rw [List.length_cons, List.length_cons, List.length_cons, List.length_cons, List.length_map, this]
end
def zlJ (idx : List Nat) (J : It) (g : TG) (tt : TT) (te : TE) (Q : VK) (σ : St) (H1 : Hp) : Prop := ∀ D, H1 D = none →
  ∃ W : Nat -> Nat -> List V -> St -> Hp -> Prop, (∃ m, W 0 m [] (none :: none :: cap σ idx) (upd H1 D (.lst []))) /\ ∀ i m ys ρ H, W i m ys ρ H -> H D = some (.lst ys) ∧
    ((J.stop i H /\ Q (.ref D) H) ∨
     (J.go i H /\ ys.length < sizeLine /\ ∀ x H', J.yld i H x H' -> g x ρ H' fun ρ2 H2 => tt ρ2 H2 fun b H3 =>
        if b = true then te ρ2 H3 fun v H4 => H4 D = some (.lst ys) /\ ∃ m', m' < m /\ W (i + 1) m' (ys ++ [v]) ρ2 (upd H4 D (.lst (ys ++ [v])))
        else ∃ m', m' < m /\ W (i + 1) m' ys ρ2 H3))
def znF (wi : TI) (idx : List Nat) (g : TG) (tt : TT) (te : TE) : TE := fun σ H Q => wi σ H fun J H1 => zlJ idx J g tt te Q σ H1
section
variable {X : Cx} {elt iter : Expr} {x x' : Str} {px px' pt : Pos} {kt : Nat} {ifs : List Expr} {scope : Scope} {pos : Pos} {ns : List Str} {idx : List Nat} {wi : TI} {g : TG} {tt : TT} {te : TE}
theorem zg0 {pins : List (Addr × Obj)} {s : Shared} {σ : St} {H : Hp} {Q : VK} {RR : Value -> Addr -> Result -> Shared -> Prop} {it : Addr} {fp : List Addr} {tn : Nat -> Heap -> Prop} {J : It} {tg : Expr} (N : CompNames2 X.env.scope X.N scope x x' ns idx) (hcalm : X.calm = true)
    (hg : ∀ C s₀ H₀ fp, PG (zaA X scope C (x :: x' :: ns) s₀ H₀ fp) tg g)
    (hi : ∀ C s₀ H₀ fp, zg5 (zaA X scope C (x :: x' :: ns) s₀ H₀ fp) ifs tt) (he : ∀ C s₀ H₀ fp, PE (zaA X scope C (x :: x' :: ns) s₀ H₀ fp) elt te)
    (I : Inv X pins σ H s) (T : ze6 X.prog X.w X.K tg J fp it tn) (st : tn 0 s.heap) (f2 : ∀ b ∈ fp, zcu X pins H b)
    (h : zlJ idx J g tt te Q σ H)
    (hR : ∀ D C s' H', Inv X pins σ H' s' -> zcu X pins H' C -> (∃ m, s'.heap.Ns C m) -> Q (.ref D) H' -> RR (.ref D) C (.ok .next) s') :
    wpAny (model X.prog X.w) X.A (newList []) (fun acc s₃ => wpAny (model X.prog X.w) X.A (newFunctionEnv scope X.env.globals (zbT X.env.cells scope.names []) [] X.env.qual none .none (some X.env)) (fun cenv s₄ =>
      codeAny (model X.prog X.w) X.A (.compStart (.ListComp elt [⟨tg, iter, ifs, 0⟩] scope pos) 0 (.ref it) acc { cenv with scope := relabel scope X.env }) (RR acc cenv.locals) s₄) X.xe s₃) X.xe s := by
  refine wpAny_newObj_type (wpAny_newFunctionEnv N.cell (by intro y hy; simp at hy) (fun h₁ hns₁ hsb₁ => ?_) N.kind)
  dsimp only at hns₁ hsb₁ ⊢; generalize hH2 : s.heap.push { cls := .type "list", dict := none, data := .seq ([] : List Value).toArray } = H2 at hns₁ hsb₁ ⊢; have hC : H2.objs.size = s.heap.objs.size + 1 := by rw [<- hH2, Heap.size_push]
  have hDC : s.heap.objs.size ≠ H2.objs.size := by rw [hC]; exact Nat.ne_of_lt (Nat.lt_succ_self _)
  have hCle : s.heap.objs.size <= H2.objs.size := by rw [hC]; exact Nat.le_succ _
  have below : ∀ b, b < s.heap.objs.size -> b ≠ H2.objs.size := fun b hb => by rw [hC]; exact Nat.ne_of_lt (Nat.lt_succ_of_lt hb)
  have old : ∀ b o, s.heap.get? b = some o -> h₁.get? b = some o := fun b o e => hsb₁.extBut b o (below b (Heap.lt_size e)) (Heap.get?_push_of_some _ (hH2 ▸ Heap.get?_push_of_some _ e)); have hacc : h₁.get? s.heap.objs.size = some { cls := .type "list", data := .seq #[] 0 } := hsb₁.extBut _ _ hDC (Heap.get?_push_of_some _ (hH2 ▸ Heap.get?_push_size _ rfl)); have hns : h₁.Ns H2.objs.size fun _ => none := by simpa using hns₁
  have J0 := Inv.comp2 (t' := s.toks + ([] : List (Str × Value)).length) N I f2 (fun b hb => let ⟨o, e, _⟩ := T.obj 0 s.heap st b hb; ⟨o, e⟩) (Nat.le_refl _) hCle hDC old hacc hns; obtain ⟨W, ⟨m0, w0⟩, turn⟩ := h s.heap.objs.size (I.hok.fresh (Nat.le_refl _))
  have stat : ∀ {H' : Hp}, (∀ b ∈ fp, H' b = none) -> ∀ b ∈ fp, zcu (zaA X scope H2.objs.size (x :: x' :: ns) s H fp) [] H' b := fun hn b hb => by
    obtain ⟨_, f1, f3, f4, f5, f6⟩ := f2 b hb; obtain ⟨o, e, _⟩ := T.obj 0 s.heap st b hb; refine ⟨hn b hb, below b (Heap.lt_size e), fun z => ?_, .inl hb, fun y c q => f5 y c (zbz (acc := []) (fun _ _ q => by simp at q) y c q), fun p hp => absurd (show p ∈ ([] : List (Addr × Obj)) from hp) (by simp)⟩
    rcases List.mem_cons.mp (I.stkSub b z) with q | q
    . exact f1 q
    . exact f3 q
  have fr0 : ∀ b ∈ fp, upd H s.heap.objs.size (.lst []) b = none := fun b hb => by
    obtain ⟨o, e, _⟩ := T.obj 0 s.heap st b hb; rw [zah (Nat.ne_of_lt (Heap.lt_size e))]; exact (f2 b hb).1
  have st1 : tn 0 h₁ := T.keep 0 _ _ st fun b _ o e => old b o e
  have loop : ∀ s₃ : Shared, s₃ = { s with heap := h₁, toks := s.toks + ([] : List (Str × Value)).length } →
      codeAny (model X.prog X.w) X.A (.compLoop (.ListComp elt [⟨tg, iter, ifs, 0⟩] scope pos) 0 (.ref it) (.ref s.heap.objs.size) (compEnvC scope (zbT X.env.cells scope.names []) H2.objs.size X.env))
        (RR (.ref s.heap.objs.size) H2.objs.size) s₃ := by
    rintro s₃ rfl; refine zdg (fun n s' => ∃ i ρ H' ys, Inv (zaA X scope H2.objs.size (x :: x' :: ns) s H fp) [] ρ H' s' /\ tn i s'.heap /\ (∀ b ∈ fp, H' b = none) /\ W i n ys ρ H') ?_ m0 ⟨0, _, _, [], J0, st1, fr0, w0⟩; rintro n s3 ⟨i, ρ, H3, ys, I3, st3, fr3, w3⟩; obtain ⟨hD3, hw⟩ := turn i n ys ρ H3 w3
    rcases hw with ⟨stop, q⟩ | ⟨go, hlen, step⟩
    . refine thn (T.done (zaA X scope H2.objs.size (x :: x' :: ns) s H fp) rfl rfl rfl hcalm i [] s3 ρ H3 (fun _ _ => False) I3 (stat fr3) st3 stop) fun r s4 ⟨hr, I4⟩ => ?_; subst hr; have I5 := I.uncomp f2 I4; refine hR _ _ s4 H3 I5 (I.fpOk hCle I3.free) ?_ q; obtain ⟨m, hn, _⟩ := I4.loc; exact ⟨m, hn⟩
    . refine thn (T.item (zaA X scope H2.objs.size (x :: x' :: ns) s H fp) rfl rfl rfl hcalm i [] s3 ρ H3 (fun _ _ => False) I3 (stat fr3) st3 go) fun r s4 ⟨u, hr, h4⟩ => ?_; subst hr; refine thn h4 fun _ s5 ⟨y, H5, I5, r5, y5, st5, fr5⟩ => ?_; have I5' := I5.pinned (stat fr5) (T.obj _ _ st5); refine thn (hg H2.objs.size s H fp _ s5 ρ H5 y u _ I5' r5 (step y H5 y5)) fun _ s6 ⟨σ6, H6, I6, q6⟩ => ?_; refine thn (hi H2.objs.size s H fp _ s6 σ6 H6 _ I6 q6) fun ok s7 ⟨H7, I7, q7⟩ => ?_
      have again : ∀ {s8 : Shared} {H8 : Hp} {zs : List V}, Inv (zaA X scope H2.objs.size (x :: x' :: ns) s H fp) ([] ++ zdJ fp s5.heap) σ6 H8 s8 -> (∃ m', m' < n /\ W (i + 1) m' zs σ6 H8) →
          ∃ m, m < n /\ ∃ i ρ H' ys, Inv (zaA X scope H2.objs.size (x :: x' :: ns) s H fp) [] ρ H' s8 /\ tn i s8.heap /\ (∀ b ∈ fp, H' b = none) /\ W i m ys ρ H' := fun {s8 H8 zs} I8 ⟨m', hm, w8⟩ => by
        refine ⟨m', hm, i + 1, σ6, H8, zs, I8.unpinned, T.keep _ _ _ st5 fun b hb o e => (I8.pin (b, o) (List.mem_append_right _ (List.mem_append_right _ (zbm hb e)))).1, fun b hb => ?_, w8⟩; obtain ⟨o, e, d⟩ := T.obj _ _ st5 b hb; exact (I8.pin (b, o) (List.mem_append_right _ (List.mem_append_right _ (zbm hb e)))).2.1
      cases ok with
      | false =>
        rw [if_neg Bool.false_ne_true] at q7 ⊢; exact again I7 q7
      | true =>
        rw [if_pos rfl] at q7 ⊢; refine thn (he H2.objs.size s H fp _ s7 σ6 H7 _ I7 q7) fun v s8 ⟨y8, H8, I8, r8, hD8, q8⟩ => ?_; obtain ⟨z8, its, n8, rv, e8⟩ := I8.hok _ _ hD8; have hl := rv.length; refine wpAny_list_append_plain (hsz := by rw [List.size_toArray]; omega) ⟨n8, e8⟩ fun h9 hp9 sb9 => ?_
        obtain ⟨n9, e9⟩ := hp9; refine again (zs := ys ++ [y8]) (I8.write (x := s.heap.objs.size) (e := s.heap.objs.size) (o := .lst (ys ++ [y8])) (t' := s8.toks) (by rw [hD8]; trivial) (.inl rfl) (fun b o hb e => (sb9.2 b hb).trans e) ⟨_, e9⟩ ⟨by rw [List.length_append]; show ys.length + 1 <= sizeLine; omega, its ++ [v], n9, rv.append (.cons r8 .nil), ?_⟩) q8
        rw [e9]; simp
  exact codeAny_compStart_list (loop _ rfl) (T.self _ 0 _ _ _ st1 (loop _ rfl))
theorem zii (N : CompNames2 X.env.scope X.N scope x x' ns idx) (hcalm : X.calm = true) : ∀ C s₀ H₀ fp, PG (zaA X scope C (x :: x' :: ns) s₀ H₀ fp) (.Tuple [.Name x px, .Name x' px'] kt pt) (zkB X.K 2 (zem (zbg 0) (zem (zbg 1) zkK))) := fun C s₀ H₀ fp =>
  zhy (X := zaA X scope C (x :: x' :: ns) s₀ H₀ fp) hcalm (zb3 (zaz (i := 0) N.nd rfl (Or.inl (lookup_relabel_local N.tgt)) (.inr (lookup_relabel_local N.tgt))) (zb3 (zaz (i := 1) N.nd rfl (Or.inl (lookup_relabel_local N.tgt')) (.inr (lookup_relabel_local N.tgt'))) zfu))
theorem zln (N : CompNames2 X.env.scope X.N scope x x' ns idx) (hcalm : X.calm = true) (hw : PI X (.Tuple [.Name x px, .Name x' px'] kt pt) iter wi)
    (hi : ∀ C s₀ H₀ fp, zg5 (zaA X scope C (x :: x' :: ns) s₀ H₀ fp) ifs tt) (he : ∀ C s₀ H₀ fp, PE (zaA X scope C (x :: x' :: ns) s₀ H₀ fp) elt te)
    (hs : ∀ x, foldedSetIterable iter X.env x = pure x := by intro _; rfl) : PE X (.ListComp elt [⟨.Tuple [.Name x px, .Name x' px'] kt pt, iter, ifs, 0⟩] scope pos) (znF wi idx (zkB X.K 2 (zem (zbg 0) (zem (zbg 1) zkK))) tt te) := by
  intro pins s σ H Q I h; rw [eval_ListComp]; refine wpAny_comprehension_free (use := none) rfl hs (N.clos I.ok) N.kind N.loc (thn (hw pins s σ H _ I h) fun v s1 h1 => thn h1 fun itv s2 h2 => ?_); obtain ⟨it, fp, tn, J, H2, e, I2, T, st2, f2, q⟩ := h2; subst e; refine zg0 (RR := fun acc C => compPost (model X.prog X.w) X.A X.xe none (EP X pins σ Q) acc C) N hcalm (zii N hcalm) hi he I2 T st2 f2 q fun D C s' H' I' F' hm q' => ?_; obtain ⟨m, hn⟩ := hm; refine ⟨m, hn, fun h' hs' => ?_⟩; obtain ⟨f0, f1, f3, f4, f5, f6⟩ := F'; exact ⟨.ref D, H', I'.turned (t' := s'.toks) (fun b o hb e => (hs'.2 b hb).trans e) f0 f1 f4 f5 f6, rfl, q'⟩
end
end L2
set_option Elab.async false
set_option linter.all false
set_option maxRecDepth 100000
set_option maxHeartbeats 4000000
namespace L2
open PySem PySem.Spec PyProof.Rows
end L2
set_option Elab.async false
set_option linter.all false
set_option maxRecDepth 100000
set_option maxHeartbeats 4000000
namespace L2
open PySem PySem.Spec PyProof.Rows
section
variable {X : Cx}
theorem zcJ (K : PySem.W.Frag) (h : X.K = K := by rfl) : zbF X (.type "list") (fun xs H Q => ∃ p ys, xs = [.ref p] /\ (SqL K H p ys \/ SqT K H p ys) /\ ∀ l, H l = none -> Q (.ref l) (upd H l (.lst ys))) := h ▸ zbI
end
end L2
set_option Elab.async false
set_option linter.all false
set_option maxRecDepth 100000
set_option maxHeartbeats 4000000
namespace HT
open PySem PyProof.Rows
section
open PySem.SeqAt
open PySem.AutoSeq1 (wpAny_loadPart')
open PySem.MeetsSeq PySem.MeetsSeq2 PySem.MeetsSeq3
end
section
variable {prog : Program} {w : World} {A : Around} {E : Value -> Shared -> Prop} {s : Shared}
end
end HT
set_option Elab.async false
set_option linter.all false
set_option maxRecDepth 100000
set_option maxHeartbeats 4000000
namespace L2
open PySem PySem.Spec PyProof.Rows
end L2
set_option Elab.async false
set_option linter.all false
set_option maxRecDepth 100000
set_option maxHeartbeats 4000000
namespace L2
open PySem PySem.Spec PyProof.Rows
section
variable {X : Cx}
end
end L2
set_option Elab.async false
set_option linter.all false
set_option maxRecDepth 100000
set_option maxHeartbeats 4000000
namespace L2
open PySem PySem.Spec PyProof.Rows
section
variable {X : Cx} {x : Str} {p pos : Pos} {e : Expr} {es : List Expr} {kws : List Keyword} {t tk : TA} {id : String} {ks : List Str} {r : List V -> List V -> Hp -> VK -> Prop}
end
section
variable {X : Cx}
end
end L2
set_option Elab.async false
set_option linter.all false
set_option maxRecDepth 100000
set_option maxHeartbeats 4000000
namespace HT
open PySem PySem.SeqAt PySem.MeetsSeq PySem.MeetsSeq2 PySem.MeetsSeq3 PySem.SeqRoads2
open PySem.AutoSeq1 (wpAny_loadPart')
end HT
namespace L2
open PySem PySem.Spec PyProof.Rows
section
variable {X : Cx}
end
end L2
set_option Elab.async false
set_option linter.all false
set_option maxRecDepth 100000
set_option maxHeartbeats 4000000
namespace HT
open PySem PySem.SeqAt PySem.MeetsSeq PySem.MeetsSeq2 PySem.MeetsSeq3 PySem.SeqRoads2
open PySem.AutoSeq1 (wpAny_loadPart')
section
variable {prog : Program} {w : World} {A : Around} {E : Value -> Shared -> Prop} {s : Shared}
theorem zhi {j t : Addr} {i : Nat} {ys : Array Value} {x : Value} {Q : Value -> Shared -> Prop} (ji : s.heap.IsTupleIter j t i) (ht : s.heap.IsTuple t ys) (hx : ys[i]? = some x)
    (hQ : ∀ h', h'.IsTupleIter j t (i + 1) -> Heap.SameBut j s.heap h' -> Q x { s with heap := h' }) : wpAny (model prog w) A (Builtin.SmallTypes.nextOf (.ref j)) Q E s := by
  obtain ⟨o, o1, o2, o3⟩ := id ji; obtain ⟨p, p1, _, pn, p3⟩ := ht; unfold Builtin.SmallTypes.nextOf; refine wpAny_bind (wpAny_callSpecial?_slot (name := Str.ofString "__next__") ji.typeIs F.slot_tuple_iterator_next (wpAny_call_entry F.slot_tuple_iterator_next ji.typeIs F.entry_tuple_iterator_next ?_ (F.args_tuple_iterator_next_1 _))); show wpAny _ _ (field (.ref j) 0 >>= _) _ _ s; refine wpAny_bind (wpAny_field o1 o3 (x := .ref t) rfl ?_); show wpAny _ _ (if (Value.ref t == Value.none) = true then _ else _) _ _ s; rw [if_neg (show ¬ ((Value.ref t == Value.none) = true) from Bool.false_ne_true)]; show wpAny _ _ (field (.ref j) 1 >>= _) _ _ s; refine wpAny_bind (wpAny_field o1 o3 (x := .int i 0) rfl ?_); show wpAny _ _ (seqItems? (.ref t) >>= _) _ _ s; refine wpAny_bind (wpAny_seqItems p1 p3 ?_); simp only [Int.toNat_natCast, hx]; refine wpAny_bind (wpAny_setField o1 o3 (by simp) (wpAny_pure ⟨x, rfl, wpAny_pure (hQ _ ?_ (Heap.SameBut.update ..))⟩))
  exact ⟨_, Heap.get?_update_self _ o1 (Obj.isFreed_of_fields (Obj.data_mapFields o3 _)), (Obj.cls_mapFields ..).trans o2, by rw [Obj.data_mapFields o3]; simp [rawInt]⟩
theorem zck {j t : Addr} {i : Nat} {ys : Array Value} {Q : Value -> Shared -> Prop} (hh : A.handled = none) (ji : s.heap.IsTupleIter j t i) (ht : s.heap.IsTuple t ys) (hx : ys[i]? = none)
    (hE : ∀ h' e, Heap.ExtBut j s.heap h' -> (∃ o, h'.get? e = some o /\ o.cls = .type "StopIteration") -> E (.ref e) { s with heap := h' }) : wpAny (model prog w) A (Builtin.SmallTypes.nextOf (.ref j)) Q E s := by
  obtain ⟨o, o1, o2, o3⟩ := id ji; obtain ⟨p, p1, _, pn, p3⟩ := ht; unfold Builtin.SmallTypes.nextOf; refine wpAny_bind (wpAny_callSpecial?_slot (name := Str.ofString "__next__") ji.typeIs F.slot_tuple_iterator_next (wpAny_call_entry F.slot_tuple_iterator_next ji.typeIs F.entry_tuple_iterator_next ?_ (F.args_tuple_iterator_next_1 _))); show wpAny _ _ (field (.ref j) 0 >>= _) _ _ s; refine wpAny_bind (wpAny_field o1 o3 (x := .ref t) rfl ?_); show wpAny _ _ (if (Value.ref t == Value.none) = true then _ else _) _ _ s; rw [if_neg (show ¬ ((Value.ref t == Value.none) = true) from Bool.false_ne_true)]; show wpAny _ _ (field (.ref j) 1 >>= _) _ _ s; refine wpAny_bind (wpAny_field o1 o3 (x := .int i 0) rfl ?_); show wpAny _ _ (seqItems? (.ref t) >>= _) _ _ s; refine wpAny_bind (wpAny_seqItems p1 p3 ?_); simp only [Int.toNat_natCast, hx]; refine wpAny_bind (wpAny_rule (wpAny_bind (wpAny_setField o1 o3 (by simp) ?_)))
  show wpAny _ _ (newExc (.type "StopIteration") [] >>= _) _ _ _; refine wpAny_bind ?_; simp only [newExc, newTuple]; refine wpAny_bind (wpAny_newObj_type ?_ (by size_fits)); refine wpAny_bind (m := firstArgMember _ _) (wpAny_of_eq (a := Value.none) (by first | rfl | (simp only [firstArgMember]; rfl)) ?_)
  refine wpAny_newObj_type ?_ (by size_fits); simp only [raiseNew]
  refine wpAny_bind (wpAny_handled ?_); first | rw [show A.in1.handled = none from hh] | rw [hh]
  refine wpAny_bind (wpAny_pure (wpAny_throw ?_)); exact hE _ _ (((Heap.SameBut.update ..).extBut.push _).push _) ⟨_, Heap.get?_push_size _ rfl, rfl⟩
end
theorem draws_tup {prog : Program} {w : World} {A : Around} (hh : A.handled = none) (j t : Addr) (hne : t ≠ j) (ys : Array Value) :
    Draws prog w A j [j, t] ys.size (fun i v => ys[i]? = some v) (fun i h => h.IsTupleIter j t i /\ h.IsTuple t ys) where
  live := fun _ _ st => let ⟨o, ho, _⟩ := st.1; ⟨o, ho⟩
  frame := fun _ _ _ st hk => ⟨st.1.at fun o e => hk j (by simp) o e, let ⟨o, e, r⟩ := st.2; ⟨o, hk t (by simp) o e, r⟩⟩
  item := fun i s Q E hi st hQ => zhi st.1 st.2 (x := ys[i]) (by simp [hi]) fun h' i' s' => hQ _ h' s.toks (by simp [hi]) ⟨i', st.2.extBut s'.extBut hne⟩ s'
  done := fun s Q E st hE => zck hh st.1 st.2 (by simp) hE
theorem zif (t : Addr) (ys : Array Value) (n : Nat) (dc : Option Addr) (sl : Array (Option Value)) :
    Meets (Builtin.«enumerate.__new__» ⟨[.type "enumerate", .ref t], []⟩) (fun _ R s => s.heap.get? t = some { cls := .type "tuple", dict := dc, data := .seq ys n, slots := sl } ∧
      R (.ok (.ret (.ref (s.heap.push { cls := .type "tuple_iterator", data := .fields #[.ref t, .int 0 0] }).objs.size)))
        { s with heap := (s.heap.push { cls := .type "tuple_iterator", data := .fields #[.ref t, .int 0 0] }).push { cls := .type "enumerate", data := .fields #[.none, .bool false, .ref s.heap.objs.size, rawInt 0, .none, .none] } }) :=
  .of_wp fun prog w A R s h => by
    obtain ⟨hp, g, d, tk, os⟩ := s; obtain ⟨hl, h⟩ := h; have hsub := sub_enumerate; have hL : Heap.IsTuple (Shared.heap ⟨hp, g, d, tk, os⟩) t ys := ⟨_, hl, rfl, n, rfl⟩
    wp_walk using wpAny_loadPart' hl
    refine wpAny_stack_any fun st => wpAny_pure ?_
    split
    . rename_i c _ _ _ _ _
      cases (c == Value.type "enumerate")
      . wp_walk using wpAny_loadPart' hl, wpAny_pyIter_tuple hL
        exact ⟨_, rfl, h⟩
      . wp_walk using wpAny_loadPart' hl, wpAny_pyIter_tuple hL
        exact ⟨_, rfl, h⟩
    . wp_walk using wpAny_loadPart' hl, wpAny_pyIter_tuple hL
      exact ⟨_, rfl, h⟩
section
variable {prog : Program} {w : World} {A : Around} {E : Value -> Shared -> Prop} {s : Shared}
theorem call_enumT {t : Addr} {ys : Array Value} {Q : Value -> Shared -> Prop} (hL : s.heap.IsTuple t ys)
    (h : ∀ h', IsEnum h' (s.heap.objs.size + 1) s.heap.objs.size 0 .none -> h'.IsTupleIter s.heap.objs.size t 0 -> (∀ b o, s.heap.get? b = some o -> h'.get? b = some o) -> Q (.ref (s.heap.objs.size + 1)) { s with heap := h' }) :
    wpAny (model prog w) A (call (.type "enumerate") [.ref t]) Q E s := by
  obtain ⟨⟨c, dct, dt, sl⟩, hl, hc, n, hd⟩ := hL
  replace hc : c = .type "tuple" := hc
  replace hd : dt = .seq ys n := hd
  subst hc hd; refine callType_new F.called_enumerate (by decide) (F.typeCall_enumerate_1 _) (F.newCall_enumerate_1 _) (fun obj => F.args_object_init_2 obj _) F.entry_enumerate_new (zif t ys n dct sl) ⟨hl, ?_⟩
  have hz : (s.heap.push { cls := .type "tuple_iterator", data := .fields #[.ref t, .int 0 0] }).objs.size = s.heap.objs.size + 1 := Heap.size_push ..; show _ /\ _; rw [hz]
  have he : IsEnum ((s.heap.push { cls := .type "tuple_iterator", data := .fields #[.ref t, .int 0 0] }).push { cls := .type "enumerate", data := .fields #[.none, .bool false, .ref s.heap.objs.size, rawInt 0, .none, .none] }) (s.heap.objs.size + 1) s.heap.objs.size 0 .none := by
    have q := Heap.get?_push_size (s.heap.push { cls := .type "tuple_iterator", data := .fields #[.ref t, .int 0 0] }) (o := { cls := .type "enumerate", data := .fields #[.none, .bool false, .ref s.heap.objs.size, rawInt 0, .none, .none] }) rfl; rw [hz] at q; exact q
  exact ⟨⟨_, he, rfl⟩, h _ he ⟨_, Heap.get?_push_of_some _ (Heap.get?_push_size _ rfl), rfl, rfl⟩ fun b o x => Heap.get?_push_of_some _ (Heap.get?_push_of_some _ x)⟩
theorem enum_endT {e j t : Addr} {i : Nat} {k : Int} {ys : Array Value} {old : Value} {Q : Option Value -> Shared -> Prop} (hh : A.handled = none) (he : IsEnum s.heap e j k old) (ji : s.heap.IsTupleIter j t i) (ht : s.heap.IsTuple t ys) (hx : ys[i]? = none)
    (hQ : ∀ h', Heap.ExtBut j s.heap h' -> Q none { s with heap := h' }) : wpAny (model prog w) A (pyNext (.ref e)) Q E s := by
  have tE : s.TypeIs (.ref e) "enumerate" := ⟨_, he, rfl⟩; unfold pyNext; refine wpAny_bind (wpAny_attempt (wpAny_callSpecial?_slot (name := Str.ofString "__next__") tE F.slot_enumerate_next (wpAny_call_entry F.slot_enumerate_next tE F.entry_enumerate_next ?_ (F.args_enumerate_next_1 _)))); show wpAny _ _ (field (.ref e) 2 >>= _) _ _ _; refine wpAny_bind (wpAny_field he rfl (x := .ref j) rfl ?_); refine wpAny_bind (zck (A := A.in1) hh ji ht hx fun h' x eb hx' => ?_); obtain ⟨o, o1, o2⟩ := hx'; refine wpAny_bind (wpAny_isInstance (T := "StopIteration") (b := true) ⟨o, o1, o2⟩ isSubtype_stop (wpAny_pure (hQ _ eb)))
end
end HT
namespace L2
open PySem PySem.Spec PyProof.Rows
def zi8 (K : PySem.W.Frag) (a : Addr) : It :=
  ⟨fun i H => ∃ xs x, SqT K H a xs /\ xs[i]? = some x, fun i H x H' => ∃ t, x = .ref t /\ H t = none /\ ∀ xs y, SqT K H a xs -> xs[i]? = some y -> H' = upd H t (.tup [.int i, y]), fun i H => ∃ xs, SqT K H a xs /\ xs.length <= i⟩
theorem zgQ {P : Program} {w : World} {K : PySem.W.Frag} {elts : List Expr} {x1 : Nat} {tpos : Pos} (a e it : Addr) (hei : e ≠ it) : ze6 P w K (.Tuple elts x1 tpos) (zi8 K a) [e, it] e (fun i h => (∃ old, IsEnum h e it ((i : Nat) : Int) old) /\ h.IsTupleIter it a i) where
  mem := by simp
  obj := fun i h ⟨⟨old, he⟩, st⟩ b hb => by
    rcases List.mem_cons.mp hb with rfl | hb
    . exact ⟨_, he, fun v z => by cases (show Data.fields _ = Data.cell v from z)⟩
    . rw [List.mem_singleton.mp hb]; obtain ⟨o, e, c, d⟩ := st; exact ⟨o, e, fun v z => by rw [d] at z; cases z⟩
  keep := fun i h h' ⟨⟨old, he⟩, st⟩ k => ⟨⟨old, k e (by simp) _ he⟩, st.at fun o q => k it (by simp) o q⟩
  item := by
    intro X hP hw hK hc i pins s σ H E I hf st hg; subst hP hw hK; obtain ⟨⟨old, he⟩, st⟩ := st; obtain ⟨xs, x, hq, hx⟩ := hg; obtain ⟨its, rv, p, hz⟩ := I.tuple hq; have pT : s.heap.IsTuple a its.toArray := p; obtain ⟨u, hu, ru⟩ := rv.get hx; have g1 := hf e (by simp)
    have g2 := hf it (by simp)
    have hsz : sizeLine = 16777216 := sizeLine_eq
    have hai : a ≠ it := fun z => by
      obtain ⟨o, q1, q2, _⟩ := pT; obtain ⟨o', q3, q4, _⟩ := st; rw [z, q3] at q1; cases q1; rw [q4] at q2; exact absurd q2 (by decide)
    have hae : e ∉ [it, a] := fun z => by
      rcases List.mem_cons.mp z with z | z
      . exact hei z
      . obtain ⟨o, q1, q2, _⟩ := pT; rw [<- List.mem_singleton.mp z, he] at q1; cases q1; exact absurd (show Value.type "enumerate" = Value.type "tuple" from q2) (by decide)
    have hlt : i < its.toArray.size := by
      rcases Nat.lt_or_ge i its.length with h | h
      . simpa using h
      . rw [List.getElem?_eq_none h] at hu; cases hu
    refine wpAny_pyNext_enum_itemD (HT.draws_tup (A := X.A.in1) (I.ok.hd hc) it a hai its.toArray) he ⟨st, pT⟩ hlt hei hae fun y h' tk hy heo hit' ht' hz' k' => ?_
    have hyu : y = u := by
      have : its[i]? = some y := by simpa using hy
      rw [hu] at this; exact (Option.some.inj this).symm
    subst hyu; refine ⟨_, rfl, wpAny_letOwnedTupleGo_enum heo fun h2 he2 hs2 => ?_⟩; have hlt : e < s.heap.objs.size := Heap.lt_size he; have k2 : ∀ b o, b ≠ e -> b ≠ it -> s.heap.get? b = some o -> h2.get? b = some o := fun b o b1 b2 q => hs2.extBut b o b1 (k' b o b1 b2 q); have ht2 : h2.get? s.heap.objs.size = some { cls := .type "tuple", data := .seq #[.int i tk, y] } := hs2.extBut _ _ (Nat.ne_of_gt hlt) ht'; have hfr := I.hok.fresh (Nat.le_refl s.heap.objs.size)
    have I2 : Inv X pins σ (upd H s.heap.objs.size (.tup [.int i, x])) { s with heap := h2, toks := tk + 1 } :=
      I.turned2 k2 g1 g2 (Nat.le_refl _) (show ObjOk X.prog X.w _ h2 _ (.tup [.int i, x]) from ⟨by show 2 <= sizeLine; omega, [.int i tk, y], .cons ⟨_, rfl⟩ (.cons ru .nil), ⟨_, ht2, rfl, _, rfl⟩⟩)
    have hcast : ((i + 1 : Nat) : Int) = (i : Int) + 1 := by push_cast; rfl
    refine ⟨.ref s.heap.objs.size, _, I2, rfl, ⟨_, rfl, hfr, fun ys y hy hyi => ?_⟩, ⟨⟨y, hcast ▸ he2⟩, hit'.1.extBut hs2.extBut (Ne.symm hei)⟩, fun b hb => ?_⟩
    . rw [I.tuple_inj hy hq, hx] at hyi; rw [Option.some.inj hyi]
    . have hb' : b < s.heap.objs.size := by
        rcases List.mem_cons.mp hb with rfl | hb
        . exact hlt
        . rw [List.mem_singleton.mp hb]; obtain ⟨o, q, _⟩ := st; exact Heap.lt_size q
      rw [zah (Nat.ne_of_lt hb')]; exact (hf b hb).1
  done := by
    intro X hP hw hK hc i pins s σ H E I hf st hg; subst hP hw hK; obtain ⟨⟨old, he⟩, st⟩ := st; obtain ⟨xs, hq, hx⟩ := hg; obtain ⟨its, rv, p, hz⟩ := I.tuple hq; have pT : s.heap.IsTuple a its.toArray := p; obtain ⟨f0, f1, f2, f3, f4, f5⟩ := hf it (by simp)
    have hl := rv.length
    have hai : a ≠ it := fun z => by
      obtain ⟨o, q1, q2, _⟩ := pT; obtain ⟨o', q3, q4, _⟩ := st; rw [z, q3] at q1; cases q1; rw [q4] at q2; exact absurd q2 (by decide)
    have nx : its.toArray[i]? = none := by simp; omega
    exact HT.enum_endT (I.ok.hd hc) he st pT nx fun h' eb => ⟨rfl, I.turned (t' := s.toks) (fun b o hb e => eb b o hb e) f0 f1 f3 f4 f5⟩
  self := fun _ _ _ _ _ ⟨⟨_, he⟩, _⟩ h => wpAny_pyIter_enum he h
def zmm (K : PySem.W.Frag) (ta : TA) : TI := fun σ H R => ta σ H fun vs H1 => ∃ a, vs = [.ref a] /\ (∃ xs, SqT K H1 a xs) /\ R (zi8 K a) H1
section
variable {X : Cx}
theorem zjK {a : Expr} {ta : TA} {p pos tpos : Pos} {elts : List Expr} {x1 : Nat} (hg : Gl X "enumerate") (hm : X.mg "enumerate" = none) (ha : PA X [a] ta) (hs : starEach [a] X.env = [(false, eval a X.env)] := by rfl) :
    PI X (.Tuple elts x1 tpos) (.Call (.Name "enumerate" p) [a] [] pos) (zmm X.K ta) := by
  intro pins s σ H R I h; refine Call_ (zc8 I hg hm boot_enumerate (PyProof.Rows.callWith_type1 (thn (ha pos pins s σ H _ I h) fun us s1 ⟨vs, H1, I1, r1, q1⟩ => ?_) hs rfl)); obtain ⟨l, e, ⟨xs, hq⟩, q⟩ := q1; subst e
  cases r1 with
  | cons r rr =>
    cases rr; cases r; obtain ⟨its, rv, pl, hz⟩ := I1.tuple hq; refine HT.call_enumT (show s1.heap.IsTuple l its.toArray from pl) fun h' he hit kp => ?_; refine wpAny_pyIter_enum (s := { s1 with heap := h' }) he ⟨s1.heap.objs.size + 1, [s1.heap.objs.size + 1, s1.heap.objs.size], _, _, H1, rfl, I1.kept (t' := s1.toks) kp, zgQ l _ _ (Nat.succ_ne_self _), ⟨⟨_, he⟩, hit⟩, fun b hb => ?_, q⟩
    rcases List.mem_cons.mp hb with rfl | hb
    . exact I1.fpOk (Nat.le_succ _) (I1.hok.fresh (Nat.le_succ _))
    . rw [List.mem_singleton.mp hb]; exact I1.fpOk (Nat.le_refl _) (I1.hok.fresh (Nat.le_refl _))
theorem zik {K : PySem.W.Frag} {a : Addr} {xs : List V} {g : TG} {tb : TS} {D : zci} {σ : St} {H : Hp} (Pv : Nat -> St -> Hp -> Prop) (h0 : Pv 0 σ H) (hl : ∀ i σ H, i <= xs.length -> Pv i σ H -> SqT K H a xs)
    (hs : ∀ i x t σ H, xs[i]? = some x -> Pv i σ H -> H t = none -> g (.ref t) σ (upd H t (.tup [.int i, x])) fun σ2 H2 => tb { D with nx := Pv (i + 1), ct := Pv (i + 1), bk := D.nx } σ2 H2) (hd : ∀ σ H, Pv xs.length σ H -> D.nx σ H) :
    ∃ W : Nat -> Nat -> St -> Hp -> Prop, (∃ m, W 0 m σ H) /\ ∀ i m σ H, W i m σ H →
      ((zi8 K a).stop i H /\ D.nx σ H) \/ ((zi8 K a).go i H /\ ∃ N : St -> Hp -> Prop, (∀ σ' H', N σ' H' -> ∃ m', m' < m /\ W (i + 1) m' σ' H') /\ ∀ x H', (zi8 K a).yld i H x H' -> g x σ H' fun σ2 H2 => tb { D with nx := N, ct := N, bk := D.nx } σ2 H2) := by
  refine ⟨fun i m σ H => m = xs.length - i /\ i <= xs.length /\ Pv i σ H, ⟨xs.length, by simp, Nat.zero_le _, h0⟩, ?_⟩
  rintro i m σ H ⟨rfl, hi, p⟩; have hq := hl i σ H hi p
  by_cases hlt : i < xs.length
  . refine .inr ⟨⟨xs, xs[i], hq, List.getElem?_eq_getElem hlt⟩, fun σ' H' => Pv (i + 1) σ' H', fun σ' H' p' => ⟨xs.length - (i + 1), by omega, rfl, by omega, p'⟩, ?_⟩
    rintro x H' ⟨t, rfl, ht, hH⟩; rw [hH xs _ hq (List.getElem?_eq_getElem hlt)]; exact hs i _ t σ H (List.getElem?_eq_getElem hlt) p ht
  . have e : i = xs.length := by omega
    subst e; exact .inl ⟨⟨xs, hq, Nat.le_refl _⟩, hd σ H p⟩
end
end L2
set_option Elab.async false
set_option linter.all false
set_option maxRecDepth 100000
set_option maxHeartbeats 4000000
namespace L2
open PySem PySem.Spec PyProof.Rows
def Mv (H H' : Hp) : Prop := ∀ b o, H b = some o -> (∀ ps, o ≠ .tbl ps) -> H' b = some o
theorem Same.mv {H H' : Hp} (a : Same H H') : Mv H H' := fun c o h _ => a c o h
theorem Mv.tups {H H' : Hp} (m : Mv H H') {a : Addr} {xs : List V} (h : H a = some (.tup xs)) : H' a = some (.tup xs) := m _ _ h fun _ z => by cases z
section
variable {P : Program} {w : World} {K : PySem.W.Frag} {mg : Str -> Option Value} {base : Heap}
end
end L2
set_option Elab.async false
set_option linter.all false
set_option maxRecDepth 100000
set_option maxHeartbeats 4000000
namespace L2
open PySem PySem.Spec PyProof.Rows
end L2
set_option Elab.async false
set_option linter.all false
set_option maxRecDepth 100000
set_option maxHeartbeats 4000000
namespace L2
open PySem PySem.Spec PyProof.Rows
section
variable {X : Cx}
end
end L2
set_option Elab.async false
set_option linter.all false
set_option maxRecDepth 100000
set_option maxHeartbeats 4000000
namespace HT
open PySem L2 PyProof.Rows
section
variable {P : Program} {w : World} {A : Around} {E : Value -> Shared -> Prop} {s : Shared} {d : Addr} {ob : Obj} {ep : Nat} {k : List Int ⊕ Int} {key v : Value}
theorem zh5 {Q : Option Nat -> Shared -> Prop} (hu : A.units + 80 < cLine) (hk : zeZ P w s.heap k key) (ho : s.heap.get? d = some ob) (hd : ob.data = .dict #[] ep) (q : Q none s) : wpAny (model P w) A (dictFind d key ((zbn P w).hash k)) Q E s := by
  cases k with
  | inl ks =>
    obtain ⟨a, rfl, ha⟩ := hk; exact wpAny_dictFind_heap (knd := tupleKind (intKind P w)) (xs := []) (k := ks) (by show A.units < cLine; omega) ha ho hd rfl (fun x hx => by cases hx) List.nodup_nil (fun _ => q) fun j p hj => by simp at hj
  | inr i =>
    obtain ⟨t, rfl⟩ := hk; exact wpAny_dictFind_of (knd := intKind P w) (k := i) (by simp [intKind, Value.isInt]) ho hd (fun e he => by simp at he) (by rw [show (#[] : Array DictEntry).findIdx? (fun e => (intKind P w).is i e.key) = none by simp]; exact q)
theorem zjX {Q : Option Nat -> Shared -> Prop} {key2 : Value} (hu : A.units + 80 < cLine) (hk : zeZ P w s.heap k key) (hk2 : zeZ P w s.heap k key2) (ho : s.heap.get? d = some ob) (hd : ob.data = .dict #[⟨(zbn P w).hash k, key2, v⟩] ep) (q : Q (some 0) s) : wpAny (model P w) A (dictFind d key ((zbn P w).hash k)) Q E s := by
  cases k with
  | inl ks =>
    obtain ⟨a, rfl, ha⟩ := hk; obtain ⟨b, rfl, hb⟩ := hk2; refine wpAny_dictFind_heap (knd := tupleKind (intKind P w)) (xs := [(ks, b, v)]) (k := ks) (by show A.units < cLine; omega) ha ho hd rfl (fun x hx => by rw [List.mem_singleton.mp hx]; exact hb) (by simp) (fun h => absurd rfl (h 0 (b, v))) fun j p hj => ?_
    cases j with
    | zero => exact q
    | succ j => simp at hj
  | inr i =>
    obtain ⟨t, rfl⟩ := hk; obtain ⟨t2, rfl⟩ := hk2; refine wpAny_dictFind_of (knd := intKind P w) (k := i) (by simp [intKind, Value.isInt]) ho hd (fun e he => ?_) ?_
    . have : e = ⟨(zbn P w).hash (.inr i), .int i t2, v⟩ := by simpa using he
      subst this; exact ⟨i, by simp [intKind, Value.isInt], rfl⟩
    . have : (#[(⟨(zbn P w).hash (.inr i), .int i t2, v⟩ : DictEntry)].findIdx? fun e => (intKind P w).is i e.key) = some 0 := by simp [intKind, Value.isInt]
      rw [this]; exact q
theorem ziy {Q : Unit -> Shared -> Prop} (hu : A.units + 80 < cLine) (hk : zeZ P w s.heap k key) (ho : s.heap.get? d = some ob) (hx : ob.ExactDict) (hd : ob.data = .dict #[] ep)
    (q : ∀ h' o' ep', h'.get? d = some o' -> o'.ExactDict -> o'.data = .dict #[⟨(zbn P w).hash k, key, v⟩] ep' -> Heap.SameBut d s.heap h' -> Q () { s with heap := h' }) : wpAny (model P w) A (dictSetHashed d key ((zbn P w).hash k) v) Q E s := by
  unfold dictSetHashed
  try with_reducible refine wpAny_holding ?_
  refine wpAny_bind (zh5 hu hk ho hd ?_); refine wpAny_bind (wpAny_rule (wpAny_updateDictKeys (hz := by simp) ho hd ?_))
  exact q _ _ (ep + 1) (Heap.get?_update_self _ ho (Obj.isFreed_of_dict (Obj.data_mapDictKeys hd _))) (hx.mapDictKeys _) (Obj.data_mapDictKeys hd _) (Heap.SameBut.update ..)
theorem sd_dictSet {Q : Unit -> Shared -> Prop} (hu : A.units + 80 < cLine) (hk : zeZ P w s.heap k key) (ho : s.heap.get? d = some ob) (hx : ob.ExactDict) (hd : ob.data = .dict #[] ep)
    (q : ∀ h' o' ep' tk, h'.get? d = some o' -> o'.ExactDict -> o'.data = .dict #[⟨(zbn P w).hash k, key, v⟩] ep' -> Heap.SameBut d s.heap h' -> Q () { s with heap := h', toks := tk }) : wpAny (model P w) A (dictSet d key v) Q E s := by
  unfold dictSet
  try with_reducible refine wpAny_holding ?_
  refine wpAny_bind ((zbn P w).pyHash hu hk ?_); exact ziy (s := { s with toks := s.toks + (zbn P w).draws k }) hu hk ho hx hd fun h' o' ep' a b c e => q h' o' ep' _ a b c e
theorem sd_setItem {Q : Unit -> Shared -> Prop} (hu : A.units + 100 < cLine) (hk : zeZ P w s.heap k key) (ho : s.heap.get? d = some ob) (hx : ob.ExactDict) (hd : ob.data = .dict #[] ep)
    (q : ∀ h' o' ep' tk, h'.get? d = some o' -> o'.ExactDict -> o'.data = .dict #[⟨(zbn P w).hash k, key, v⟩] ep' -> Heap.SameBut d s.heap h' -> Q () { s with heap := h', toks := tk }) : wpAny (model P w) A (setItem (.ref d) key v) Q E s := by
  have hT : s.TypeIs (.ref d) "dict" := ⟨ob, ho, hx.1⟩; unfold setItem
  try with_reducible refine wpAny_holding ?_
  refine wpAny_bind (wpAny_sequenceKey hT (by decide) ?_)
  refine wpAny_bind (wpAny_callSpecial?_slot (name := Str.ofString "__setitem__") hT slot_dict_setitem
    (wpAny_call_entry slot_dict_setitem hT entry_dict_setitem ?_ (args_dict_setitem _ _ _)))
  show wpAny _ _ (Builtin.Dict.notOrdered "__setitem__" ⟨[.ref d, key, v], []⟩ >>= _) _ _ s; refine wpAny_bind (wpAny_notOrdered_dict hT ?_); show wpAny _ _ (dictSet d key v >>= _) _ _ s; exact wpAny_bind (sd_dictSet (A := A.in1) (show A.units + 1 + 80 < cLine by omega) hk ho hx hd fun h' o' ep' tk a b c e => wpAny_pure ⟨.none, rfl, wpAny_pure (q h' o' ep' tk a b c e)⟩)
theorem sd_getItem {Q : Value -> Shared -> Prop} {key2 : Value} (hu : A.units + 100 < cLine) (hk : zeZ P w s.heap k key) (hk2 : zeZ P w s.heap k key2) (ho : s.heap.get? d = some ob) (hx : ob.ExactDict) (hd : ob.data = .dict #[⟨(zbn P w).hash k, key2, v⟩] ep)
    (q : ∀ tk, Q v { s with toks := tk }) : wpAny (model P w) A (getItem (.ref d) key) Q E s := by
  have hT : s.TypeIs (.ref d) "dict" := ⟨ob, ho, hx.1⟩; unfold getItem
  try with_reducible refine wpAny_holding ?_
  refine wpAny_bind (wpAny_sequenceKey hT (by decide) ?_)
  refine wpAny_bind (wpAny_callSpecial?_slot (name := Str.ofString "__getitem__") hT slot_dict_getitem
    (wpAny_call_entry slot_dict_getitem hT entry_dict_getitem ?_ (args_dict_getitem _ _)))
  show wpAny _ _ (dictGet d key >>= _) _ _ s; refine wpAny_bind ?_; unfold dictGet
  try with_reducible refine wpAny_holding ?_
  refine wpAny_bind ((zbn P w).pyHash (A := A.in1) (show A.units + 1 + 80 < cLine by omega) hk ?_)
  refine wpAny_bind (zjX (s := { s with toks := s.toks + (zbn P w).draws k }) (A := A.in1) (show A.units + 1 + 80 < cLine by omega) hk hk2 ho hd ?_)
  refine wpAny_bind (wpAny_dictEntries (s := { s with toks := s.toks + (zbn P w).draws k }) ho hd ?_)
  exact wpAny_pure (wpAny_pure ⟨v, rfl, wpAny_pure (q _)⟩)
end
end HT
set_option Elab.async false
set_option linter.all false
set_option maxRecDepth 100000
set_option maxHeartbeats 4000000
namespace HT
open PySem L2 PyProof.Rows
section
variable {P : Program} {w : World} {A : Around} {E : Value -> Shared -> Prop} {s : Shared} {d : Addr} {ob : Obj} {ep : Nat} {es : Array DictEntry}
theorem iter_keys {Q : Value -> Shared -> Prop} (hS : (d == sysModules) = false) (ho : s.heap.get? d = some ob) (hx : ob.ExactDict) (hd : ob.data = .dict es ep)
    (q : Q (.ref s.heap.objs.size) { s with heap := s.heap.push { cls := .type "dict_keyiterator", data := .fields #[.ref d, .int 0 0, .int es.size 0, .int ep 0] } }) : wpAny (model P w) A (pyIter (.ref d)) Q E s := by
  have hT : s.TypeIs (.ref d) "dict" := ⟨ob, ho, hx.1⟩; refine wpAny_pyIter_slot hT PySem.F.slot_dict_iter (wpAny_call_entry PySem.F.slot_dict_iter hT PySem.F.entry_dict_iter ?_ (PySem.F.args_dict_iter_1 _)); unfold Builtin.«dict.__iter__»; refine wpAny_bind ?_; unfold Builtin.Dict.dictSlotNone; refine wpAny_bind (wpAny_notOrdered_dict hT ?_); show wpAny _ _ (pure (Value.ref d)) _ _ s; refine wpAny_pure ?_; show wpAny _ _ (Builtin.Dict.showsAll d >>= _) _ _ s; unfold Builtin.Dict.showsAll; rw [if_neg (by rw [hS]; exact Bool.false_ne_true)]
  refine wpAny_bind (wpAny_pure ?_); refine wpAny_bind (wpAny_dictEntries ho hd ?_); refine wpAny_bind (wpAny_dictEpoch ho hd ?_); exact wpAny_bind (wpAny_newObj_type (wpAny_pure ⟨_, rfl, "dict_keyiterator", _, ⟨_, Heap.get?_push_size _ rfl, rfl⟩, PySem.F.slot_dict_keyiterator_next.lookup, q⟩))
theorem next_key {Q : Option Value -> Shared -> Prop} {it : Addr} {i : Nat} {e : DictEntry} (hit : s.heap.IsKeyIter it d i es.size ep) (ho : s.heap.get? d = some ob) (hd : ob.data = .dict es ep) (he : es[i]? = some e)
    (q : ∀ h', h'.IsKeyIter it d (i + 1) es.size ep -> Heap.SameBut it s.heap h' -> Q (some e.key) { s with heap := h' }) : wpAny (model P w) A (pyNext (.ref it)) Q E s := by
  obtain ⟨oi, hoi, hci, hdi⟩ := id hit; have hT := hit.typeIs; unfold pyNext
  refine wpAny_bind (wpAny_attempt (wpAny_callSpecial?_slot (name := Str.ofString "__next__") hT PySem.F.slot_dict_keyiterator_next
    (wpAny_call_entry PySem.F.slot_dict_keyiterator_next hT PySem.F.entry_dict_keyiterator_next ?_ (PySem.F.args_dict_keyiterator_next_1 _))))
  refine wpAny_bind (wpAny_pure ?_); refine wpAny_bind ?_; refine wpAny_bind ?_
  first | refine wpAny_bind (wpAny_typeNameOfWhole_keyiter hT (wpAny_pure ?_)) | refine wpAny_bind (wpAny_typeNameOf_keyiter hT (wpAny_pure ?_))
  refine wpAny_bind (wpAny_fieldsOf hoi hdi ?_); simp only [show Builtin.Dict_items.ownsTuple "dict_keyiterator" = false by decide, Bool.false_eq_true, if_false]
  show wpAny _ _ (if (Value.ref d == Value.none) = true then _ else _) _ _ s; rw [if_neg (show ¬ ((Value.ref d == Value.none) = true) from Bool.false_ne_true)]; refine wpAny_bind (wpAny_pure ?_); refine wpAny_bind (wpAny_dictEntries ho hd ?_); rw [if_neg (by simp)]
  refine wpAny_bind (wpAny_pure ?_); refine wpAny_bind (wpAny_dictEpoch ho hd ?_); rw [if_neg (by simp)]
  refine wpAny_pure ?_; simp only [show ¬ ((i : Int) < 0) from by omega, if_false, Int.toNat_natCast, he]
  refine wpAny_bind ?_
  first | refine wpAny_bind (wpAny_typeNameOfWhole_keyiter hT (wpAny_pure ?_)) | refine wpAny_bind (wpAny_typeNameOf_keyiter hT (wpAny_pure ?_))
  refine wpAny_bind (wpAny_isOneOf_keyiter hT ?_); show wpAny _ _ (setField (.ref it) 1 (rawInt ((i : Int) + 1)) >>= _) _ _ s; refine wpAny_bind (wpAny_setField hoi hdi (by simp) ?_)
  have hit' : (s.heap.update it (Obj.mapFields (·.setIfInBounds 1 (rawInt ((i : Int) + 1))))).IsKeyIter it d (i + 1) es.size ep :=
    ⟨_, Heap.get?_update_self _ hoi (Obj.isFreed_of_fields (Obj.data_mapFields hdi _)), (Obj.cls_mapFields ..).trans hci, by rw [Obj.data_mapFields hdi]; simp [rawInt]⟩
  refine wpAny_bind (wpAny_holding ?_); refine wpAny_bind (wpAny_isOneOf_keyiter (s := { s with heap := s.heap.update it (Obj.mapFields (·.setIfInBounds 1 (rawInt ((i : Int) + 1)))) }) hit'.typeIs ?_)
  show wpAny _ _ (pure e.key) _ _ _; exact wpAny_pure (wpAny_pure ⟨_, rfl, wpAny_pure (q _ hit' (Heap.SameBut.update ..))⟩)
theorem next_end {Q : Option Value -> Shared -> Prop} {it : Addr} {i : Nat} (hh : A.handled = none) (hit : s.heap.IsKeyIter it d i es.size ep) (ho : s.heap.get? d = some ob) (hd : ob.data = .dict es ep) (hi : es.size <= i)
    (q : ∀ h', Heap.ExtBut it s.heap h' -> Q none { s with heap := h' }) : wpAny (model P w) A (pyNext (.ref it)) Q E s := by
  obtain ⟨oi, hoi, hci, hdi⟩ := id hit; have hT := hit.typeIs; unfold pyNext
  refine wpAny_bind (wpAny_attempt (wpAny_callSpecial?_slot (name := Str.ofString "__next__") hT PySem.F.slot_dict_keyiterator_next
    (wpAny_call_entry PySem.F.slot_dict_keyiterator_next hT PySem.F.entry_dict_keyiterator_next ?_ (PySem.F.args_dict_keyiterator_next_1 _))))
  refine wpAny_bind (wpAny_pure ?_); refine wpAny_bind ?_; refine wpAny_bind ?_
  first | refine wpAny_bind (wpAny_typeNameOfWhole_keyiter hT (wpAny_pure ?_)) | refine wpAny_bind (wpAny_typeNameOf_keyiter hT (wpAny_pure ?_))
  refine wpAny_bind (wpAny_fieldsOf hoi hdi ?_); simp only [show Builtin.Dict_items.ownsTuple "dict_keyiterator" = false by decide, Bool.false_eq_true, if_false]
  show wpAny _ _ (if (Value.ref d == Value.none) = true then _ else _) _ _ s; rw [if_neg (show ¬ ((Value.ref d == Value.none) = true) from Bool.false_ne_true)]; refine wpAny_bind (wpAny_pure ?_); refine wpAny_bind (wpAny_dictEntries ho hd ?_); rw [if_neg (by simp)]
  refine wpAny_bind (wpAny_pure ?_); refine wpAny_bind (wpAny_dictEpoch ho hd ?_); rw [if_neg (by simp)]
  refine wpAny_pure ?_; simp only [show ¬ ((i : Int) < 0) from by omega, if_false, Int.toNat_natCast, Array.getElem?_eq_none hi]
  refine wpAny_bind ?_
  first | refine wpAny_bind (wpAny_typeNameOfWhole_keyiter hT (wpAny_pure ?_)) | refine wpAny_bind (wpAny_typeNameOf_keyiter hT (wpAny_pure ?_))
  show wpAny _ _ (setField (.ref it) 0 .none >>= _) _ _ s; refine wpAny_bind (wpAny_setField hoi hdi (by simp) ?_)
  show wpAny _ _ (newExc (.type "StopIteration") [] >>= _) _ _ _; refine wpAny_bind ?_; simp only [newExc, newTuple]; refine wpAny_bind (wpAny_newObj_type ?_ (by size_fits))
  refine wpAny_bind (m := firstArgMember _ _) (wpAny_of_eq (a := Value.none) (by first | rfl | (simp only [firstArgMember]; rfl)) ?_)
  refine wpAny_newObj_type ?_ (by size_fits)
  simp only [raiseNew]; refine wpAny_bind (wpAny_handled ?_); rw [show A.in1.handled = none from hh]; refine wpAny_bind (wpAny_pure (wpAny_throw ?_)); refine wpAny_bind (wpAny_isInstance (T := "StopIteration") (b := true) ⟨_, Heap.get?_push_size _ rfl, rfl⟩ isSubtype_stop ?_); exact wpAny_pure (q _ (((Heap.SameBut.update ..).extBut.push _).push _))
theorem truthy_dict {Q : Bool -> Shared -> Prop} (hS : (d == sysModules) = false) (ho : s.heap.get? d = some ob) (hx : ob.ExactDict) (hd : ob.data = .dict es ep) (hf : (es.size : Int) < 2 ^ 63)
    (q : Q (!es.isEmpty) { s with toks := s.toks + 1 + 1 }) : wpAny (model P w) A (truthy (.ref d)) Q E s := by
  have hT : s.TypeIs (.ref d) "dict" := ⟨ob, ho, hx.1⟩
  have hne : ((es.size : Int) != 0) = !es.isEmpty := by
    rw [Array.isEmpty]
    cases h : es.size with
    | zero => rfl
    | succ n => simp; omega
  have core : wpAny (model P w) A (runValue (.builtin "len" ⟨[.ref d], []⟩)) (fun r s' => r = .int es.size (s.toks + 1) /\ Q (!es.isEmpty) s') E s := by
    refine wpAny_runValue (codeAny_builtin entry_len ?_); rw [Around.under_plainId plain_len _]; unfold Builtin.«len»; refine wpAny_bind (m := oneArg "len" _) (wpAny_pure ?_); refine wpAny_bind (m := callSpecial? (.ref d) (Str.ofString "__len__")) (wpAny_callSpecial?_slot (name := Str.ofString "__len__") hT PySem.F.slot_dict_len (wpAny_call_entry PySem.F.slot_dict_len hT PySem.F.entry_dict_len ?_ (PySem.F.args_dict_len_1 _))); show wpAny _ _ (dictSize d >>= _) _ _ s; unfold dictSize; refine wpAny_bind (wpAny_bind (wpAny_dictEntries ho hd (wpAny_pure ?_))); show wpAny _ _ (Builtin.Dict.pendingCount d >>= _) _ _ s; refine wpAny_bind (wpAny_pendingCount_other hS ?_); refine wpAny_ret_mkInt ?_; rw [show ((es.size : Int) + ((0 : Nat) : Int)) = ((es.size : Nat) : Int) by simp]
    refine wpAny_bind (wpAny_holding (wpAny_pure ?_)); refine wpAny_bind (wpAny_letGo ?_); show wpAny _ _ (if ((es.size : Nat) : Int) < 0 then _ else _) _ _ _; rw [if_neg (by omega)]
    show wpAny _ _ (if ((es.size : Nat) : Int) ≥ 2 ^ 63 then _ else _) _ _ _; rw [if_neg (by omega)]
    exact wpAny_bind (wpAny_mkInt (wpAny_pure ⟨rfl, q⟩))
  unfold truthy
  first
    | refine wpAny_bind (wpAny_callSpecial?_none (name := Str.ofString "__bool__") hT noBool_dict ?_)
    | refine wpAny_bind (wpAny_pure (wpAny_bind (wpAny_callSpecial?_none (name := Str.ofString "__bool__") hT noBool_dict ?_)))
  first
    | refine wpAny_bind (wpAny_specialOf (name := Str.ofString "__len__") hT PySem.F.slot_dict_len.lookup ?_)
    | refine wpAny_bind (wpAny_pure (wpAny_bind (wpAny_specialOf (name := Str.ofString "__len__") hT PySem.F.slot_dict_len.lookup ?_)))
  first
    | exact wpAny_bind (wpAny_mono core (fun r s' h' => by obtain ⟨rfl, hq⟩ := h'; exact wpAny_pure (hne ▸ hq)) fun _ _ e => e)
    | exact wpAny_bind (wpAny_pure (wpAny_bind (wpAny_mono core (fun r s' h' => by obtain ⟨rfl, hq⟩ := h'; exact wpAny_pure (hne ▸ hq)) fun _ _ e => e)))
end
end HT
set_option Elab.async false
set_option linter.all false
set_option maxRecDepth 100000
set_option maxHeartbeats 4000000
namespace L2
open PySem PySem.Spec PyProof.Rows
abbrev TK := List Int ⊕ Int
def zaM (d : Addr) (o : Obj) : Heap -> Prop := fun h => h.get? d = some o
theorem zeQ {P : Program} {w : World} {H : Hp} {h : Heap} {d : Addr} {o : Obj} (x : h.get? d = some o) : ObjOk P w H h d (.ext (zaM d o)) := ⟨x, ⟨o, x⟩, fun h1 h2 q k => k _ q⟩
def SDict (P : Program) (w : World) (K : PySem.W.Frag) (H : Hp) (d : Addr) (o : Obj) (kvs : List (TK × V × V)) : Prop :=
  H d = some (.ext (zaM d o)) /\ (d == sysModules) = false /\ o.ExactDict /\ (∃ es ep, o.data = .dict es ep /\ Paired (fun (p : TK × V × V) (e : DictEntry) => e.hash = (zbn P w).hash p.1 /\ RelV p.2.1 e.key /\ RelV p.2.2 e.val) kvs es.toList) /\ (∀ p ∈ kvs, elAt K H p.1 p.2.1) /\ kvs.length <= 1
theorem elAt.moved {K : PySem.W.Frag} {H H' : Hp} {k : TK} {v : V} (ht : ∀ b ys, H b = some (.tup ys) -> H' b = some (.tup ys)) (hf : ∀ b o u, H b = some (.frz o u) -> H' b = some (.frz o u)) (h : elAt K H k v) : elAt K H' k v := by
  cases k with
  | inl ks => obtain ⟨t, e, h⟩ := h; exact ⟨t, e, SqT.moved ht hf h⟩
  | inr i => exact h
theorem elAt.mv {K : PySem.W.Frag} {H H' : Hp} {k : TK} {v : V} (s : Mv H H') (h : elAt K H k v) : elAt K H' k v := elAt.moved (fun b ys e => s.tups e) (fun b o u e => s _ _ e fun _ z => by cases z) h
section
variable {P : Program} {w : World} {K : PySem.W.Frag} {H H' : Hp} {d : Addr} {o : Obj} {kvs : List (TK × V × V)}
theorem SDict.mv (s : Mv H H') (h : SDict P w K H d o kvs) : SDict P w K H' d o kvs := by
  obtain ⟨h1, h2, h3, h4, h5, h6⟩ := h; exact ⟨s _ _ h1 (fun _ z => by cases z), h2, h3, h4, fun p hp => (h5 p hp).mv s, h6⟩
theorem SDict.keep (s : Same H H') (h : SDict P w K H d o kvs) : SDict P w K H' d o kvs := h.mv s.mv
theorem SDict.updN {a : Addr} {x u : HO} (ha : H a = some x) (hne : d ≠ a) (n1 : ∀ ys, x ≠ .tup ys) (n2 : ∀ ob y, x ≠ .frz ob y) (h : SDict P w K H d o kvs) : SDict P w K (upd H a u) d o kvs := by
  obtain ⟨h1, h2, h3, h4, h5, h6⟩ := h; refine ⟨by rw [zah hne]; exact h1, h2, h3, h4, fun p hp => elAt.moved (fun b ys e => ?_) (fun b ob y e => ?_) (h5 p hp), h6⟩
  . rw [zah (zbx e ha fun z => n1 _ z.symm)]; exact e
  . rw [zah (zbx e ha fun z => n2 _ _ z.symm)]; exact e
theorem SDict.updL {a : Addr} {xs : List V} {u : HO} (ha : H a = some (.lst xs)) (h : SDict P w K H d o kvs) : SDict P w K (upd H a u) d o kvs :=
  h.updN ha (zbx h.1 ha fun z => by cases z) (fun _ z => by cases z) fun _ _ z => by cases z
theorem SDict.nil_data (h : SDict P w K H d o []) : ∃ ep, o.data = .dict #[] ep := by
  obtain ⟨_, _, _, ⟨es, ep, hd, hp⟩, _⟩ := h
  have : es = #[] := by
    cases e : es.toList with
    | nil => simpa using e
    | cons x r => rw [e] at hp; cases hp
  exact ⟨ep, by rw [hd, this]⟩
theorem SDict.one_data {k : TK} {x y : V} (h : SDict P w K H d o [(k, x, y)]) : ∃ ep u r, o.data = .dict #[⟨(zbn P w).hash k, u, r⟩] ep /\ RelV x u /\ RelV y r := by
  obtain ⟨_, _, _, ⟨es, ep, hd, hp⟩, _⟩ := h; obtain ⟨l⟩ := es
  cases l with
  | nil => cases hp
  | cons e r =>
    cases hp with
    | cons h1 h2 =>
      cases h2; obtain ⟨eh, ek, ev⟩ := e; obtain ⟨a1, a2, a3⟩ := h1; have a1' : eh = (zbn P w).hash k := a1; subst a1'; exact ⟨ep, ek, ev, hd, a2, a3⟩
theorem SDict.mk_nil {ep : Nat} (h1 : H d = some (.ext (zaM d o))) (h2 : (d == sysModules) = false) (h3 : o.ExactDict) (h4 : o.data = .dict #[] ep) : SDict P w K H d o [] := ⟨h1, h2, h3, ⟨#[], ep, h4, .nil⟩, (fun p hp => by cases hp), Nat.zero_le _⟩
theorem SDict.mk_one {ep : Nat} {k : TK} {x y : V} {u r : Value} (h1 : H d = some (.ext (zaM d o))) (h2 : (d == sysModules) = false) (h3 : o.ExactDict) (h4 : o.data = .dict #[⟨(zbn P w).hash k, u, r⟩] ep) (h5 : RelV x u) (h6 : RelV y r) (h7 : elAt K H k x) : SDict P w K H d o [(k, x, y)] :=
  ⟨h1, h2, h3, ⟨_, ep, h4, .cons ⟨rfl, h5, h6⟩ .nil⟩, (fun p hp => by rw [List.mem_singleton.mp hp]; exact h7), Nat.le_refl _⟩
end
section
variable {X : Cx} {pins : List (Addr × Obj)} {σ : St} {H : Hp} {s : Shared}
theorem zhD {k : TK} {x : V} {u : Value} (I : Inv X pins σ H s) (h : elAt X.K H k x) (r : RelV x u) : zeZ X.prog X.w s.heap k u := by
  cases k with
  | inl ks => obtain ⟨t, rfl, ht⟩ := h; exact ⟨t, r, zhO I ht⟩
  | inr i =>
    have h' : x = .int i := h; subst h'; exact r
theorem zdW {d : Addr} {o : Obj} {kvs : List (TK × V × V)} (I : Inv X pins σ H s) (D : SDict X.prog X.w X.K H d o kvs) : s.heap.get? d = some o := (I.hok d _ D.1).1
theorem zgm {d : Addr} {o o' : Obj} {kvs : List (TK × V × V)} {h' : Heap} {tk : Nat} (I : Inv X pins σ H s) (D : SDict X.prog X.w X.K H d o kvs) (e : h'.get? d = some o') (sb : Heap.SameBut d s.heap h') : Inv X pins σ (upd H d (.ext (zaM d o'))) { s with heap := h', toks := tk } :=
  I.write (x := d) (e := d) (by rw [D.1]; exact True.intro) (.inl rfl) (fun b ob hb q => (sb.2 b hb).trans q) ⟨_, e⟩ (zeQ e)
theorem zjz {d : Addr} {o o' : Obj} {kvs : List (TK × V × V)} {k : TK} {x : V} (D : SDict X.prog X.w X.K H d o kvs) (h : elAt X.K H k x) : elAt X.K (upd H d (.ext (zaM d o'))) k x :=
  elAt.moved (fun b ys e => by rw [zah (zbx e D.1 fun z => by cases z)]; exact e) (fun b ob y e => by rw [zah (zbx e D.1 fun z => by cases z)]; exact e) h
end
section
variable {X : Cx} {pos : Pos}
def zlp (P : Program) (w : World) (K : PySem.W.Frag) : TE := fun _ H Q => ∀ (p : Addr) (o : Obj), H p = none -> SDict P w K (upd H p (.ext (zaM p o))) p o [] -> Q (.ref p) (upd H p (.ext (zaM p o)))
theorem zf2 : PE X (.Dict [] [] pos) (zlp X.prog X.w X.K) := by
  intro pins s σ H Q I h; have hb : (s.heap.objs.size == sysModules) = false := beq_eq_false_iff_ne.mpr (Ne.symm (Nat.ne_of_lt I.big)); refine wpAny_Dict_empty ⟨.ref s.heap.objs.size, _, I.laid (a := s.heap.objs.size) (o := .ext (zaM s.heap.objs.size _)) (t' := s.toks) (fun _ _ q => Heap.get?_push_of_some _ q) (Nat.le_refl _) (zeQ (Heap.get?_push_size _ rfl)), rfl, h _ _ (I.hok.fresh (Nat.le_refl _)) (SDict.mk_nil zab hb ⟨rfl, rfl, rfl⟩ rfl)⟩
def zhm (P : Program) (w : World) (K : PySem.W.Frag) (tk tv : TE) : TE := fun σ H Q => ∀ (p : Addr) (o : Obj), H p = none -> SDict P w K (upd H p (.ext (zaM p o))) p o [] -> tk σ (upd H p (.ext (zaM p o))) fun x H1 => tv σ H1 fun y H2 =>
  SDict P w K H2 p o [] /\ ∃ k, elAt K H2 k x /\ ∀ o', SDict P w K (upd H2 p (.ext (zaM p o'))) p o' [(k, x, y)] -> Q (.ref p) (upd H2 p (.ext (zaM p o')))
theorem zgn {k v : Expr} {tk tv : TE} (hu : X.A.units + 100 < cLine) (hk : PE X k tk) (hv : PE X v tv) : PE X (.Dict [some k] [v] pos) (zhm X.prog X.w X.K tk tv) := by
  intro pins s σ H Q I h; have hb : (s.heap.objs.size == sysModules) = false := beq_eq_false_iff_ne.mpr (Ne.symm (Nat.ne_of_lt I.big)); have hn := I.hok.fresh (Nat.le_refl s.heap.objs.size); have I1 := I.laid (a := s.heap.objs.size) (o := .ext (zaM s.heap.objs.size { cls := .type "dict", data := .dict #[] })) (h' := s.heap.push { cls := .type "dict", data := .dict #[] }) (t' := s.toks) (fun _ _ q => Heap.get?_push_of_some _ q) (Nat.le_refl _) (zeQ (Heap.get?_push_size _ rfl)); have h1 := h _ _ hn (SDict.mk_nil (P := X.prog) (w := X.w) (K := X.K) (o := { cls := .type "dict", data := .dict #[] }) (ep := 0) zab hb ⟨rfl, rfl, rfl⟩ rfl); refine wpAny_Dict_any rfl rfl (by simp) (by simp) (pairTrees_cons_walk (thn (hk pins _ σ _ _ I1 h1) fun u s1 ⟨x, H1, I1, rx, q1⟩ => thn (hv pins s1 σ H1 _ I1 q1) fun r s2 ⟨y, H2, I2, ry, D, kk, hel, q2⟩ => pairTrees_nil_walk ?_))
  obtain ⟨ep, hd⟩ := D.nil_data; unfold storeAll; refine wpAny_forIn_list _ (fun rest _ s' => (rest = [(u, r)] /\ s' = s2) \/ (rest = [] /\ EP X pins σ Q (.ref s.heap.objs.size) s')) _ ?_ ?_ _ _ (.inl ⟨rfl, rfl⟩)
  . rintro e rest b s' (⟨hr, rfl⟩ | ⟨hr, _⟩)
    . injection hr with e1 e2
      subst e1 e2; refine wpAny_bind (HT.sd_dictSet (by omega) (zhD I2 hel rx) (zdW I2 D) D.2.2.1 hd fun h' o' ep' tk a b c e => wpAny_pure (.inr ⟨rfl, .ref s.heap.objs.size, _, zgm I2 D a e, rfl, q2 _ ?_⟩))
      exact SDict.mk_one zab hb b c rx ry (zjz D hel)
    . cases hr
  . rintro b s' (⟨hr, _⟩ | ⟨_, q⟩)
    . cases hr
    . exact q
def zlj (P : Program) (w : World) (K : PySem.W.Frag) : V -> V -> V -> Hp -> (Hp -> Prop) -> Prop := fun o i v H Q => ∃ (d : Addr) (ob : Obj) (k : TK), o = .ref d /\ elAt K H k i /\ SDict P w K H d ob [] ∧
  ∀ o', SDict P w K (upd H d (.ext (zaM d o'))) d o' [(k, i, v)] -> Q (upd H d (.ext (zaM d o')))
theorem zlz (hu : X.A.units + 100 < cLine) : zmh X (zlj X.prog X.w X.K) := by
  intro pins s σ H o i v ov iv u Q I ro ri rv h; obtain ⟨d, ob, k, rfl, hk, D, q⟩ := h; cases ro; obtain ⟨ep, hd⟩ := D.nil_data; exact HT.sd_setItem hu (zhD I hk ri) (zdW I D) D.2.2.1 hd fun h' o' ep' tk a b c e => ⟨_, zgm I D a e, q o' (SDict.mk_one zab D.2.1 b c ri rv (zjz D hk))⟩
def zmq (P : Program) (w : World) (K : PySem.W.Frag) (td ty : TE) : TE := fun σ H Q => td σ H fun x H1 => ty σ H1 fun y H2 => ∃ (d : Addr) (ob : Obj) (k : TK) (y0 v : V), x = .ref d /\ elAt K H2 k y /\ SDict P w K H2 d ob [(k, y0, v)] /\ Q v H2
theorem zgk {o i : Expr} {td ty : TE} (hu : X.A.units + 100 < cLine) (ho : PE X o td) (hi : PE X i ty) (hs : zkn i) : PE X (.Subscript o i pos) (zmq X.prog X.w X.K td ty) := by
  intro pins s σ H Q I h; refine zfD PySem.F.slot_dict_getitem.lookup hs (thn (ho pins s σ H _ I h) fun u s1 ⟨x, H1, I1, rx, q1⟩ => thn (hi pins s1 σ H1 _ I1 q1) fun iv s2 ⟨y, H2, I2, ry, d, ob, k, y0, v, ex, hk, D, q2⟩ => ?_); subst ex; obtain rfl : u = Value.ref d := rx; obtain ⟨ep, u0, r, hd, r0, rr⟩ := D.one_data; have h0 : elAt X.K H2 k y0 := D.2.2.2.2.1 (k, y0, v) (by simp)
  exact ⟨⟨ob, zdW I2 D, D.2.2.1.1⟩, HT.sd_getItem hu (zhD I2 hk ry) (zhD I2 h0 r0) (zdW I2 D) D.2.2.1 hd fun tk => ⟨v, H2, I2.tok tk, rr, q2⟩⟩
theorem zkW {a : Expr} {ta : TE} (ha : PE X a ta) (he : ∀ whole, isTrue a X.env whole = (do let v <- whole; standAt a.pos; holding [v] (truthy v))) :
    PT X a (fun σ H Q => ta σ H fun x H' => ∃ (d : Addr) (o : Obj) (kvs : List (TK × V × V)), x = .ref d /\ SDict X.prog X.w X.K H' d o kvs /\ Q (!kvs.isEmpty) H') := by
  intro pins s σ H Q I h; refine isTrue_plain (thn (ha pins s σ H _ I h) fun v s1 ⟨x, H1, I1, r1, d, o, kvs, ex, D, q1⟩ => ?_) (he _); subst ex; cases r1; obtain ⟨es, ep, hd, hp⟩ := D.2.2.2.1; have hl : kvs.length = es.size := by have := Paired.length hp; simpa using this
  have h1 := D.2.2.2.2.2; refine HT.truthy_dict D.2.1 (zdW I1 D) D.2.2.1 hd (by omega) ⟨H1, I1.tok _, ?_⟩
  have e : es.isEmpty = kvs.isEmpty := by
    rw [Array.isEmpty, <- hl]
    cases kvs <;> simp
  rw [e]; exact q1
end
end L2
set_option Elab.async false
set_option linter.all false
set_option maxRecDepth 100000
set_option maxHeartbeats 4000000
namespace L2
open PySem PySem.Spec PyProof.Rows
def Itd (P : Program) (w : World) (K : PySem.W.Frag) (d : Addr) (o : Obj) : It :=
  ⟨fun i H => ∃ kvs p, SDict P w K H d o kvs /\ kvs[i]? = some p, fun i H x H' => H' = H /\ ∀ kvs, SDict P w K H d o kvs -> ∃ p, kvs[i]? = some p /\ x = p.2.1, fun i H => ∃ kvs, SDict P w K H d o kvs /\ kvs.length <= i⟩
theorem zdx {α β : Type} {F : α -> β -> Prop} : ∀ {as : List α} {bs : List β} {i : Nat} {a : α}, Paired F as bs -> as[i]? = some a -> ∃ b, bs[i]? = some b /\ F a b
  | _, _, _, _, .nil, e => by simp at e
  | _, _, 0, _, .cons r _, e => by simp at e; subst e; exact ⟨_, rfl, r⟩
  | _, _, i + 1, a, .cons _ t, e => by
    obtain ⟨b, h1, h2⟩ := zdx (i := i) t (by simpa using e)
    exact ⟨b, by simpa using h1, h2⟩
theorem zkx {P : Program} {w : World} {K : PySem.W.Frag} {tg : Expr} (d it : Addr) (o : Obj) (es : Array DictEntry) (ep : Nat) (hd : o.data = .dict es ep) : ze6 P w K tg (Itd P w K d o) [it] it (fun i h => h.IsKeyIter it d i es.size ep) where
  mem := by simp
  obj := fun i h st b hb => by
    have e : b = it := by simpa using hb
    subst e; obtain ⟨o, e, c, d⟩ := st; exact ⟨o, e, fun v z => by rw [d] at z; cases z⟩
  keep := fun i h h' st k => let ⟨o, e, r⟩ := st; ⟨o, k it (by simp) o e, r⟩
  item := by
    intro X hP hw hK hc i pins s σ H E I hf st hg; subst hP hw hK; obtain ⟨kvs, p, D, hx⟩ := hg; obtain ⟨es', ep', hd', hp⟩ := D.2.2.2.1; rw [hd] at hd'; cases hd'; obtain ⟨e, he, _, rk, _⟩ := zdx hp hx; have he' : es[i]? = some e := by simpa using he
    obtain ⟨f0, f1, f2, f3, f4, f5⟩ := hf it (by simp)
    refine HT.next_key st (zdW I D) hd he' fun h' st' sb => ?_; have I1 : Inv X pins σ H { s with heap := h' } := I.turned (t' := s.toks) (fun b ob hb e => (sb.2 b hb).trans e) f0 f1 f3 f4 f5
    obtain ⟨oi, ei, ci, di⟩ := id st'; refine ⟨_, rfl, zgN (s := { s with heap := h' }) ei ci di (by decide) ⟨p.2.1, H, I1, rk, ⟨rfl, fun kvs' D' => ?_⟩, st', fun b hb => (hf b hb).1⟩⟩
    obtain ⟨es'', ep'', hd'', hp''⟩ := D'.2.2.2.1; rw [hd] at hd''; cases hd''; have hl1 : kvs.length = es.toList.length := Paired.length hp; have hl2 : kvs'.length = es.toList.length := Paired.length hp''
    have hi : i < kvs'.length := by
      have := (List.getElem?_eq_some_iff.mp hx).1; omega
    obtain ⟨e2, he2, _, rk2, _⟩ := zdx hp'' (List.getElem?_eq_getElem hi); rw [he] at he2; cases he2; exact ⟨_, List.getElem?_eq_getElem hi, rk.inj rk2⟩
  done := by
    intro X hP hw hK hc i pins s σ H E I hf st hg; subst hP hw hK; obtain ⟨kvs, D, hx⟩ := hg; obtain ⟨es', ep', hd', hp⟩ := D.2.2.2.1; rw [hd] at hd'; cases hd'; obtain ⟨f0, f1, f2, f3, f4, f5⟩ := hf it (by simp)
    have hl := Paired.length hp; exact HT.next_end (I.ok.hd hc) st (zdW I D) hd (by rw [<- Array.length_toList]; omega) fun h' eb => ⟨rfl, I.turned (t' := s.toks) (fun b o hb e => eb b o hb e) f0 f1 f3 f4 f5⟩
  self := fun A i s Q E st h => by
    have hT := st.typeIs; refine wpAny_pyIter_slot hT PySem.F.slot_dict_keyiterator_iter (wpAny_call_entry PySem.F.slot_dict_keyiterator_iter hT PySem.F.entry_dict_keyiterator_iter ?_ (PySem.F.args_dict_keyiterator_iter_1 _)); show wpAny _ _ (ret (.ref it)) _ _ s; exact wpAny_pure ⟨_, rfl, "dict_keyiterator", _, hT, PySem.F.slot_dict_keyiterator_next.lookup, h⟩
def iSD (P : Program) (w : World) (K : PySem.W.Frag) (tl : TE) : TI := fun σ H R => tl σ H fun x H1 => ∃ d o kvs, x = .ref d /\ SDict P w K H1 d o kvs /\ R (Itd P w K d o) H1
section
variable {X : Cx} {tg : Expr}
theorem zhT {l : Expr} {tl : TE} (hl : PE X l tl) : PI X tg l (iSD X.prog X.w X.K tl) := by
  intro pins s σ H R I h; refine thn (hl pins s σ H _ I h) fun v s1 ⟨x, H1, I1, r1, q1⟩ => ?_; obtain ⟨d, o, kvs, e, D, q⟩ := q1; subst e; cases r1; obtain ⟨es, ep, hd, hp⟩ := D.2.2.2.1; refine HT.iter_keys D.2.1 (zdW I1 D) D.2.2.1 hd ?_; refine ⟨s1.heap.objs.size, [s1.heap.objs.size], _, _, H1, rfl, I1.kept (t' := s1.toks) fun b o e => Heap.get?_push_of_some _ e, zkx d _ o es ep hd, ⟨_, Heap.get?_push_size _ rfl, rfl, rfl⟩, fun b hb => ?_, q⟩; have e : b = s1.heap.objs.size := by simpa using hb
  subst e; exact I1.fpOk (Nat.le_refl _) (I1.hok.fresh (Nat.le_refl _))
end
theorem zfH {P : Program} {w : World} {K : PySem.W.Frag} {d : Addr} {o : Obj} {kvs : List (TK × V × V)} {g : TG} {tb : TS} {D : zci} {σ : St} {H : Hp} (Pv : Nat -> St -> Hp -> Prop) (h0 : Pv 0 σ H) (hl : ∀ i σ H, i <= kvs.length -> Pv i σ H -> SDict P w K H d o kvs)
    (hs : ∀ i p σ H, kvs[i]? = some p -> Pv i σ H -> g p.2.1 σ H fun σ2 H2 => tb { D with nx := Pv (i + 1), ct := Pv (i + 1), bk := D.nx } σ2 H2) (hd : ∀ σ H, Pv kvs.length σ H -> D.nx σ H) :
    ∃ W : Nat -> Nat -> St -> Hp -> Prop, (∃ m, W 0 m σ H) /\ ∀ i m σ H, W i m σ H →
      ((Itd P w K d o).stop i H /\ D.nx σ H) \/ ((Itd P w K d o).go i H /\ ∃ N : St -> Hp -> Prop, (∀ σ' H', N σ' H' -> ∃ m', m' < m /\ W (i + 1) m' σ' H') /\ ∀ x H', (Itd P w K d o).yld i H x H' -> g x σ H' fun σ2 H2 => tb { D with nx := N, ct := N, bk := D.nx } σ2 H2) := by
  refine ⟨fun i m σ H => m = kvs.length - i /\ i <= kvs.length /\ Pv i σ H, ⟨kvs.length, by simp, Nat.zero_le _, h0⟩, ?_⟩
  rintro i m σ H ⟨rfl, hi, p⟩; have hq := hl i σ H hi p
  by_cases hlt : i < kvs.length
  . refine .inr ⟨⟨kvs, kvs[i], hq, List.getElem?_eq_getElem hlt⟩, fun σ' H' => Pv (i + 1) σ' H', fun σ' H' p' => ⟨kvs.length - (i + 1), by omega, rfl, by omega, p'⟩, ?_⟩
    rintro x H' ⟨e, hy⟩; subst e; obtain ⟨q, hq2, rfl⟩ := hy kvs hq; exact hs i _ σ _ hq2 p
  . have e : i = kvs.length := by omega
    subst e; exact .inl ⟨⟨kvs, hq, Nat.le_refl _⟩, hd σ H p⟩
theorem zmo {P : Program} {w : World} {K : PySem.W.Frag} {d : Addr} {o : Obj} {kvs : List (TK × V × V)} {idx : List Nat} {te : TE} {σ : St} {H : Hp} {Q : VK} (Iv : Addr -> Nat -> List V -> Hp -> Prop)
    (h0 : ∀ D, H D = none -> Iv D 0 [] (upd H D (.lst []))) (hD : ∀ D i ys H', Iv D i ys H' -> H' D = some (.lst ys) /\ ys.length = i /\ SDict P w K H' d o kvs)
    (he : ∀ D (i : Nat) p ys H' (R : VK), H D = none -> kvs[i]? = some p -> Iv D i ys H' -> (∀ v H4, H4 D = some (.lst ys) -> Iv D (i + 1) (ys ++ [v]) (upd H4 D (.lst (ys ++ [v]))) -> R v H4) -> te (some p.2.1 :: cap σ idx) H' R)
    (hQ : ∀ D ys H', H D = none -> Iv D kvs.length ys H' -> Q (.ref D) H') : LCW idx (Itd P w K d o) (zbg 0) zhX te Q σ H := by
  intro D hn; refine ⟨fun i m ys ρ H' => m = kvs.length - i /\ i <= kvs.length /\ (∃ y0, ρ = y0 :: cap σ idx) /\ Iv D i ys H', ⟨kvs.length, by simp, Nat.zero_le _, ⟨none, rfl⟩, h0 D hn⟩, ?_⟩
  rintro i m ys ρ H' ⟨rfl, hi, ⟨y0, rfl⟩, hv⟩; obtain ⟨d1, d2, d3⟩ := hD D i ys H' hv; have hk1 := d3.2.2.2.2.2; have hsz : sizeLine = 16777216 := sizeLine_eq; refine ⟨d1, ?_⟩
  by_cases hlt : i < kvs.length
  . refine .inr ⟨⟨kvs, kvs[i], d3, List.getElem?_eq_getElem hlt⟩, by omega, fun x H2 y => ?_⟩
    obtain ⟨e, y⟩ := y; subst e; obtain ⟨q, hq2, rfl⟩ := y kvs d3; exact he D i q ys _ _ hn hq2 hv fun v H4 h1 h2 => ⟨h1, kvs.length - (i + 1), by omega, rfl, hlt, ⟨_, rfl⟩, h2⟩
  . have e : i = kvs.length := by omega
    subst e; exact .inl ⟨⟨kvs, d3, Nat.le_refl _⟩, hQ D ys H' hn hv⟩
def Itv (K : PySem.W.Frag) (a : Addr) (n : Nat) : It :=
  ⟨fun i H => i < n /\ ∃ xs x, SqL K H a xs /\ xs[n - 1 - i]? = some x, fun i H x H' => H' = H /\ ∀ xs, SqL K H a xs -> xs[n - 1 - i]? = some x, fun i H => i = n⟩
theorem ziM {P : Program} {w : World} {K : PySem.W.Frag} {tg : Expr} (a it : Addr) (n : Nat) : ze6 P w K tg (Itv K a n) [it] it (fun i h => h.IsRevIter it a ((n : Int) - 1 - (i : Int))) where
  mem := by simp
  obj := fun i h st b hb => by
    have e : b = it := by simpa using hb
    subst e; obtain ⟨o, e, c, d⟩ := st; exact ⟨o, e, fun v z => by rw [d] at z; cases z⟩
  keep := fun i h h' st k => st.at fun o e => k it (by simp) o e
  item := by
    intro X hP hw hK hc i pins s σ H E I hf st hg; subst hP hw hK; obtain ⟨hin, xs, x, hq, hx⟩ := hg; obtain ⟨its, rv, p, hz⟩ := I.list hq; obtain ⟨u, hu, ru⟩ := rv.get hx; obtain ⟨f0, f1, f2, f3, f4, f5⟩ := hf it (by simp)
    have e1 : (n : Int) - 1 - (i : Int) = ((n - 1 - i : Nat) : Int) := by omega
    rw [e1] at st; refine wpAny_pyNext_rev_item st p.isList (x := u) (by simpa using hu) fun h' st' sb => ?_
    have I1 : Inv X pins σ H { s with heap := h' } := I.turned (t' := s.toks) (fun b o hb e => (sb.2 b hb).trans e) f0 f1 f3 f4 f5
    have e2 : ((n - 1 - i : Nat) : Int) - 1 = (n : Int) - 1 - ((i + 1 : Nat) : Int) := by omega
    rw [e2] at st'; obtain ⟨o, e, c, d⟩ := id st'; exact ⟨u, rfl, zgN (s := { s with heap := h' }) e c d (by decide) ⟨x, H, I1, ru, ⟨rfl, fun ys hy => by rw [I.list_inj hy hq]; exact hx⟩, st', fun b hb => (hf b hb).1⟩⟩
  done := by
    intro X hP hw hK hc i pins s σ H E I hf st hg; subst hP hw hK; obtain ⟨f0, f1, f2, f3, f4, f5⟩ := hf it (by simp)
    have hg' : i = n := hg; have e1 : (n : Int) - 1 - (i : Int) = -1 := by omega
    rw [e1] at st; exact wpAny_pyNext_rev_end (I.ok.hd hc) st fun h' eb => ⟨rfl, I.turned (t' := s.toks) (fun b o hb e => eb b o hb e) f0 f1 f3 f4 f5⟩
  self := fun _ _ _ _ _ st h => wpAny_pyIter_revIter st h
def znd (K : PySem.W.Frag) (ta : TA) : TI := fun σ H R => ta σ H fun vs H1 => ∃ a xs, vs = [.ref a] /\ SqL K H1 a xs /\ R (Itv K a xs.length) H1
section
variable {X : Cx} {tg : Expr}
theorem zmb {a : Expr} {ta : TA} {p pos : Pos} (hg : Gl X "reversed") (hm : X.mg "reversed" = none) (ha : PA X [a] ta) (hs : starEach [a] X.env = [(false, eval a X.env)] := by rfl) :
    PI X tg (.Call (.Name "reversed" p) [a] [] pos) (znd X.K ta) := by
  intro pins s σ H R I h; refine Call_ (zc8 I hg hm boot_reversed (PyProof.Rows.callWith_type1 (thn (ha pos pins s σ H _ I h) fun us s1 ⟨vs, H1, I1, r1, q1⟩ => ?_) hs rfl)); obtain ⟨l, xs, e, hq, q⟩ := q1; subst e
  cases r1 with
  | cons r rr =>
    cases rr; cases r; obtain ⟨its, rv, pl, hz⟩ := I1.list hq; have hlen := rv.length; refine call_reversed_list pl.isList ?_
    have hit : (s1.heap.push (revObj l ((its.toArray.size : Int) - 1))).IsRevIter s1.heap.objs.size l ((xs.length : Int) - 1 - ((0 : Nat) : Int)) := ⟨_, Heap.get?_push_size _ rfl, rfl, by
      have e : (xs.length : Int) - 1 - ((0 : Nat) : Int) = (its.toArray.size : Int) - 1 := by rw [List.size_toArray]; omega
      rw [e]
      rfl⟩
    refine wpAny_pyIter_revIter (s := { s1 with heap := s1.heap.push (revObj l ((its.toArray.size : Int) - 1)) }) hit ⟨s1.heap.objs.size, [s1.heap.objs.size], _, _, H1, rfl, I1.kept (t' := s1.toks) fun b o e => Heap.get?_push_of_some _ e, ziM l _ xs.length, hit, fun b hb => ?_, q⟩
    have e : b = s1.heap.objs.size := by simpa using hb
    subst e; exact I1.fpOk (Nat.le_refl _) (I1.hok.fresh (Nat.le_refl _))
end
theorem zkt {K : PySem.W.Frag} {a : Addr} {xs : List V} {g : TG} {tb : TS} {D : zci} {σ : St} {H : Hp} (Pv : Nat -> St -> Hp -> Prop) (h0 : Pv 0 σ H) (hl : ∀ i σ H, i <= xs.length -> Pv i σ H -> SqL K H a xs)
    (hs : ∀ i x σ H, i < xs.length -> xs[xs.length - 1 - i]? = some x -> Pv i σ H -> g x σ H fun σ2 H2 => tb { D with nx := Pv (i + 1), ct := Pv (i + 1), bk := D.nx } σ2 H2) (hd : ∀ σ H, Pv xs.length σ H -> D.nx σ H) :
    ∃ W : Nat -> Nat -> St -> Hp -> Prop, (∃ m, W 0 m σ H) /\ ∀ i m σ H, W i m σ H →
      ((Itv K a xs.length).stop i H /\ D.nx σ H) \/ ((Itv K a xs.length).go i H /\ ∃ N : St -> Hp -> Prop, (∀ σ' H', N σ' H' -> ∃ m', m' < m /\ W (i + 1) m' σ' H') /\ ∀ x H', (Itv K a xs.length).yld i H x H' -> g x σ H' fun σ2 H2 => tb { D with nx := N, ct := N, bk := D.nx } σ2 H2) := by
  refine ⟨fun i m σ H => m = xs.length - i /\ i <= xs.length /\ Pv i σ H, ⟨xs.length, by simp, Nat.zero_le _, h0⟩, ?_⟩
  rintro i m σ H ⟨rfl, hi, p⟩; have hq := hl i σ H hi p
  by_cases hlt : i < xs.length
  . have hx : xs[xs.length - 1 - i]? = some (xs[xs.length - 1 - i]'(by omega)) := List.getElem?_eq_getElem _
    refine .inr ⟨⟨hlt, xs, _, hq, hx⟩, fun σ' H' => Pv (i + 1) σ' H', fun σ' H' p' => ⟨xs.length - (i + 1), by omega, rfl, by omega, p'⟩, ?_⟩
    rintro x H' ⟨e, hy⟩; subst e; exact hs i x σ _ hlt (hy xs hq) p
  . have e : i = xs.length := by omega
    subst e; exact .inl ⟨rfl, hd σ H p⟩
end L2
set_option Elab.async false
set_option linter.all false
set_option maxRecDepth 100000
set_option maxHeartbeats 4000000
namespace L2
open PySem PySem.Spec PyProof.Rows PySem.W
section
variable {N : Nat} {c : Nat -> Nat -> Bool}
end
section
variable {prog : Program} {w : World} {A : Around} {E : Value -> Shared -> Prop} {s : Shared}
end
section
variable {X : Cx}
end
section
variable {X : Cx}
end
section
variable {X : Cx} {pos : Pos}
theorem zl5 {i : Nat} {x : Str} {pos' lp dp dp2 : Pos} {k k2 v2 : Expr} {tk tk2 tv2 : TE} (hN : X.N.Nodup) (hi : X.N[i]? = some x) (hx : Loc X.env.scope x) (hu : X.A.units + 100 < cLine) (hk : PE X k tk) (hk2 : PE X k2 tk2) (hv2 : PE X v2 tv2)
    (hf : X.fn x = true \/ X.env.scope.names.lookup x = some .local := by first | exact .inl rfl | exact .inr rfl | assumption) :
    S1 X (.Assign [.Name x pos'] (.List [.Dict [some k] [.Dict [some k2] [v2] dp2] dp] lp) pos) (zkm (zmZ (zkZ (zhm X.prog X.w X.K tk (zhm X.prog X.w X.K tk2 tv2)) zjc)) (zbg i)) :=
  ⟨zao hN hi hx (zaF (zaa (zgn hu hk (zgn hu hk2 hv2)) zac)) (hf := hf)⟩
end
theorem Fun.okS {P : Program} {w : World} {K : PySem.W.Frag} {mg : Str -> Option Value} {base : Heap} {x qual : Str} {st : Stmt} {f : Addr} {fd : FuncData} {N ps : List Str} {k : Nat} {sp : Sp} (F : Fun K x qual st f fd) (S : zal N ps (zaf st)) (len : ∀ vs H Q E, sp vs H Q E -> vs.length = ps.length)
    (hb : ∀ (cdv : Value) (A : Around) (outer : List Env) (s : Shared) (H : Hp) (vs : List V) (Q : VK) (E : XK), Room k (A.deeper (envOfC qual (zaf st) s.heap.objs.size f cdv)) -> sp vs H Q E →
      ∃ t, SSs (zdu CX0 P w K mg base N qual (zaf st) f cdv A outer s H E).nox (zaU st) t /\ t { nx := fun _ H' => Q .non H', rt := Q } (start N vs) H) : FnOk P w K mg base CX0 (k + 1) f fd ps sp :=
  F.ok S len fun cdv A outer s H vs Q E hr h => let ⟨t, h1, h2⟩ := hb cdv A outer s H vs Q E hr h; ⟨t, h1.out, h2⟩
end L2
set_option Elab.async false
set_option linter.all false
set_option maxRecDepth 100000
set_option maxHeartbeats 4000000
namespace L2
open PySem PySem.Spec PyProof.Rows
structure FnAt (K : PySem.W.Frag) (x : Str) (st : Stmt) (f : Addr) (fd : FuncData) : Prop where
  ns : PySem.W.nsIn K mainGlobals x = some (some (.ref f))
  fn : Fun K x x st f fd
section
variable {P : Program} {w : World} {K : PySem.W.Frag} {mg : Str -> Option Value} {base h : Heap} {x : Str} {st : Stmt} {f c : Addr} {fd : FuncData} {k : Nat} {sp : Sp} {ps : List Str} {oc kV doc pm cdv ct : Value} {od an : Option Addr} {osl : Array (Option Value)}
theorem fnAt (a : PySem.W.nsIn K mainGlobals x = some (some (.ref f))) (l : K.lookup f = some ⟨oc, od, .func (PySem.W.fnOf x x (zbl st) (zaU st) (zaf st) .none kV doc pm an cdv ct), osl⟩) (hc : PySem.W.codeIn K cdv x = true) (hk : PySem.W.keepIn K (.ref f) = true) :
    FnAt K x st f (PySem.W.fnOf x x (zbl st) (zaU st) (zaf st) .none kV doc pm an cdv ct) := ⟨a, zlu l hc hk⟩
abbrev zfq (x : Str) (st : Stmt) (ps : List Str) : Prop := ∀ (kV doc pm : Value) (an : Option Addr) (cdv ct : Value) (us : List Value), us.length = ps.length -> bindArgs (PySem.W.fnOf x x (zbl st) (zaU st) (zaf st) .none kV doc pm an cdv ct) ⟨us, []⟩ = pure (ps.zip us)
theorem FnAt.g (a : FnAt K x st f fd) (X : K.In h) (G : h.Ns mainGlobals mg) (ok : FnOk P w K mg base CX0 k f fd ps sp) (b : zfq x st ps) : FnX P w K mg base x k sp := (Fn.mk' ok (PySem.W.mg_of X G a.ns) a.fn.kp (a.fn.binds b)).x
theorem FnAt.gX (a : FnAt K x st f fd) (X : K.In h) (G : h.Ns mainGlobals mg) (ok : FnOk P w K mg base (CX1 P w) k f fd ps sp) (b : zfq x st ps) : FnX P w K mg base x k sp := FnX.mk' ok (PySem.W.mg_of X G a.ns) a.fn.kp (a.fn.binds b)
end
end L2
set_option Elab.async false
set_option linter.all false
set_option maxRecDepth 100000
set_option maxHeartbeats 4000000
namespace HT
open PySem PySem.W PySem.Calls PyProof.Rows Builtin Builtin.ObjectAttr Builtin.Getset_descriptor
def excCls (K : Frag) (C : Addr) : Bool :=
  findIn K (.ref C) "__getattribute__" == some (some (.builtin "BaseException.__getattribute__")) && (findIn K (.ref C) "__getattr__" == some none && (findIn K (.ref C) "__class__" == some (some (.builtin "object.__class__")) &&
    (specialIn K (.builtin "object.__class__") "__get__" == some (some (.builtin "getset_descriptor.__get__")) && (takesIn K (.builtin "object.__class__") == some true && (mroIn K C (.type "object") == some true && mroIn K C (.type "BaseException") == some true)))))
section
variable {prog : Program} {w : World} {A : Around} {E : Value -> Shared -> Prop} {s : Shared} {K : Frag} {x C : Addr} {ox : Obj}
theorem zka {tp : Value} {R : Result -> Shared -> Prop} (X : K.In s.heap) (hx : s.heap.get? x = some ox) (hc : ox.cls = .ref C) (hm : mroIn K C (.type "object") = some true) (q : R (.ok (.ret (.ref C))) s) :
    codeAny (model prog w) A (.call (.builtin "getset_descriptor.__get__") ⟨[.builtin "object.__class__", .ref x, tp], []⟩) R s := by
  obtain ⟨hp, gn, dr, tk, o5⟩ := s; have LT : Looks (model prog w) hp (typeOf (.ref x)) (.ref C) := hc ▸ (Looks.ld hx).andThen .now; have LM := looks_mroIn (M := model prog w) X hm; refine codeAny_call_builtin KF.slot_gs.plain KF.entry_gs (KF.slot_gs.check _ _ _ _ _ _ _ _ KF.type_class (KF.args_gs _ _ _) ?_); unfold Builtin.«getset_descriptor.__get__»; unfold descrGet; rw [dga_obj]; refine wpAny_bind (m := _) (wpAny_pure ?_); unfold descrGetter; unfold descrCheckInstance; unfold descrNameAndClass; unfold isInstance; simp only [KF.owner_class]
  repeat lk
  refine ⟨Code.quiet_builtin _ (by decide +kernel), codeAny_builtin KF.entry_class ?_⟩
  unfold Builtin.«object.__class__»; unfold shownTypeOf
  repeat lk
  exact q
theorem ziZ (X : K.In s.heap) (h1 : findIn K (.ref C) "__class__" = some (some (.builtin "object.__class__"))) (h2 : specialIn K (.builtin "object.__class__") "__get__" = some (some (.builtin "getset_descriptor.__get__"))) (h3 : takesIn K (.builtin "object.__class__") = some true) :
    Looks (model prog w) s.heap (find (.ref x) (.ref C) "__class__") (.bind (.builtin "getset_descriptor.__get__") (.builtin "object.__class__")) := by
  have a1 := looks_findIn (M := model prog w) X h1; have a2 : Looks (model prog w) s.heap (getOf (some (.builtin "object.__class__"))) (some (.builtin "getset_descriptor.__get__")) := looks_specialIn X h2; have a3 : Looks (model prog w) s.heap (dataDescriptor? (some (.builtin "object.__class__")) (some (.builtin "getset_descriptor.__get__"))) (some (.builtin "getset_descriptor.__get__", .builtin "object.__class__")) := (looks_takesIn X h3).andThen .now; exact a1.andThen (a2.andThen (a3.andThen (Looks.tag .now)))
theorem exc_class {Q : Option Value -> Shared -> Prop} (X : K.In s.heap) (hx : s.heap.get? x = some ox) (hc : ox.cls = .ref C) (hk : excCls K C = true) (q : Q (some (.ref C)) { s with toks := s.toks + 1 }) :
    wpAny (model prog w) A (getAttr? (.ref x) "__class__") Q E s := by
  unfold excCls at hk; simp only [Bool.and_eq_true, beq_iff_eq] at hk; obtain ⟨k1, k2, k3, k4, k5, k6, k7⟩ := hk; obtain ⟨hp, gn, dr, tk, o5⟩ := s; have LT : Looks (model prog w) hp (typeOf (.ref x)) (.ref C) := hc ▸ (Looks.ld hx).andThen .now; have L1 := looks_findIn (M := model prog w) X k1; have L2 := looks_findIn (M := model prog w) X k2; have LF := ziZ (prog := prog) (w := w) (s := ⟨hp, gn, dr, tk, o5⟩) (x := x) X k3 k4 k5; have LB := looks_mroIn (M := model prog w) X k7; unfold getAttr? getAttrBy?; refine wpAny_bind (wpAny_mkText (wpAny_bind (wpAny_attempt ?_))); unfold getAttrBy; refine wpAny_holding (wpAny_bind (LT.at (wpAny_bind (L1.at ?_)))); dsimp only; rw [if_neg (fun z => absurd (Bool.and_eq_true_iff.mp z).2 (by decide +kernel))]
  unfold getAttrByItsOwn; refine wpAny_bind (L2.at ?_); refine wpAny_bind (wpAny_attempt (wpAny_holding ?_)); unfold callGetattribute; rw [if_neg (by decide)]
  unfold boundAndCalled; have fb := PySem.F.attr_ValueError.ga.bind (.ref x); rw [fb]; refine wpAny_bind (wpAny_pure ?_); show wpAny _ _ (call (.builtin "BaseException.__getattribute__") [.ref x, .str "__class__" tk]) _ _ _; have LI : Looks (model prog w) hp (isInstance (.ref x) (.type "BaseException")) true := LT.andThen LB; refine wpAny_call (codeAny_call_builtin PySem.F.attr_ValueError.ga.plain PySem.F.entry_bexc_ga ?_); have hkd : builtinKind "BaseException.__getattribute__" = some .slot := by decide +kernel
  have hsp : splitId "BaseException.__getattribute__" = some ("BaseException", "__getattribute__") := by decide +kernel
  have hag := PySem.F.args_bexc_ga (.ref x) (.str "__class__" tk); simp only [checkBuiltinCall, hkd, hsp]; refine wpAny_bind (LI.at ?_); rw [if_neg (by decide)]
  unfold argsOk at hag
  have done : ∀ {Q' : Unit -> Shared -> Prop} {E' : Value -> Shared -> Prop} {s' : Shared}, Q' () s' -> wpAny (model prog w) A.in1 (match Manifest.signature? "BaseException.__getattribute__" with
      | some sig => Bind.checkArgs "BaseException.__getattribute__" sig ⟨[.ref x, .str "__class__" tk], []⟩
      | x => pure ()) Q' E' s' := fun z => by
    generalize Manifest.signature? "BaseException.__getattribute__" = sg at hag
    cases sg with
    | none => exact wpAny_pure z
    | some sig =>
      dsimp only at hag ⊢; rw [hag]; exact wpAny_pure z
  refine done ?_; show wpAny _ _ (Builtin.«object.__getattribute__» ⟨[.ref x, .str "__class__" tk], []⟩) _ _ _; refine wpAny_bind (wpAny_pure ?_); refine wpAny_bind (wpAny_pure ?_); refine wpAny_bind (LT.at (wpAny_bind (LF.at ?_))); show wpAny _ _ (bindTo (.builtin "getset_descriptor.__get__") (.builtin "object.__class__") (.ref x) (.ref C)) _ _ _; show wpAny _ _ (holding [.builtin "object.__class__"] (call (.builtin "getset_descriptor.__get__") [.builtin "object.__class__", .ref x, .ref C]) >>= ret) _ _ _; refine wpAny_bind (wpAny_holding (wpAny_call (zka (s := ⟨hp, gn, dr, tk + 1, o5⟩) (K := K) X hx hc k6 ?_))); exact wpAny_pure (handed_on rfl (wpAny_pure q))
end
end HT
set_option Elab.async false
set_option linter.all false
set_option maxRecDepth 100000
set_option maxHeartbeats 4000000
namespace L2
open PySem PySem.Spec PyProof.Rows
def zch (e C : Addr) : Heap -> Prop := fun h => ∃ ox, h.get? e = some ox /\ ox.cls = .ref C
theorem zjV {P : Program} {w : World} {H : Hp} {h : Heap} {e C : Addr} (x : zch e C h) : ObjOk P w H h e (.ext (zch e C)) :=
  ⟨x, ⟨x.choose, x.choose_spec.1⟩, fun h1 h2 ⟨o, q, c⟩ k => ⟨o, k _ q, c⟩⟩
theorem zf4 {K : PySem.W.Frag} {e C : Addr} (hk : HT.excCls K C = true) : PySem.W.KitX K (.ref e) (.ref C) (zch e C) := by
  have hcl : ∃ cd, PySem.W.clsIn K C = some cd := by
    unfold HT.excCls at hk; simp only [Bool.and_eq_true, beq_iff_eq] at hk; obtain ⟨_, _, _, _, _, k6, _⟩ := hk; obtain ⟨cd, h1, _⟩ := Option.bind_eq_some_iff.mp k6; exact ⟨cd, h1⟩
  obtain ⟨cd, hcl⟩ := hcl
  have hob : ∃ c d sl, K.lookup C = some ⟨c, d, .cls cd, sl⟩ := by
    unfold PySem.W.clsIn at hcl
    split at hcl
    . rename_i c d cd' sl ho
      cases hcl; exact ⟨c, d, sl, ho⟩
    . cases hcl
  obtain ⟨c, d, sl, ho⟩ := hob; refine ⟨fun M h _ ⟨ox, h1, h2⟩ => h2 ▸ (PySem.W.Looks.ld h1).andThen .now, fun M h X _ => ?_, fun h tp dd its n sl2 X htp => ?_, fun {prog w A E Q s} X ⟨ox, h1, h2⟩ q => HT.exc_class X h1 h2 hk q⟩
  . intro A' Q' E' s' k q; unfold isType loadHead; exact wpAny_bind (wpAny_loadPart (k _ _ (X _ _ ho)) (wpAny_pure q))
  . refine Bool.eq_false_iff.mpr fun q => ?_; have e : C = tp := Value.ref.inj (beq_iff_eq.mp q); subst e; have z := (X _ _ ho).symm.trans htp; cases z
def zk5 (K : PySem.W.Frag) : List V -> Hp -> VK -> Prop := fun xs H Q => ∃ e C c b, xs = [.ref e, c] /\ H e = some (.ext (zch e C)) /\ HT.excCls K C = true ∧
  ((∃ T, c = .ty T /\ PySem.W.kitOne K (.ref C) (.type T) = some b) \/ ∃ D, c = .ref D /\ PySem.W.kitOne K (.ref C) (.ref D) = some b) /\ Q (.bl b) H
section
variable {X : Cx}
theorem zio : zbF X (.builtin "isinstance") (zk5 X.K) := by
  intro pins s σ H xs us Q I r h; obtain ⟨e, C, c, b, rfl, he, hk, hc, q⟩ := h; obtain ⟨u, w', rfl, rx, rt⟩ := zkT r
  cases (show u = Value.ref e from rx)
  have hp : zch e C s.heap := (I.hok e _ he).1
  rcases hc with ⟨T, rfl, k⟩ | ⟨D, rfl, k⟩
  . cases (show w' = Value.type T from rt)
    exact PySem.W.kia_one (zf4 hk) I.kIn hp k (fun z => nomatch z) fun tk => ⟨.bl b, H, I.tok tk, rfl, q⟩
  . cases (show w' = Value.ref D from rt)
    exact PySem.W.kia_one (zf4 hk) I.kIn hp k (fun z => nomatch z) fun tk => ⟨.bl b, H, I.tok tk, rfl, q⟩
def zl0 : V -> List V -> Hp -> VK -> Prop := fun x vs H Q => ∃ (l : Addr) (bs : List Bool) (k : Bool), x = .ref l /\ vs = [.bl k] /\ H l = some (.lst (bs.map V.bl)) /\ Q (.int (bs.count k : Nat)) H
theorem zeL : ∀ {bs : List Bool} {us : List Value}, Vals (bs.map V.bl) us -> us = bs.map Value.bool
  | [], _, r => by cases r; rfl
  | b :: bs, _, r => by
    cases r with
    | cons r1 r2 => rw [show _ = Value.bool b from r1, zeL r2]; rfl
theorem zdZ (k : Bool) : ∀ bs : List Bool, (bs.map Value.bool).countP (isBoolOf k) = bs.count k
  | [] => rfl
  | b :: bs => by
    rw [List.map_cons, List.countP_cons, List.count_cons, zdZ k bs]
    rfl
theorem zjw : MtM X "list.count" zl0 := by
  intro pins s σ H x vs v us Q I rx rv h; obtain ⟨l, bs, k, rfl, rfl, hH, q⟩ := h; cases rx; obtain ⟨u, rfl, ru⟩ := rv.one
  cases (show u = Value.bool k from ru)
  obtain ⟨z, its, n, r, hl, e⟩ := I.lstM hH; have ei := zeL r; subst ei; refine call_meets PySem.F.slot_list_count ⟨_, e, rfl⟩ PySem.F.entry_list_count (PySem.F.args_list_count_2 _ _) (PySem.SeqAt.list_countAt l (bs.map Value.bool).toArray n none #[] (.bool k) (isBoolOf k)) ⟨e, fun y hy => ?_, ?_⟩
  . have hy' : y ∈ bs.map Value.bool := by simpa using hy
    obtain ⟨b, _, rfl⟩ := List.mem_map.mp hy'; exact PySem.SeqAt.EqAt.bool_bool b k
  . refine ⟨.int _, H, I.tok _, ⟨_, rfl⟩, ?_⟩; have : (bs.map Value.bool).toArray.toList.countP (isBoolOf k) = bs.count k := zdZ k bs; rw [this]; exact q
end
end L2
set_option Elab.async false
set_option linter.all false
set_option maxRecDepth 100000
set_option maxHeartbeats 4000000
namespace L2
open PySem PySem.Spec PyProof.Rows
section
variable {X : Cx} {pins : List (Addr × Obj)} {σ : St} {H : Hp} {s : Shared} {e : Addr} {o : HO}
theorem Inv.take (I : Inv X pins σ H s) (l : Ls X pins H e) (ok : ObjOk X.prog X.w (upd H e o) s.heap e o) : Inv X pins σ (upd H e o) s := by
  have ne : ∀ {b : Addr} {u : HO}, H b = some u -> b ≠ e := fun {b u} q z => by rw [z, l.un] at q; cases q
  have H0 : ∀ {b : Addr} {u : HO}, H b = some u -> (upd H e o) b = some u := fun {b u} q => by rw [zah (ne q)]; exact q
  refine ⟨I.ok, I.os, I.bare, ⟨I.base.keep, I.base.slot, fun b ob q n hx => ?_, I.base.there, fun b xs q => H0 (I.base.tups b xs q), fun b ob u q => H0 (I.base.frzs b ob u q), fun b ps q => ?_⟩, I.loc, I.cell, ?_, fun x c q => ?_, fun p hp => ?_, fun b u q => ?_, I.len⟩
  . have : b ≠ e := fun z => by rw [z, l.new] at q; cases q
    rw [zah this]; exact I.base.free b ob q n hx
  . obtain ⟨more, z⟩ := I.base.tbls b ps q; exact ⟨more, H0 z⟩
  . rw [zah (Ne.symm l.loc)]; exact I.free
  . rw [zah (l.cell x c q)]; exact I.freeC x c q
  . obtain ⟨h1, h2, h3⟩ := I.pin p hp; exact ⟨h1, by rw [zah (l.pin p hp)]; exact h2, h3⟩
  . by_cases hb : b = e
    . subst hb; rw [zab] at q; cases q; exact ok
    . rw [zah hb] at q; exact (I.hok b u q).stay (fun _ _ _ z => z) (fun c z => H0 z) fun c xs z => H0 z
theorem Inv.lost {h' : Heap} {t' : Nat} {m' : Str -> Option Value} (I : Inv X pins σ H s) (hn' : h'.Ns X.env.locals m') (hs : Heap.SameBut X.env.locals s.heap h') : Inv X pins (List.replicate X.N.length none) H { s with heap := h', toks := t' } := by
  have old : ∀ b ob, X.s₀.heap.get? b = some ob -> b ≠ X.env.locals := fun b ob q => Nat.ne_of_lt (Nat.lt_of_lt_of_le (Heap.lt_size q) I.ok.above); have tr : ∀ b u, H b = some u -> b ≠ X.env.locals := fun b u q z => by rw [z, I.free] at q; cases q
  refine ⟨I.ok, I.os, I.bare, ⟨fun b ob q n hb hx => (hs.2 b (old b ob q)).trans (I.base.keep b ob q n hb hx), fun b ob q n hb hx => ?_, I.base.free, fun b ob q hx => ?_, I.base.tups, I.base.frzs, I.base.tbls⟩, ⟨m', hn', fun i x v e1 e2 e3 => ?_⟩, fun y c q => ?_, I.free, I.freeC, fun p hp => ?_, fun b u q => ?_, by simp⟩
  . obtain ⟨sl, z⟩ := I.base.slot b ob q n hb hx; exact ⟨sl, (hs.2 b (old b ob q)).trans z⟩
  . obtain ⟨o', z⟩ := I.base.there b ob q hx; exact ⟨o', (hs.2 b (old b ob q)).trans z⟩
  . rw [List.getElem?_replicate] at e2
    split at e2 <;> cases e2
  . obtain ⟨w', z⟩ := I.cell y c q; exact ⟨w', z.sameBut hs (I.cne y c q)⟩
  . obtain ⟨h1, h2, h3, h4⟩ := I.pin p hp; exact ⟨(hs.2 p.1 h3).trans h1, h2, h3, h4⟩
  . exact (I.hok b u q).stay (fun c v hc z => (hs.2 c (by rcases hc with rfl | hc; exact tr c u q; exact tr c _ hc)).trans z) (fun _ z => z) fun _ _ z => z
end
def zjP (n : Nat) (D : zci) : zci := { nx := fun _ H => D.nx (List.replicate n none) H, bk := fun _ H => D.bk (List.replicate n none) H, ct := fun _ H => D.ct (List.replicate n none) H, rt := D.rt }
def zmi (X : Cx) (tb : XK -> TS) (c : Addr) (i : Nat) (t : TS) : TS := fun D σ H =>
  tb (fun C _ H' => ∃ Ca, C = .ref Ca /\ PySem.W.exmOne X.K C (.ref c) = some true /\ ∀ e, H' e = none -> t (zjP X.N.length D) ((List.replicate X.N.length none).set i (some (.ref e))) (upd H' e (.ext (zch e Ca)))) D σ H
section
variable {X : Cx} {D : zci}
theorem zjk {body : List Stmt} {x n : Str} {np hpos pos : Pos} {b₀ : Stmt} {suite : List Stmt} {c : Addr} {i : Nat} {t : TS} {tb : XK -> TS} (O : Own X) (hc : X.calm = true) (hb : ∀ pn E, PSs (X.inTry pn E) body (tb E))
    (hg : Gl X x) (hm : X.mg x = some (.ref c)) (hd : (x == ("__debug__" : Str)) = false) (ht : ∀ e, PSs (X.marked e) (b₀ :: suite) t)
    (hN : X.N.Nodup) (hi : X.N[i]? = some n) (hl : X.env.kindOf n = some .local) (hx : Loc X.env.scope n) (hf : X.fn n = true \/ X.env.scope.names.lookup n = some .local := by first | exact .inl rfl | exact .inr rfl | assumption) :
    PS X (.Try body [.ExceptHandler (some (.Name x np)) (some n) (b₀ :: suite) hpos] [] [] pos) (zmi X tb c i t) := by
  intro pins s σ H D I h; refine wpAny_Try_except (wpAny_mono (hb (X.pn ++ pins) _ [] s σ H D (I.pinIn.wish _) h) (fun f s1 q => ?_) fun y s1 z => ?_)
  . have q := q.unwish.pinOut
    cases f with
    | next => exact wpAny_execs_nil q
    | _ => exact q
  . obtain ⟨pins', σ', H', e, C, rfl, I1, le, hm1, w⟩ := z; refine zjJ I1.pinOut O le.pinOut (hm1.imp id fun ⟨T, f, lT, hf, fl⟩ => ⟨T, f, lT.pinOut, hf, fl⟩) fun h' T I2 lT fl => ?_; refine zkE I2 O le.pinOut lT fl fun h2 T2 I3 lT2 f2 => ?_; obtain ⟨Ca, rfl, hx1, w⟩ := w; have le' := le.pinOut
    have hcls : ∃ oe, h2.get? e = some oe /\ oe.cls = .ref Ca := by
      obtain ⟨oe, vs, oT, ts, a0, he, ⟨hc, _⟩, _⟩ := f2; exact ⟨oe, he, hc⟩
    obtain ⟨oe, he, hce⟩ := hcls; have LT : PySem.W.Looks (model X.prog X.w) h2 (typeOf (.ref e)) (.ref Ca) := hce ▸ (PySem.W.Looks.ld he).andThen .now; refine wpAny_handleBy_cons (codeAny_handlers_test ?_) (by intro q; cases q)
    refine zdn (X := X.marked e) I3.marked hg hm ?_ hd; refine PySem.W.exm_one I3.kIn LT hx1 _ _ _ _ (fun _ _ q => q) ?_; refine codeAny_handlers_suite_as ?_; refine zkE I3 O le' lT2 f2 fun h3 T3 I4 lT3 f3 => ?_
    have hcls3 : zch e Ca h3 := by
      obtain ⟨oe, vs, oT, ts, a0, he, ⟨hc, _⟩, _⟩ := f3; exact ⟨oe, he, hc⟩
    have I5 := (I4.take le' (o := .ext (zch e Ca)) (zjV hcls3)).weak (σ' := List.replicate X.N.length none) (by rw [List.length_replicate, I4.len]) fun i v q => by
        rw [List.getElem?_replicate] at q; split at q <;> cases q
    refine zeg I5 hN hi hx (show RelV (.ref e) (Value.ref e) from rfl) (fun s4 I6 => ?_) hf; refine wpAny_mono (ht e pins _ _ _ (zjP X.N.length D) I6.marked (w e le'.un)) (fun f s5 q => ?_) fun _ _ z => False.elim z; have q := q.unmarked I.ok.hd; have hp : (X.env.scope.kind == .class || (X.env.scope.kind == .module && X.env.locals != X.env.globals)) = false := by rw [I.ok.kind]; rfl
    have fin : ∀ {σ' : St} {H' : Hp} {f : Flow}, Inv X pins σ' H' s5 -> (∀ s6, Inv X pins (List.replicate X.N.length none) H' s6 -> SP X pins D f s6) -> wpAny (model X.prog X.w) X.A (do bindName X.env n .none; unbindBehindTheSuite X.env n hpos) (fun _ s6 => SP X pins D f s6) X.xe s5 := fun I7 k => by
      obtain ⟨m, hn, _⟩ := I7.loc; exact wpAny_nameGoes hl hn hp fun h' m' hn' hs => k _ (I7.lost hn' hs)
    cases f with
    | next => obtain ⟨σ', H', I7, q⟩ := q; exact fin I7 fun s6 I8 => ⟨_, H', I8, q⟩
    | brk => obtain ⟨σ', H', I7, q⟩ := q; exact fin I7 fun s6 I8 => ⟨_, H', I8, q⟩
    | cont => obtain ⟨σ', H', I7, q⟩ := q; exact fin I7 fun s6 I8 => ⟨_, H', I8, q⟩
    | ret u => obtain ⟨v, σ', H', I7, r, q⟩ := q; exact fin I7 fun s6 I8 => ⟨v, _, H', I8, r, q⟩
end
end L2
set_option Elab.async false
set_option linter.all false
set_option maxRecDepth 100000
set_option maxHeartbeats 4000000
namespace L2
open PySem PySem.Spec PyProof.Rows
def znj (te : TE) : TE := fun σ H Q => te σ H fun x H1 => ∃ d kvs, x = .ref d /\ H1 d = some (.dK kvs) /\ ∀ o, Q x (upd H1 d (.frz o (.dK kvs)))
theorem zeJ {X : Cx} {e : Expr} {te : TE} (h : PE X e te) : PE X e (znj te) := by
  intro pins s σ H Q I q; refine thn (h pins s σ H _ I q) fun u s1 ⟨x, H1, I1, r, d, kvs, ex, hd, q1⟩ => ?_; subst ex; have hk := I1.hok d _ hd; obtain ⟨z, hs, vs, rk, o, es, ep, ho, hx, hda, r1⟩ := id hk
  have I2 : Inv X pins σ (upd H1 d (.frz o (.dK kvs))) { s1 with heap := s1.heap, toks := s1.toks } :=
    I1.write (x := d) (e := d) (o := .frz o (.dK kvs)) (t' := s1.toks) (by rw [hd]; exact True.intro) (.inl rfl) (fun _ _ _ q => q) ⟨o, ho⟩ ⟨ho, ⟨z, hs, vs, rk, o, es, ep, ho, hx, hda, r1⟩⟩
  exact ⟨.ref d, _, I2, r, q1 o⟩
theorem zhQ {P : Program} {w : World} {k : Key} {u : Value} (h : (zaE P w).is k u = true) : RelV (kV k) u := by
  rw [zgW] at h
  rcases zaL h with ⟨i, t, rfl, rfl⟩ | ⟨x, t, rfl, rfl⟩
  . exact ⟨t, rfl⟩
  . exact ⟨t, rfl⟩
theorem zgC {P : Program} {w : World} : ∀ {es : List DictEntry} {vs : List (Key × Value)} {i : Nat} {q : Key × Value}, Pairs (zaE P w) es vs -> vs[i]? = some q -> ∃ e, es[i]? = some e /\ RelV (kV q.1) e.key
  | _, _, _, _, .nil, z => by simp at z
  | _, _, 0, _, .cons r _ _, z => by simp at z; subst z; exact ⟨_, rfl, zhQ r⟩
  | _, _, i + 1, _, .cons _ _ t, z => by
    obtain ⟨b, h1, h2⟩ := zgC (i := i) t (by simpa using z)
    exact ⟨b, by simpa using h1, h2⟩
theorem zb8 {P : Program} {w : World} : ∀ {es : List DictEntry} {vs : List (Key × Value)}, Pairs (zaE P w) es vs -> es.length = vs.length
  | _, _, .nil => rfl
  | _, _, .cons _ _ t => by rw [List.length_cons, List.length_cons, zb8 t]
theorem zgZ {X : Cx} {pins : List (Addr × Obj)} {σ : St} {H : Hp} {s : Shared} {d : Addr} {o : Obj} {kvs : List (Key × V)} (I : Inv X pins σ H s) (h : H d = some (.frz o (.dK kvs))) :
    s.heap.get? d = some o /\ (d == sysModules) = false /\ o.ExactDict /\ ∃ es ep, o.data = .dict es ep /\ es.size = kvs.length /\ ∀ (i : Nat) p, kvs[i]? = some p -> ∃ e, es[i]? = some e /\ RelV (kV p.1) e.key := by
  obtain ⟨ho, z, hs, vs, rk, o', es, ep, ho', hx, hda, _, hp, _⟩ := I.hok d _ h; rw [ho] at ho'; cases ho'; refine ⟨ho, hs, hx, es, ep, hda, ?_, fun i p hi => ?_⟩
  . have := zb8 hp; rw [KV.length rk, <- this, Array.length_toList]
  . have hk := KV.keys rk; have hl := KV.length rk; have hi' : i < vs.length := by have := (List.getElem?_eq_some_iff.mp hi).1; omega
    obtain ⟨e, he, r⟩ := zgC hp (List.getElem?_eq_getElem hi'); refine ⟨e, by simpa using he, ?_⟩
    have e1 : (kvs.map (·.1))[i]? = some p.1 := by rw [List.getElem?_map, hi]; rfl
    rw [hk, List.getElem?_map, List.getElem?_eq_getElem hi'] at e1; have e2 : vs[i].1 = p.1 := Option.some.inj e1; rw [<- e2]; exact r
def Itf (d : Addr) (o : Obj) (kvs : List (Key × V)) : It :=
  ⟨fun i H => H d = some (.frz o (.dK kvs)) /\ i < kvs.length, fun i H x H' => H' = H /\ ∃ p, kvs[i]? = some p /\ x = kV p.1, fun i H => H d = some (.frz o (.dK kvs)) /\ kvs.length <= i⟩
theorem zkQ {P : Program} {w : World} {K : PySem.W.Frag} {tg : Expr} (d it : Addr) (o : Obj) (kvs : List (Key × V)) (es : Array DictEntry) (ep : Nat) (hd : o.data = .dict es ep) (hz : es.size = kvs.length) (hr : ∀ (i : Nat) p, kvs[i]? = some p -> ∃ e, es[i]? = some e /\ RelV (kV p.1) e.key) :
    ze6 P w K tg (Itf d o kvs) [it] it (fun i h => h.IsKeyIter it d i es.size ep) where
  mem := by simp
  obj := fun i h st b hb => by
    have e : b = it := by simpa using hb
    subst e; obtain ⟨o, e, c, d⟩ := st; exact ⟨o, e, fun v z => by rw [d] at z; cases z⟩
  keep := fun i h h' st k => let ⟨o, e, r⟩ := st; ⟨o, k it (by simp) o e, r⟩
  item := by
    intro X hP hw hK hc i pins s σ H E I hf st hg; subst hP hw hK; obtain ⟨D, hi⟩ := hg; obtain ⟨e, he, rk⟩ := hr i _ (List.getElem?_eq_getElem hi); obtain ⟨f0, f1, f2, f3, f4, f5⟩ := hf it (by simp)
    refine HT.next_key st (zgZ I D).1 hd he fun h' st' sb => ?_; have I1 : Inv X pins σ H { s with heap := h' } := I.turned (t' := s.toks) (fun b ob hb e => (sb.2 b hb).trans e) f0 f1 f3 f4 f5
    obtain ⟨oi, ei, ci, di⟩ := id st'; exact ⟨_, rfl, zgN (s := { s with heap := h' }) ei ci di (by decide) ⟨kV kvs[i].1, H, I1, rk, ⟨rfl, _, List.getElem?_eq_getElem hi, rfl⟩, st', fun b hb => (hf b hb).1⟩⟩
  done := by
    intro X hP hw hK hc i pins s σ H E I hf st hg; subst hP hw hK; obtain ⟨D, hi⟩ := hg; obtain ⟨f0, f1, f2, f3, f4, f5⟩ := hf it (by simp)
    exact HT.next_end (I.ok.hd hc) st (zgZ I D).1 hd (by omega) fun h' eb => ⟨rfl, I.turned (t' := s.toks) (fun b o hb e => eb b o hb e) f0 f1 f3 f4 f5⟩
  self := fun A i s Q E st h => by
    have hT := st.typeIs; refine wpAny_pyIter_slot hT PySem.F.slot_dict_keyiterator_iter (wpAny_call_entry PySem.F.slot_dict_keyiterator_iter hT PySem.F.entry_dict_keyiterator_iter ?_ (PySem.F.args_dict_keyiterator_iter_1 _)); show wpAny _ _ (ret (.ref it)) _ _ s; exact wpAny_pure ⟨_, rfl, "dict_keyiterator", _, hT, PySem.F.slot_dict_keyiterator_next.lookup, h⟩
def iFD (tl : TE) : TI := fun σ H R => tl σ H fun x H1 => ∃ d o kvs, x = .ref d /\ H1 d = some (.frz o (.dK kvs)) /\ R (Itf d o kvs) H1
section
variable {X : Cx} {tg : Expr}
theorem zmN {l : Expr} {tl : TE} (hl : PE X l tl) : PI X tg l (iFD tl) := by
  intro pins s σ H R I h; refine thn (hl pins s σ H _ I h) fun v s1 ⟨x, H1, I1, r1, q1⟩ => ?_; obtain ⟨d, o, kvs, e, D, q⟩ := q1; subst e; cases r1; obtain ⟨ho, hs, hx, es, ep, hd, hz, hr⟩ := zgZ I1 D; refine HT.iter_keys hs ho hx hd ?_; refine ⟨s1.heap.objs.size, [s1.heap.objs.size], _, _, H1, rfl, I1.kept (t' := s1.toks) fun b o e => Heap.get?_push_of_some _ e, zkQ d _ o kvs es ep hd hz hr, ⟨_, Heap.get?_push_size _ rfl, rfl, rfl⟩, fun b hb => ?_, q⟩; have e : b = s1.heap.objs.size := by simpa using hb
  subst e; exact I1.fpOk (Nat.le_refl _) (I1.hok.fresh (Nat.le_refl _))
end
theorem zml {d : Addr} {o : Obj} {kvs : List (Key × V)} {g : TG} {tb : TS} {D : zci} {σ : St} {H : Hp} (Pv : Nat -> St -> Hp -> Prop) (h0 : Pv 0 σ H) (hl : ∀ i σ H, i <= kvs.length -> Pv i σ H -> H d = some (.frz o (.dK kvs)))
    (hs : ∀ i p σ H, kvs[i]? = some p -> Pv i σ H -> g (kV p.1) σ H fun σ2 H2 => tb { D with nx := Pv (i + 1), ct := Pv (i + 1), bk := D.nx } σ2 H2) (hd : ∀ σ H, Pv kvs.length σ H -> D.nx σ H) :
    ∃ W : Nat -> Nat -> St -> Hp -> Prop, (∃ m, W 0 m σ H) /\ ∀ i m σ H, W i m σ H →
      ((Itf d o kvs).stop i H /\ D.nx σ H) \/ ((Itf d o kvs).go i H /\ ∃ N : St -> Hp -> Prop, (∀ σ' H', N σ' H' -> ∃ m', m' < m /\ W (i + 1) m' σ' H') /\ ∀ x H', (Itf d o kvs).yld i H x H' -> g x σ H' fun σ2 H2 => tb { D with nx := N, ct := N, bk := D.nx } σ2 H2) := by
  refine ⟨fun i m σ H => m = kvs.length - i /\ i <= kvs.length /\ Pv i σ H, ⟨kvs.length, by simp, Nat.zero_le _, h0⟩, ?_⟩
  rintro i m σ H ⟨rfl, hi, p⟩; have hq := hl i σ H hi p
  by_cases hlt : i < kvs.length
  . refine .inr ⟨⟨hq, hlt⟩, fun σ' H' => Pv (i + 1) σ' H', fun σ' H' p' => ⟨kvs.length - (i + 1), by omega, rfl, by omega, p'⟩, ?_⟩
    rintro x H' ⟨e, q, hq2, rfl⟩; subst e; exact hs i _ σ _ hq2 p
  . have e : i = kvs.length := by omega
    subst e; exact .inl ⟨⟨hq, Nat.le_refl _⟩, hd σ H p⟩
end L2
set_option Elab.async false
set_option linter.all false
set_option maxRecDepth 100000
set_option maxHeartbeats 4000000
namespace L2
open PySem PySem.Spec PyProof.Rows
theorem zeK {P : Program} {w : World} : ∀ {us : List Value} {ss : List Str}, us.length = ss.length -> (∀ (j : Nat) u, us[j]? = some u -> ∃ x, ss[j]? = some x /\ ∃ t, u = .str x t) -> StrsAre us ss
  | [], [], _, _ => .nil
  | u :: us, x :: ss, hl, h => by
    obtain ⟨x', h1, t, rfl⟩ := h 0 u rfl
    cases (show x = x' from Option.some.inj h1)
    exact .cons x t (zeK (P := P) (w := w) (by simpa using hl) fun j v hv => h (j + 1) v hv)
  | [], _ :: _, hl, _ => by simp at hl
  | _ :: _, [], hl, _ => by simp at hl
theorem zfl : ∀ {us : List Value} {ss : List Str}, StrsAre us ss -> Vals (ss.map V.str) us
  | _, _, .nil => .nil
  | _, _, .cons x t h => .cons ⟨t, rfl⟩ (zfl h)
theorem zdf {X : Cx} (hc : X.calm = true) : zbF X (.builtin "sorted") (fun xs H Q => ∃ (d : Addr) (kvs : List (Key × V)) (ss : List Str), xs = [.ref d] /\ Rd H d (.dK kvs) /\ kvs.map (·.1) = ss.map Sum.inr /\ ss.length < 64 ∧
    ∀ (l : Addr) (ss' : List Str), H l = none -> ss'.Perm ss -> sortedS ss' = true -> Q (.ref l) (upd H l (.lst (ss'.map V.str)))) := by
  intro pins s σ H xs us Q I r h; obtain ⟨d, kvs, ss, rfl, hd, hks, h64, q⟩ := h; obtain ⟨u, rfl, ru⟩ := zcm r
  cases (show u = Value.ref d from ru)
  obtain ⟨z, hs, vs, rk, dd⟩ := zf6 I.hok hd; obtain ⟨ep, hat⟩ := dd.dictAt; have hkl : vs.map (·.1) = ss.map Sum.inr := by rw [<- KV.keys rk]; exact hks
  have hvl : vs.length = ss.length := by have := congrArg List.length hkl; simpa using this
  have hsz : sizeLine = 16777216 := sizeLine_eq; refine Calls.call_function_entry kind_sorted plain_sorted entry_sorted (args_sorted1 _) ?_; unfold Builtin.«sorted»; refine wpAny_bind (m := checkCount "sorted" 1 1 _) (wpAny_pure ?_); refine wpAny_bind (PySem.W.kdu_collect (A := X.A.in1) (PySem.W.kdl_dict (knd := zaE X.prog X.w) (kvs := vs) (ep := ep) hs) (I.ok.hd hc) hat (by omega) fun h' tk acc hk hacc => ?_)
  have hS : StrsAre acc.toList ss := by
    refine zeK (P := X.prog) (w := X.w) (by rw [Array.length_toList, hacc.1, hvl]) fun j u hu => ?_
    obtain ⟨k, x, hx, hkk⟩ := hacc.2 j u (by rw [<- Array.getElem?_toList]; exact hu)
    have e1 : (vs.map (·.1))[j]? = some k := by rw [List.getElem?_map, hx]; rfl
    rw [hkl, List.getElem?_map] at e1; obtain ⟨x', h1, rfl⟩ := Option.map_eq_some_iff.mp e1; exact ⟨x', h1, zhQ hkk⟩
  have hal : acc.toList.length = ss.length := by rw [Array.length_toList, hacc.1, hvl]
  refine wpAny_bind (wpAny_newList ?_ (by rw [hal]; omega))
  have ho1 : (h'.push (seqObj "list" acc.toList.toArray 0)).get? h'.objs.size = some (seqObj "list" acc.toList.toArray 0) := Heap.get?_push_size _ rfl; show wpAny _ _ _ _ _ { s with heap := h'.push (seqObj "list" acc.toList.toArray 0), toks := tk }
  refine wpAny_bind (wpAny_holding (wpAny_call_entry slot_list_sort ⟨_, ho1, rfl⟩ entry_list_sort (list_sort_treeK strKind_oneLt ho1 hS.keysOf (fun v₁ v₂ rest e => keyKind_strs (ss := ss) (e ▸ hS)) (by omega) fun st' a1 a2 => ⟨_, rfl, ?_⟩) (args_list_sort _)))
  obtain ⟨ss', b1, b2, b3⟩ := sorted_out_str hS a1 a2; obtain ⟨e, he⟩ := sortedHeap_at (out := (arrOf st').map (·.2)) ho1; have I1 := I.kept (t' := tk) hk; refine wpAny_pure ⟨_, rfl, .ref _, _, I1.laid (a := h'.objs.size) (t' := tk) (fun b o q => ?_) (Nat.le_refl _) (show ObjOk X.prog X.w _ _ _ (.lst (ss'.map V.str)) from ⟨?_, _, e, zfl b1, ?_⟩), rfl, q _ ss' (I1.hok.fresh (Nat.le_refl _)) b2 b3⟩
  . have hlt : b < h'.objs.size := Heap.lt_size q; rw [sortedHeap_old (Nat.ne_of_lt hlt) (by rw [size_push']; exact Nat.lt_succ_of_lt hlt), Heap.get?_push_ne _ _ _ (Nat.ne_of_lt hlt)]
    exact q
  . rw [List.length_map, b2.length_eq]; omega
  . rw [he]
end L2
set_option Elab.async false
set_option linter.all false
set_option maxRecDepth 100000
set_option maxHeartbeats 4000000
namespace L2
open PySem PySem.Spec PyProof.Rows
def zdY (p : V -> Bool) (xs : List V) (n : Nat) : List Int := (zap 0 n).filter fun i => p (xs.getD i.toNat .non)
theorem zij (n : Nat) : zap 0 (n + 1) = zap 0 n ++ [(n : Int)] := by
  unfold zap; rw [List.range_succ, List.map_append]; simp
theorem zg3 {p : V -> Bool} {xs : List V} {n : Nat} {x : V} (h : xs[n]? = some x) : zdY p xs (n + 1) = if p x = true then zdY p xs n ++ [(n : Int)] else zdY p xs n := by
  unfold zdY; rw [zij, List.filter_append]; have e : xs.getD (n : Int).toNat .non = x := by rw [Int.toNat_natCast, List.getD_eq_getElem?_getD, h]; rfl
  cases hp : p x with
  | true => rw [if_pos rfl]; simp only [List.filter_cons, List.filter_nil, e, hp, if_true]
  | false => rw [if_neg Bool.false_ne_true]; simp only [List.filter_cons, List.filter_nil, e, hp, Bool.false_eq_true, if_false, List.append_nil]
theorem zjU {K : PySem.W.Frag} {a : Addr} {xs : List V} {idx : List Nat} {tt : TT} {te : TE} {σ : St} {H : Hp} {Q : VK} (p : V -> Bool) (hq : SqL K H a xs) (hl : xs.length <= sizeLine)
    (ht : ∀ (i : Nat) x H' (R : Bool -> Hp -> Prop), xs[i]? = some x -> Same H H' -> R (p x) H' -> tt (some (.int i) :: some x :: cap σ idx) H' R)
    (he : ∀ (i : Nat) x H' (R : VK), xs[i]? = some x -> Same H H' -> R (.int i) H' -> te (some (.int i) :: some x :: cap σ idx) H' R)
    (hQ : ∀ D H', Same H H' -> H' D = some (.lst ((zdY p xs xs.length).map V.int)) -> Q (.ref D) H') : zlJ idx (Ite K a) (zkB K 2 (zem (zbg 0) (zem (zbg 1) zkK))) tt te Q σ H := by
  intro D hD; refine ⟨fun i m ys ρ H' => m = xs.length - i /\ i <= xs.length /\ (∃ y0 y1, ρ = y0 :: y1 :: cap σ idx) /\ ys = (zdY p xs i).map V.int /\ ys.length <= i /\ Same H H' /\ H' D = some (.lst ys), ⟨xs.length, by simp, Nat.zero_le _, ⟨none, none, rfl⟩, rfl, Nat.zero_le _, Same.upd hD, zab⟩, ?_⟩
  rintro i m ys ρ H' ⟨rfl, hi, ⟨y0, y1, rfl⟩, hys, hyl, sm, hDy⟩; refine ⟨hDy, ?_⟩; have d3 := sm.seq hq
  by_cases hlt : i < xs.length
  . refine .inr ⟨⟨xs, xs[i], d3, List.getElem?_eq_getElem hlt⟩, by omega, fun x H2 y => ?_⟩
    obtain ⟨t, e, htn, y⟩ := y; subst e; have hx : xs[i]? = some xs[i] := List.getElem?_eq_getElem hlt; have e2 := y xs _ d3 hx; subst e2; have s2 : Same H' (upd H' t (.tup [.int i, xs[i]])) := Same.upd htn; have q2 := s2 _ _ hDy; have sucs := zg3 (p := p) hx; refine ⟨t, _, rfl, SqT.of zab, rfl, _, _, rfl, _, _, rfl, rfl, ?_⟩; refine ht i _ _ _ hx (sm.trans s2) ?_
    cases hp : p xs[i] with
    | true =>
      rw [if_pos rfl]; rw [if_pos hp] at sucs; refine he i _ _ _ hx (sm.trans s2) ⟨q2, xs.length - (i + 1), by omega, rfl, hlt, ⟨_, _, rfl⟩, ?_, by rw [List.length_append, List.length_singleton]; omega, fun b o hb => ?_, zab⟩
      . rw [sucs, List.map_append, hys]; rfl
      . rw [zah (zaq hb hD)]; exact (sm.trans s2) _ _ hb
    | false =>
      rw [if_neg Bool.false_ne_true]; rw [if_neg (by rw [hp]; exact Bool.false_ne_true)] at sucs
      exact ⟨xs.length - (i + 1), by omega, rfl, hlt, ⟨_, _, rfl⟩, by rw [sucs, hys], by omega, sm.trans s2, q2⟩
  . have e : i = xs.length := by omega
    subst e; refine .inl ⟨⟨xs, d3, Nat.le_refl _⟩, hQ D H' sm ?_⟩; rw [hDy, hys]
theorem ziI {K : PySem.W.Frag} {a : Addr} {xs : List V} {idx : List Nat} {tt : TT} {te : TE} {σ : St} {H : Hp} {Q : VK} (p : V -> Bool) (Iv : Addr -> Nat -> List V -> Hp -> Prop) (hl : xs.length <= sizeLine)
    (h0 : ∀ D, H D = none -> Iv D 0 [] (upd H D (.lst []))) (hD : ∀ D i ys H', Iv D i ys H' -> H' D = some (.lst ys) /\ ys.length <= i /\ SqL K H' a xs)
    (ht : ∀ D (i : Nat) x ys H' (R : Bool -> Hp -> Prop), H D = none -> xs[i]? = some x -> Iv D i ys H' -> R (p x) H' -> tt (some x :: cap σ idx) H' R)
    (hf : ∀ D (i : Nat) x ys H', H D = none -> xs[i]? = some x -> p x = false -> Iv D i ys H' -> Iv D (i + 1) ys H')
    (he : ∀ D (i : Nat) x ys H' (R : VK), H D = none -> xs[i]? = some x -> p x = true -> Iv D i ys H' -> (∀ v H4, H4 D = some (.lst ys) -> Iv D (i + 1) (ys ++ [v]) (upd H4 D (.lst (ys ++ [v]))) -> R v H4) -> te (some x :: cap σ idx) H' R)
    (hQ : ∀ D ys H', H D = none -> Iv D xs.length ys H' -> Q (.ref D) H') : LCW idx (Itl K a) (zbg 0) tt te Q σ H := by
  intro D hn; refine ⟨fun i m ys ρ H' => m = xs.length - i /\ i <= xs.length /\ (∃ y0, ρ = y0 :: cap σ idx) /\ Iv D i ys H', ⟨xs.length, by simp, Nat.zero_le _, ⟨none, rfl⟩, h0 D hn⟩, ?_⟩
  rintro i m ys ρ H' ⟨rfl, hi, ⟨y0, rfl⟩, hv⟩; obtain ⟨d1, d2, d3⟩ := hD D i ys H' hv; refine ⟨d1, ?_⟩
  by_cases hlt : i < xs.length
  . refine .inr ⟨⟨xs, xs[i], d3, List.getElem?_eq_getElem hlt⟩, by omega, fun x H2 y => ?_⟩
    obtain ⟨e, y⟩ := y; subst e; have hx := y xs d3; refine ht D i x ys H2 _ hn hx hv ?_
    cases hp : p x with
    | true =>
      rw [if_pos rfl]; exact he D i x ys H2 _ hn hx hp hv fun v H4 h1 h2 => ⟨h1, xs.length - (i + 1), by omega, rfl, hlt, ⟨_, rfl⟩, h2⟩
    | false =>
      rw [if_neg Bool.false_ne_true]; exact ⟨xs.length - (i + 1), by omega, rfl, hlt, ⟨_, rfl⟩, hf D i x ys H2 hn hx hp hv⟩
  . have e : i = xs.length := by omega
    subst e; exact .inl ⟨⟨xs, d3, Nat.le_refl _⟩, hQ D ys H' hn hv⟩
theorem zho {scope : Scope} {e e' : Env} (h : e.scope = e'.scope) : relabel scope e = relabel scope e' := by
  unfold relabel Env.kindOf; rw [h]
theorem zmS {scope0 : Scope} {env e0 : Env} {N0 : List Str} {scope : Scope} {x : Str} {ns : List Str} {idx : List Nat} (hs : env.scope = e0.scope) (h : cnB (relabel scope0 e0) N0 scope x ns idx = true) : CompNames (relabel scope0 env) N0 scope x ns idx := by
  rw [zho hs]; exact zbj h
theorem zfa (K : PySem.W.Frag) {X : Cx} {a : Expr} {ta : TE} (ha : PE X a ta) (he : ∀ whole, isTrue a X.env whole = (do let v <- whole; standAt a.pos; holding [v] (truthy v))) (hK : X.K = K := by rfl) :
    PT X a (fun σ H Q => ta σ H fun x H' => ∃ k, zlE K x H' k /\ Q k H') := by
  subst hK; exact zct ha he
theorem zjd (K : PySem.W.Frag) {X : Cx} {tg l : Expr} {tl : TE} (hl : PE X l tl) (hK : X.K = K := by rfl) : PI X tg l (zkY K tl) := by
  subst hK; exact zax hl
theorem zbM (K : PySem.W.Frag) {X : Cx} (h : X.K = K := by rfl) : zbF X (.builtin "isinstance") (zk5 K) := h ▸ zio
theorem zkC : bootBuiltins "ValueError" = some (.type "ValueError") := by decide +kernel
theorem zlT (K : PySem.W.Frag) {X : Cx} {o e : Expr} {es : List Expr} {to : TE} {t : TA} {name : Str} {apos cpos : Pos} {T id : String} {r : V -> List V -> Hp -> VK -> Prop} (pa : PlainAttrs T) (slot : Slot T name id) (hty : typeOf (.builtin id) = pure (.type "method_descriptor")) (hm : MtR X id r) (ho : PE X o to) (ha : PA X (e :: es) t)
    (hbase : attributeBase o name X.env (eval o X.env) = eval o X.env := by rfl)
    (hfew : ((backTo cpos (starEach (e :: es) X.env)).all (fun x => !x.1) && (backToKw cpos (keywordEach [] X.env)).all (fun x => x.1.isSome)
      && decide ((e :: es).length + ([] : List Keyword).length + (if ([] : List Keyword).isEmpty then 0 else 1) < 30)) = true := by rfl)
    (hline : (apos.endLine == cpos.line) = true := by rfl) (hs : starEach (e :: es) X.env = (false, eval e X.env) :: starEach es X.env := by rfl) (hplain : (backTo cpos (starEach es X.env)).any (·.1) = false := by rfl) (hK : X.K = K := by rfl) :
    PE X (.Call (.Attribute o name apos) (e :: es) [] cpos) (tBM K T r to t) := by
  subst hK; exact zcg pa slot hty hm ho ha hbase hfew hline hs hplain
end L2
set_option Elab.async false
set_option linter.all false
set_option maxRecDepth 100000
set_option maxHeartbeats 4000000
namespace L2
open PySem PySem.Spec PyProof.Rows
theorem bt1 {x : Str} {st : Stmt} {a0 : Str} (h : ∀ (kV doc pm : Value) (an : Option Addr) (cdv ct u0 : Value), bindArgs (PySem.W.fnOf x x (zbl st) (zaU st) (zaf st) .none kV doc pm an cdv ct) ⟨[u0], []⟩ = pure [(a0, u0)]) : zfq x st [a0] := fun kV doc pm an cdv ct us e => by
  rcases us with _ | ⟨u0, _ | ⟨u1, us⟩⟩
  . cases e
  . exact h kV doc pm an cdv ct u0
  . cases e
theorem bt2 {x : Str} {st : Stmt} {a0 a1 : Str} (h : ∀ (kV doc pm : Value) (an : Option Addr) (cdv ct u0 u1 : Value), bindArgs (PySem.W.fnOf x x (zbl st) (zaU st) (zaf st) .none kV doc pm an cdv ct) ⟨[u0, u1], []⟩ = pure [(a0, u0), (a1, u1)]) : zfq x st [a0, a1] := fun kV doc pm an cdv ct us e => by
  rcases us with _ | ⟨u0, _ | ⟨u1, _ | ⟨u2, us⟩⟩⟩
  . cases e
  . cases e
  . exact h kV doc pm an cdv ct u0 u1
  . cases e
theorem bt3 {x : Str} {st : Stmt} {a0 a1 a2 : Str} (h : ∀ (kV doc pm : Value) (an : Option Addr) (cdv ct u0 u1 u2 : Value), bindArgs (PySem.W.fnOf x x (zbl st) (zaU st) (zaf st) .none kV doc pm an cdv ct) ⟨[u0, u1, u2], []⟩ = pure [(a0, u0), (a1, u1), (a2, u2)]) : zfq x st [a0, a1, a2] := fun kV doc pm an cdv ct us e => by
  rcases us with _ | ⟨u0, _ | ⟨u1, _ | ⟨u2, _ | ⟨u3, us⟩⟩⟩⟩
  . cases e
  . cases e
  . cases e
  . exact h kV doc pm an cdv ct u0 u1 u2
  . cases e
theorem bt4 {x : Str} {st : Stmt} {a0 a1 a2 a3 : Str} (h : ∀ (kV doc pm : Value) (an : Option Addr) (cdv ct u0 u1 u2 u3 : Value), bindArgs (PySem.W.fnOf x x (zbl st) (zaU st) (zaf st) .none kV doc pm an cdv ct) ⟨[u0, u1, u2, u3], []⟩ = pure [(a0, u0), (a1, u1), (a2, u2), (a3, u3)]) : zfq x st [a0, a1, a2, a3] := fun kV doc pm an cdv ct us e => by
  rcases us with _ | ⟨u0, _ | ⟨u1, _ | ⟨u2, _ | ⟨u3, _ | ⟨u4, us⟩⟩⟩⟩⟩
  . cases e
  . cases e
  . cases e
  . cases e
  . exact h kV doc pm an cdv ct u0 u1 u2 u3
  . cases e
end L2
set_option Elab.async false
set_option linter.all false
set_option maxRecDepth 100000
namespace HD
open PySem PySem.W PySem.Calls PyProof.Rows
section
variable (d : Addr) (a : Addr) (h : Int) (es : Array DictEntry)
def asked (tells few : Bool) : List Nat -> Option Nat -> Sem (Option Nat)
  | [], hit => pure hit
  | i :: r, hit => match es[i]? with
    | none => asked tells few r hit
    | some e => dictEpoch d none >>= fun b => eqBool e.key (.ref a) >>= fun same => dictEpoch d none >>= fun b' =>
      if (b' != b) = true then .unsupported "dict.changed-during-lookup"
      else if same = true then
        (if hit.isSome = true then .unsupported "dict.find:order-among-keys-of-one-hash" else rule "dict.find.hit" >>= fun _ => if few = true then pure (some i) else asked tells few r (some i))
      else rule "dict.find.same-hash-other-key" >>= fun _ => if (tells && !(decide (0 <= h) && decide (h < 32))) = true then .unsupported "dict.find:asked-again-or-not-hangs-on-the-table" else asked tells few r hit
def zbO (pl : List Nat) : List Value := pl.filterMap fun i => es[i]?.map (·.key)
def behind (pl : List Nat) : Sem (Option Nat) :=
  if (es.any fun e => e.key == .ref a && e.hash != h) = true then .unsupported "dict.find:a-stored-key-whose-hash-has-changed"
  else (if (zbO es pl == [.ref a]) = true then pure false else tableMayTell (.ref a) (zbO es pl)) >>= fun tells =>
    if (tells && decide ((zbO es pl).length ≥ 2)) = true then .unsupported "dict.find:order-among-keys-of-one-hash" else asked d a h es tells (decide ((zbO es pl).length < 2)) pl none
end
theorem zeF (d a : Addr) (h : Int) (es : Array DictEntry) (tells : Bool) (n : Nat) (F : Nat -> Option (Option Nat) × Option Nat -> Sem (ForInStep (Option (Option Nat) × Option Nat))) (post : Option (Option Nat) × Option Nat -> Sem (Option Nat)) (p1 : ∀ x, post (none, x) = pure x) (p2 : ∀ r x, post (some r, x) = pure r)
    (hF : ∀ i hit, F i (none, hit) = match es[i]? with
      | some e => if (e.hash == h) = true then (dictEpoch d none >>= fun b => eqBool e.key (.ref a) >>= fun same => dictEpoch d none >>= fun b' =>
          if (b' != b) = true then .unsupported "dict.changed-during-lookup"
          else if same = true then
            (if hit.isSome = true then .unsupported "dict.find:order-among-keys-of-one-hash" else rule "dict.find.hit" >>= fun _ => if n < 2 then pure (ForInStep.done (some (some i), hit)) else pure (ForInStep.yield (none, some i)))
          else rule "dict.find.same-hash-other-key" >>= fun _ => if (tells && !(decide (0 <= h) && decide (h < 32))) = true then .unsupported "dict.find:asked-again-or-not-hangs-on-the-table" else pure (ForInStep.yield (none, hit)))
        else pure (ForInStep.yield (none, hit))
      | none => pure (ForInStep.yield (none, hit))) :
    ∀ (pl : List Nat) (hit : Option Nat), (∀ i ∈ pl, ∀ e, es[i]? = some e -> (e.hash == h) = true) →
      (forIn pl ((none : Option (Option Nat)), hit) F >>= post) = asked d a h es tells (decide (n < 2)) pl hit
  | [], hit, _ => p1 hit
  | i :: r, hit, ha => by
    have ih := zeF d a h es tells n F post p1 p2 hF r; have hr : ∀ j ∈ r, ∀ e, es[j]? = some e -> (e.hash == h) = true := fun j hj => ha j (List.mem_cons_of_mem _ hj); rw [List.forIn_cons, hF i hit]; unfold asked
    cases he : es[i]? with
    | none => exact ih hit hr
    | some e =>
      simp only [ha i (List.mem_cons_self ..) e he, if_true, bind_assoc]; refine congrArg _ (funext fun b => congrArg _ (funext fun same => congrArg _ (funext fun b' => ?_)))
      by_cases h1 : (b' != b) = true
      . simp only [h1, if_true]; rfl
      . simp only [h1]
        cases same with
        | true =>
          cases hh : hit.isSome with
          | true => rfl
          | false =>
            by_cases hn : n < 2
            . simp only [hn]; simp only [Bool.false_eq_true, if_false, if_true, bind_assoc, pure_bind, decide_true, p2]
            . simp only [hn]; simp only [Bool.false_eq_true, if_false, if_true, bind_assoc, pure_bind, decide_false]; simp only [decide_eq_false hn] at ih; exact congrArg _ (funext fun _ => ih _ hr)
        | false =>
          by_cases ht : (tells && !(decide (0 <= h) && decide (h < 32))) = true
          . simp only [ht, Bool.false_eq_true, if_false, if_true]; rfl
          . simp only [ht, Bool.false_eq_true, if_false, bind_assoc, pure_bind]; exact congrArg _ (funext fun _ => ih _ hr)
theorem zgo (d a : Addr) (h : Int) : dictFind d (.ref a) h = holding [.ref a] (dictEntries d none >>= fun es => behind d a h es (placesWithHash es.size (fun i => es[i]?.map (·.hash)) h)) := by
  refine congrArg (holding [Value.ref a]) (congrArg (dictEntries d none >>= ·) (funext fun es => ?_))
  have hp : ∀ i ∈ placesWithHash es.size (fun i => es[i]?.map (·.hash)) h, ∀ e, es[i]? = some e -> (e.hash == h) = true := fun i hi e he => by
    unfold placesWithHash at hi; have this : (es[i]?.map (·.hash) == some h) = true := (List.mem_filter.mp hi).2; rw [he] at this; exact this
  generalize placesWithHash es.size (fun i => es[i]?.map (·.hash)) h = pl at hp; unfold behind; show (if (Value.ref a :: zbO es pl).all carriedByValue = true then _ else _) = _; rw [if_neg (by simp [carriedByValue])]
  by_cases h0 : (es.any fun e => e.key == .ref a && e.hash != h) = true
  . simp only [h0, if_true]; rfl
  . simp only [h0]
    by_cases h2 : (zbO es pl == [.ref a]) = true
    . refine Eq.trans (if_pos h2) (Eq.trans ?_ (congrArg (fun x : Sem Bool => x >>= _) (if_pos h2)).symm); refine congrArg (fun f => (pure false : Sem Bool) >>= f) (funext fun tells => ?_)
      by_cases h3 : (tells && decide ((zbO es pl).length ≥ 2)) = true
      . refine (if_pos h3).trans (Eq.trans ?_ (if_pos h3).symm); rfl
      . refine (if_neg h3).trans (Eq.trans ?_ (if_neg h3).symm); refine zeF d a h es tells (zbO es pl).length _ _ (fun _ => rfl) (fun _ _ => rfl) ?_ pl none hp; intro i hit; show (match es[i]? with | some e => _ | _ => _) = _
        cases es[i]? <;> rfl
    . refine Eq.trans (if_neg h2) (Eq.trans ?_ (congrArg (fun x : Sem Bool => x >>= _) (if_neg h2)).symm); refine congrArg (fun f => tableMayTell (.ref a) (zbO es pl) >>= f) (funext fun tells => ?_)
      by_cases h3 : (tells && decide ((zbO es pl).length ≥ 2)) = true
      . refine (if_pos h3).trans (Eq.trans ?_ (if_pos h3).symm); rfl
      . refine (if_neg h3).trans (Eq.trans ?_ (if_neg h3).symm); refine zeF d a h es tells (zbO es pl).length _ _ (fun _ => rfl) (fun _ _ => rfl) ?_ pl none hp; intro i hit; show (match es[i]? with | some e => _ | _ => _) = _
        cases es[i]? <;> rfl
section
variable {tb : String -> Option Builtin} {p : Program} {w : World} {n₀ : Nat} {ann : Option Value}
theorem zfj {b : Nat} (k : Nat) : ∀ (n : Nat) (s : Shared) (t : Thread) (r : Flow × Shared × Code × Pos), segRun tb p w n₀ ann b n s t = some r -> segRun tb p w n₀ ann b (n + k) s t = some r
  | 0, _, _, _, e => by cases e
  | n + 1, s, t, r, e => by
    rw [Nat.add_right_comm]; simp only [segRun] at e ⊢
    cases h1 : endAt b t with
    | some f => rw [h1] at e; exact e
    | none =>
      cases h2 : stepOk n₀ ann t with
      | false => rw [h1, h2] at e; cases e
      | true =>
        rw [h1, h2] at e
        cases h3 : step (denote tb) p w s t with
        | halt _ _ => rw [h3] at e; cases e
        | go s' t' => rw [h3] at e; exact zfj k n s' t' r e
def zjn (tag : String) (t : Thread) : Bool := match t.stack, t.cur with
  | [_], .rule g _ => g == tag
  | _, _ => false
def zcM (tb : String -> Option Builtin) (p : Program) (w : World) (n₀ : Nat) (ann : Option Value) (tag : String) : Nat -> SharedT -> Thread -> Option (SharedT × Thread)
  | 0, _, _ => none
  | n + 1, s, t => match zjn tag t with
    | true => some (s, t)
    | false => match endAt 1 t, stepOk n₀ ann t with
      | none, true => (stepT (denote tb) p w s t).bind fun x => zcM tb p w n₀ ann tag n x.1 x.2
      | _, _ => none
theorem zga {tag : String} : ∀ {n N : Nat} {s s' : SharedT} {t t' : Thread} {r : Flow × Shared × Code × Pos}, zcM tb p w n₀ ann tag n s t = some (s', t') -> segRun tb p w n₀ ann 1 N s'.abs t' = some r →
    segRun tb p w n₀ ann 1 (n + N) s.abs t = some r
  | 0, _, _, _, _, _, _, e, _ => by cases e
  | n + 1, N, s, s', t, t', r, e, k => by
    unfold zcM at e
    cases h0 : zjn tag t with
    | true =>
      rw [h0] at e; obtain ⟨rfl, rfl⟩ : s = s' /\ t = t' := by simpa using e
      rw [Nat.add_comm]; exact zfj _ _ _ _ _ k
    | false =>
      rw [h0] at e; rw [Nat.add_right_comm]; simp only [segRun]
      cases h1 : endAt 1 t with
      | some f => rw [h1] at e; cases e
      | none =>
        cases h2 : stepOk n₀ ann t with
        | false => rw [h1, h2] at e; cases e
        | true =>
          rw [h1, h2] at e; obtain ⟨⟨s2, t2⟩, h3, h4⟩ := Option.bind_eq_some_iff.mp e; rw [stepT_spec h3]; exact zga h4 k
theorem zea {n N M : Nat} {s s' : SharedT} {t t' : Thread} {r : Flow × Shared × Code × Pos} (e : segGoT tb p w n₀ ann 1 n s t = some (s', t')) (k : segRun tb p w n₀ ann 1 N s'.abs t' = some r) (h : n + N = M) : segRun tb p w n₀ ann 1 M s.abs t = some r := by
  subst h; exact seg_go (segGo_of e) k
end
section
variable {α β : Type} {K : α -> Sem β} {H : Value -> Sem β} {gd : Bool -> Bool} {lv : List Value -> List Value}
theorem zff (a : α) : (pure a : Sem α).wrap K H gd lv = K a := rfl
theorem zaY {γ : Type} (m : Sem γ) (f : γ -> Sem α) : (m >>= f).wrap K H gd lv = m.wrap (fun a => (f a).wrap K H gd lv) H gd lv := by
  rw [Sem.bind_eq_wrap', Sem.wrap_wrap]; rfl
theorem zcA (vs : List Value) (m : Sem α) : (m.keep vs).wrap K H gd lv = m.wrap K H gd (fun l => lv (vs ++ l)) := by
  rw [Sem.keep_eq_wrap, Sem.wrap_wrap]; rfl
end
def zbq (d : Addr) : List (Value × Value) -> Sem Unit
  | [] => pure ()
  | x :: r => dictSet d x.1 x.2 >>= fun _ => zbq d r
theorem zfp (d : Addr) (F : Value × Value -> PUnit -> Sem (ForInStep PUnit)) (hF : ∀ x u, F x u = (dictSet d x.1 x.2 >>= fun _ => pure (ForInStep.yield PUnit.unit))) :
    ∀ vs : List (Value × Value), (forIn vs PUnit.unit F >>= fun _ => (pure () : Sem Unit)) = zbq d vs
  | [] => rfl
  | x :: r => by
    rw [List.forIn_cons, hF, zbq, bind_assoc, bind_assoc]; refine congrArg _ (funext fun _ => ?_); rw [pure_bind]; exact zfp d F hF r
def zfJ (vs : List (Value × Value)) : List Value := (vs.flatMap fun x => [x.1, x.2]).filter Value.isRef
theorem zi4 (pairs : List (Sem Value × Sem Value)) (hl : pairs.length <= 15) : subDict pairs =
    (alloc { cls := .type "dict", data := .dict #[] } >>= fun d => ((evalPairs pairs >>= fun vs => (zbq d vs).keep (zfJ vs)).keep [.ref d]) >>= fun _ => pure d) := by
  unfold subDict; refine congrArg _ (funext fun d => ?_); rw [if_pos hl, holding_eq_keep]; refine congrArg (fun m : Sem Unit => m >>= fun _ => pure d) ?_; refine congrArg (Sem.keep [.ref d]) (congrArg _ (funext fun vs => ?_)); rw [holding_eq_keep]; exact congrArg _ (zfp d _ (fun _ _ => rfl) vs)
theorem ziC (env : Env) (x : Str) (pos' dpos pos : Pos) (ks : List (Option Expr)) (vs : List Expr) (pairs : List (Sem Value × Sem Value))
    (hs : swapsWith (.Dict ks vs dpos) (some (.Name x pos')) pos.line env = pure false) (hd : eval (.Dict ks vs dpos) env = (standAt dpos >>= fun _ => (subDict pairs >>= fun d => pure (Value.ref d)))) (hl : pairs.length <= 15)
    (K : Flow -> Sem Fin) (H : Value -> Sem Fin) :
    (exec (.Assign [.Name x pos'] (.Dict ks vs dpos) pos) env).wrap K H id id =
      (standAt pos >>= fun _ => standAt dpos >>= fun _ => alloc { cls := .type "dict", data := .dict #[] }).wrap (fun d => (evalPairs pairs).wrap (fun vs =>
        (zbq d vs).wrap (fun _ => (standAt pos' >>= fun _ => bindName env x (.ref d) >>= fun _ => pure Flow.next).wrap K H id id) H id (fun l => [.ref d] ++ (zfJ vs ++ l))) H id (fun l => [.ref d] ++ l)) H id id := by
  rw [exec_Assign_Name env x pos' _ pos hs, hd, zi4 pairs hl]; simp only [zaY, zcA, zff, id]
theorem zjs (d a : Addr) (v : Value) (hv : v.isRef = false) : ∃ G : Int -> Option Nat -> Sem Unit, (∀ h, G h none = (rule "dict.set.new-key-at-the-end" >>= fun _ => updateDictKeys d (·.push ⟨h, .ref a, v⟩) none)) ∧
    ∀ {β : Type} (K : Unit -> Sem β) (H : Value -> Sem β) (gd : Bool -> Bool) (lv : List Value -> List Value), (dictSet d (.ref a) v).wrap K H gd lv =
      (pyHash (.ref a)).wrap (fun h => (dictEntries d none).wrap (fun es => (behind d a h es (placesWithHash es.size (fun i => es[i]?.map (·.hash)) h)).wrap
        (fun r => (G h r).wrap K H gd (fun l => lv ([.ref a] ++ ([.ref a] ++ l)))) H gd (fun l => lv ([.ref a] ++ ([.ref a] ++ ([.ref a] ++ l))))) H gd (fun l => lv ([.ref a] ++ ([.ref a] ++ ([.ref a] ++ l))))) H gd (fun l => lv ([.ref a] ++ l)) := by
  have hf : ([Value.ref a, v].filter Value.isRef) = [.ref a] := by cases v <;> first | rfl | cases hv
  refine ⟨?G, ?g1, ?g2⟩
  case g2 =>
    intro β K H gd lv; unfold dictSet; rw [holding_eq_keep, hf, zcA, zaY]; refine Sem.wrap_congr _ _ _ (fun h => ?_) fun _ => rfl; unfold dictSetHashed; rw [holding_eq_keep, hf, zcA, zaY, zgo, holding_eq_keep, show ([Value.ref a].filter Value.isRef) = [.ref a] from rfl, zcA, zaY]
  case g1 => intro h; rfl
theorem zia (acc : Nat) (h : acc < 2 ^ 64) (r : Int) (e : r = if (acc == 2 ^ 64 - 1) = true then 1546275796 else if acc < 2 ^ 63 then (acc : Int) else (acc : Int) - ((2 ^ 64 : Nat) : Int)) :
    (decide (-(2 ^ 63 : Int) <= r) && decide (r < 2 ^ 63)) = true := by
  simp only [Bool.and_eq_true, decide_eq_true_eq]; subst e
  split
  . exact ⟨by decide, by decide⟩
  . split <;> omega
theorem zhw (l : List Int) : (decide (-(2 ^ 63 : Int) <= Builtin.Tuple.tupleHashOf l) && decide (Builtin.Tuple.tupleHashOf l < 2 ^ 63)) = true := zia _ (Nat.mod_lt _ (by decide)) _ rfl
theorem zhs (l : List Int) : pyHashByItsType.reduced (Builtin.Tuple.tupleHashOf l) = pure (reduceHash (Builtin.Tuple.tupleHashOf l)) := by
  have e := zhw l; unfold pyHashByItsType.reduced reduceHash; generalize Builtin.Tuple.tupleHashOf l = i at e; rw [if_pos e, if_pos e]
def zmL (hf : List Int -> Int) : Builtin := fun args => slotArgs "__hash__" 0 args >>= fun x => Builtin.Tuple.tupleItemsOf x.1 >>= fun xs => forIn xs #[] (fun y hs => pyHash y >>= fun h => pure (.yield (hs.push h))) >>= fun hs => retInt (hf hs.toList)
noncomputable def tbH (hf : List Int -> Int) : String -> Option Builtin := fun id => if id = "tuple.__hash__" then some (zmL hf) else treeTable id
theorem zdB : tbH Builtin.Tuple.tupleHashOf = treeTable := funext fun id => by
  unfold tbH
  by_cases h : id = "tuple.__hash__"
  . rw [if_pos h, h]; kernel_rfl
  . rw [if_neg h]
def hsh (P : Params) (x : String) : Int := if (PySem.Str.ofString x).cps.isEmpty then 0 else reduceHash (P.strHash (PySem.Str.ofString x).cps)
abbrev fol (b : Bool) (w : World) : World := w.withFollow "special-get-raises" b
def pl (bs : List Bool) : List Nat := (List.range bs.length).filter fun i => (bs[i]?).getD false
def ent (i : Nat) (v : Value) (h : Int) : DictEntry := ⟨h, .ref i, v⟩
def hP (P : Params) (x y : String) : Int := reduceHash (Builtin.Tuple.tupleHashOf [hsh P x, hsh P y])
end HD
set_option Elab.async false
set_option linter.all false
set_option maxRecDepth 100000
namespace HD
open PySem PySem.W PySem.Calls PyProof.Rows
theorem ziU {p q : Program} {loose : List Str} {Xt : Shared -> Bool} {α : Type} {Yf : Shared -> α} {Ya : World -> α} {N : Nat} {g0 : Bool} {H₀ : Params -> Heap} {gs₀ : Array GenState} {d₀ : Drawn} {k₀ m₀ M n : Nat} {ann : Option Value}
    {T : World -> OsState -> SharedT} {rest : List Stmt} {env : Env} {c : Code} {pos pos' fp : Pos}
    (open_ : ∀ w : World, (fencedOpening treeTable p w N).map (fun s => (s.heap, s.gens, s.drawn, s.toks)) = some (H₀ w.params, gs₀, d₀, k₀))
    (size : ∀ w : World, ((H₀ w.params).isNs mainGlobals && gs₀.size == 0, (H₀ w.params).objs.size, (H₀ w.params).nsMap mainGlobals "__annotations__") = (true, m₀, ann))
    (run : ∀ (w : World) (os : OsState) (N' : Nat) (r : Shared), topRun treeTable p w m₀ ann N' (T w os).abs (restOf rest env c pos [topFrame fp]) = some r -> topRun treeTable p w m₀ ann (M + N') ⟨H₀ w.params, gs₀, d₀, k₀, os⟩ (topStub p) = some r)
    (fin : ∀ (w : World) (s : Shared), topRun treeTable p w m₀ ann 2 s ⟨doneF .next, c, pos', [topFrame fp]⟩ = some s)
    (suf : ∀ (w : World) (os : OsState), (segRunT treeTable p w m₀ ann 1 n (T w os) (piecesOf rest env c pos [topFrame fp])).map (fun x => (x.1, x.2.2,
        (staticsOk (importedModules p.main.body) (H₀ w.params) x.2.1.abs.heap && namesBound p x.2.1.abs.heap && gensDone x.2.1.abs && laidKept (H₀ w.params) x.2.1.abs.heap), openSeen q loose (importedModules p.main.body) Xt g0 x.2.1.abs, Yf x.2.1.abs)) =
      some (.next, (c, pos'), true, openGood q loose, Ya w))
    (le : Nat.ble (M + (n + 2)) N = true) : LeftO p q loose Xt Yf Ya N g0 := fun w => by
  obtain ⟨⟨h, gs, d, k, os⟩, e1, e2⟩ := Option.map_eq_some_iff.mp (open_ w); obtain ⟨rfl, rfl, rfl, rfl⟩ : h = H₀ w.params /\ gs = gs₀ /\ d = d₀ /\ k = k₀ := by simpa only [Prod.mk.injEq] using e2
  obtain ⟨z1, z2, z3⟩ : _ /\ _ /\ _ := by simpa only [Prod.mk.injEq] using size w
  obtain ⟨⟨f, s1, c1, q1⟩, e3, e4⟩ := Option.map_eq_some_iff.mp (suf w os); obtain ⟨rfl, ⟨rfl, rfl⟩, l1, l2, l3⟩ : f = .next /\ (c1 = c /\ q1 = pos') /\ _ /\ _ /\ _ := by simpa only [Prod.mk.injEq] using e4
  have r1 : topRun treeTable p w m₀ ann (n + 2) (T w os).abs (restOf (rest ++ []) env c1 pos [topFrame fp]) = some s1.abs := piece_app (segRun_of e3) (piece_nil (fin w s1.abs)); rw [List.append_nil] at r1; have r2 := topRun_mono (N - (M + (n + 2))) _ _ _ _ (run w os _ _ r1); rw [Nat.add_sub_of_le (Nat.le_of_ble_eq_true le)] at r2
  have t : topFrom treeTable p w N ⟨H₀ w.params, gs, d, k, os⟩ = some s1.abs := by
    simp only [topFrom, z1, z2, z3, r2, Option.bind_some]; rw [l1]
  show ((fencedOpening treeTable p w N).bind (topFrom treeTable p w N)).map _ = _; rw [e1, Option.bind_some, t]; exact congrArg some (Prod.ext l2 l3)
end HD
set_option Elab.async false
set_option linter.all false
set_option maxRecDepth 100000
set_option maxHeartbeats 0
namespace HD
open PySem PySem.W PySem.Calls PyProof.Rows
noncomputable abbrev pR : Program := PySem.Challenge.rw_callorder_k11_refused.prog
def pA : Program := { PySem.Challenge.rw_callorder_k11_refused.prog with main := { PySem.Challenge.rw_callorder_k11_refused.prog.main with body := PySem.Challenge.rw_callorder_k11_refused.prog.main.body.take 8 } }
noncomputable def _root_.PySem.W.Fast.tw14489974569381441630 : PySem.W.OpenLaw := PySem.Challenge.rw_callorder_k11_refused
theorem _root_.PySem.W.Fast.te14489974569381441630 : PySem.Challenge.rw_callorder_k11_refused = PySem.W.Fast.tw14489974569381441630 := rfl
open_shared sh for pA leaving 0
def zmx : Option Expr -> Option Expr
  | some (.Tuple [_, e] _ _) => some e
  | k => k
def zlW : Option Expr -> Expr -> Expr
  | some (.Tuple [e1, e2] c p), v => .Tuple [e1, e2, v, v] c p
  | _, v => v
def ziH : Stmt -> Stmt
  | .Assign [.Name x p1] (.Dict ks vs p2) p3 => .Assign [.Name x p1] (.Dict (ks.map zmx) (List.zipWith zlW ks vs) p2) p3
  | s => s
def pZ : Program := { PySem.Challenge.rw_callorder_k11_refused.prog with main := { PySem.Challenge.rw_callorder_k11_refused.prog.main with body := PySem.Challenge.rw_callorder_k11_refused.prog.main.body.take 8 ++ (((PySem.Challenge.rw_callorder_k11_refused.prog.main.body.drop 8).take 1).map ziH ++ PySem.Challenge.rw_callorder_k11_refused.prog.main.body.drop 9) } }
open_shared shZ for pZ leaving 0
noncomputable def zak (i : Nat) : Stmt := (pR.main.body[i]?).getD (.Pass default)
structure zgc where
  x : PySem.Str
  posN : Pos
  ks : List (Option Expr)
  vs : List Expr
  dpos : Pos
  pos : Pos
noncomputable def zjN : Stmt -> Option zgc
  | .Assign [.Name x p1] (.Dict ks vs p2) p3 => some ⟨x, p1, ks, vs, p2, p3⟩
  | _ => none
noncomputable def ds : zgc := (zjN (zak 8)).getD ⟨"", default, [], [], default, default⟩
theorem st6 : zak 8 = .Assign [.Name ds.x ds.posN] (.Dict ds.ks ds.vs ds.dpos) ds.pos := by kernel_rfl
noncomputable def cE : Code := .body (behindTheImports pR) sh.env_1
def zmM : Pos := { line := 0, col := 0, endLine := 0, endCol := 0 }
def zlD : Pos := { line := 0, col := 0, endLine := 0, endCol := 0 }
def ziS : Pos := { line := 13, col := 0, endLine := 13, endCol := 6 }
def zm0 : Pos := { line := 294, col := 0, endLine := 319, endCol := 62 }
noncomputable abbrev B0 : List Frame := [topFrame zmM]
abbrev zaQ : Option Value := some (.ref 6)
noncomputable def pairs : List (Sem Value × Sem Value) := ((ds.ks.filterMap id).map fun k => eval k sh.env_1).zip (ds.vs.map fun v => (do let x <- eval v sh.env_1; standAt ds.dpos; pure x))
noncomputable def SA (w : World) (os : OsState) : SharedT := { tree := sh.tree_85 w.params, n := 78, life := { }, gens := { toList := [] }, drawn := { }, toks := 279, os := os }
theorem zk8 : swapsWith (.Dict ds.ks ds.vs ds.dpos) (some (.Name ds.x ds.posN)) ds.pos.line sh.env_1 = pure false := by kernel_rfl
theorem zb8 : pairs.length = 6 := by kernel_rfl
theorem zns : eval (.Dict ds.ks ds.vs ds.dpos) sh.env_1 = (standAt ds.dpos >>= fun _ => (subDict pairs >>= fun d => pure (Value.ref d))) := by
  have hl := zb8; rw [show (subDict pairs >>= fun d => pure (Value.ref d)) = dictDisplay (pairs.map fun p => (some p.1, p.2)) from (dictDisplay_pairs pairs (by intro e; rw [e] at hl; cases hl) (by omega)).symm]
  kernel_rfl
def tup (x y : String) (t : Nat) : Obj := ⟨.type "tuple", none, .seq #[.str (PySem.Str.ofString x) t, .str (PySem.Str.ofString y) (t + 1)] 0, #[]⟩
def dictAt (es : List DictEntry) : Obj := ⟨.type "dict", none, .dict es.toArray es.length, #[]⟩
noncomputable def zi0 (P : Params) : BT := (((((((sh.tree_85 P).ins 78 (dictAt [])).ins 79 (tup "row" "put" 279)).ins 80 (tup "row" "take" 282)).ins 81 (tup "row" "look" 285)).ins 82 (tup "number" "set" 288)).ins 83 (tup "number" "add" 291)).ins 84 (tup "number" "look" 294)
def vs0 : List (Value × Value) := [(.ref 79, .int 3 281), (.ref 80, .int 2 284), (.ref 81, .int 2 287), (.ref 82, .int 3 290), (.ref 83, .int 3 293), (.ref 84, .int 2 296)]
noncomputable def S (P : Params) (os : OsState) (es : List DictEntry) (toks : Nat) : SharedT := { tree := (zi0 P).set 78 (fun _ => dictAt es), n := 85, life := { }, gens := { toList := [] }, drawn := { }, toks := toks, os := os }
theorem go1 (w : World) (os : OsState) (K : Addr -> Unit -> Sem Fin) (H : Value -> Sem Fin) :
    segGoT treeTable pR w 11 zaQ 1 39 (SA w os) ⟨(standAt ds.pos >>= fun _ => standAt ds.dpos >>= fun _ => alloc { cls := .type "dict", data := .dict #[] }).wrap (fun d => (evalPairs pairs).wrap (fun vs =>
        (zbq d vs).wrap (K d) H id (fun l => [.ref d] ++ (zfJ vs ++ l))) H id (fun l => [.ref d] ++ l)) H id id, cE, ziS, B0⟩ =
      some (S w.params os [] 297, ⟨(zbq 78 vs0).wrap (K 78) H id (fun l => [.ref 78] ++ (zfJ vs0 ++ l)), cE, ds.dpos, B0⟩) := by kernel_rfl
def gOf (h : Int) (a : Addr) (v : Value) (G : Nat -> Sem Unit) : Option Nat -> Sem Unit
  | none => rule "dict.set.new-key-at-the-end" >>= fun _ => updateDictKeys 78 (·.push ⟨h, .ref a, v⟩) none
  | some i => G i
section
variable {W : World} {s0 s1 s2 : SharedT} {a : Addr} {v : Value} {l : List Int} {es : Array DictEntry} {K : Unit -> Sem Fin} {H : Value -> Sem Fin} {lv : List Value -> List Value} {r : Flow × Shared × Code × Pos} {N : Nat}
theorem zcB (hv : v.isRef = false)
    (h1 : ∀ (K : Int -> Sem Fin) lv, segGoT treeTable pR W 11 zaQ 1 25 s0 ⟨(pyHash (.ref a)).wrap K H id lv, cE, ds.dpos, B0⟩ = some (s1, ⟨(pyHashByItsType.reduced (Builtin.Tuple.tupleHashOf l)).wrap K H id lv, cE, ds.dpos, B0⟩))
    (h2 : ∀ (K : Array DictEntry -> Sem Fin) lv, segGoT treeTable pR W 11 zaQ 1 1 s1 ⟨(dictEntries 78 none).wrap K H id lv, cE, ds.dpos, B0⟩ = some (s1, ⟨K es, cE, ds.dpos, B0⟩))
    (h3 : ∀ (h : Int) G (K : Unit -> Sem Fin) lv lv', zcM treeTable pR W 11 zaQ "dict.set.new-key-at-the-end" 500 s1 ⟨(behind 78 a h es (placesWithHash es.size (fun i => es[i]?.map (·.hash)) h)).wrap (fun r => (gOf h a v G r).wrap K H id lv') H id lv, cE, ds.dpos, B0⟩ =
      some (s1, ⟨(gOf h a v G none).wrap K H id lv', cE, ds.dpos, B0⟩))
    (h4 : ∀ G (K : Unit -> Sem Fin) lv, segGoT treeTable pR W 11 zaQ 1 4 s1 ⟨(gOf (reduceHash (Builtin.Tuple.tupleHashOf l)) a v G none).wrap K H id lv, cE, ds.dpos, B0⟩ = some (s2, ⟨K (), cE, ds.dpos, B0⟩))
    (k : segRun treeTable pR W 11 zaQ 1 N s2.abs ⟨K (), cE, ds.dpos, B0⟩ = some r) :
    segRun treeTable pR W 11 zaQ 1 (530 + N) s0.abs ⟨(dictSet 78 (.ref a) v).wrap K H id lv, cE, ds.dpos, B0⟩ = some r := by
  obtain ⟨G, g1, g2⟩ := zjs 78 a v hv; rw [g2 K H id lv]; refine zea (h1 _ _) (N := 505 + N) ?_ (by omega)
  rw [zhs, zff]; refine zea (h2 _ _) (N := 504 + N) ?_ (by omega)
  generalize hh : reduceHash (Builtin.Tuple.tupleHashOf l) = h at *
  rw [show (fun r => (G h r).wrap K H id (fun l => lv ([.ref a] ++ ([.ref a] ++ l)))) = (fun r => (gOf h a v (fun i => G h (some i)) r).wrap K H id (fun l => lv ([.ref a] ++ ([.ref a] ++ l)))) from funext fun r => by
    cases r with
    | none => rw [g1 h]; rfl
    | some i => rfl]
  rw [show 504 + N = 500 + (4 + N) by omega]
  refine zga (h3 _ _ _ _ _) ?_; exact zea (h4 _ _ _) k rfl
end
section
variable (hf : List Int -> Int) (b : Bool) (w : World) (os : OsState) (H : Value -> Sem Fin) (es : List DictEntry)
theorem zlS (tk : Nat) (K : Int -> Sem Fin) (lv : List Value -> List Value) : segGoT (tbH hf) pR (fol b w) 11 zaQ 1 25 (S w.params os es tk) ⟨(pyHash (.ref 79)).wrap K H id lv, cE, ds.dpos, B0⟩ =
    some (S w.params os es (tk + 3), ⟨(pyHashByItsType.reduced (hf [hsh w.params "row", hsh w.params "put"])).wrap K H id lv, cE, ds.dpos, B0⟩) := by cases b <;> kernel_rfl
theorem zl3 (tk : Nat) (K : Int -> Sem Fin) (lv : List Value -> List Value) : segGoT (tbH hf) pR (fol b w) 11 zaQ 1 25 (S w.params os es tk) ⟨(pyHash (.ref 80)).wrap K H id lv, cE, ds.dpos, B0⟩ =
    some (S w.params os es (tk + 3), ⟨(pyHashByItsType.reduced (hf [hsh w.params "row", hsh w.params "take"])).wrap K H id lv, cE, ds.dpos, B0⟩) := by cases b <;> kernel_rfl
theorem zlZ (tk : Nat) (K : Int -> Sem Fin) (lv : List Value -> List Value) : segGoT (tbH hf) pR (fol b w) 11 zaQ 1 25 (S w.params os es tk) ⟨(pyHash (.ref 81)).wrap K H id lv, cE, ds.dpos, B0⟩ =
    some (S w.params os es (tk + 3), ⟨(pyHashByItsType.reduced (hf [hsh w.params "row", hsh w.params "look"])).wrap K H id lv, cE, ds.dpos, B0⟩) := by cases b <;> kernel_rfl
theorem zlH (tk : Nat) (K : Int -> Sem Fin) (lv : List Value -> List Value) : segGoT (tbH hf) pR (fol b w) 11 zaQ 1 25 (S w.params os es tk) ⟨(pyHash (.ref 82)).wrap K H id lv, cE, ds.dpos, B0⟩ =
    some (S w.params os es (tk + 3), ⟨(pyHashByItsType.reduced (hf [hsh w.params "number", hsh w.params "set"])).wrap K H id lv, cE, ds.dpos, B0⟩) := by cases b <;> kernel_rfl
theorem zlc (tk : Nat) (K : Int -> Sem Fin) (lv : List Value -> List Value) : segGoT (tbH hf) pR (fol b w) 11 zaQ 1 25 (S w.params os es tk) ⟨(pyHash (.ref 83)).wrap K H id lv, cE, ds.dpos, B0⟩ =
    some (S w.params os es (tk + 3), ⟨(pyHashByItsType.reduced (hf [hsh w.params "number", hsh w.params "add"])).wrap K H id lv, cE, ds.dpos, B0⟩) := by cases b <;> kernel_rfl
theorem zlI (tk : Nat) (K : Int -> Sem Fin) (lv : List Value -> List Value) : segGoT (tbH hf) pR (fol b w) 11 zaQ 1 25 (S w.params os es tk) ⟨(pyHash (.ref 84)).wrap K H id lv, cE, ds.dpos, B0⟩ =
    some (S w.params os es (tk + 3), ⟨(pyHashByItsType.reduced (hf [hsh w.params "number", hsh w.params "look"])).wrap K H id lv, cE, ds.dpos, B0⟩) := by cases b <;> kernel_rfl
theorem zmB (tk : Nat) (K : Array DictEntry -> Sem Fin) (lv : List Value -> List Value) : segGoT treeTable pR (fol b w) 11 zaQ 1 1 (S w.params os [] tk) ⟨(dictEntries 78 none).wrap K H id lv, cE, ds.dpos, B0⟩ =
    some (S w.params os [] tk, ⟨K #[], cE, ds.dpos, B0⟩) := by kernel_rfl
theorem znP (h0 : Int) (tk : Nat) (G : Nat -> Sem Unit) (K : Unit -> Sem Fin) (lv : List Value -> List Value) : segGoT treeTable pR (fol b w) 11 zaQ 1 4 (S w.params os [] tk) ⟨(gOf h0 79 (.int 3 281) G none).wrap K H id lv, cE, ds.dpos, B0⟩ =
    some (S w.params os [ent 79 (.int 3 281) h0] tk, ⟨K (), cE, ds.dpos, B0⟩) := by kernel_rfl
theorem zls (h : Int) (tk : Nat) (G : Nat -> Sem Unit) (K : Unit -> Sem Fin) (lv lv' : List Value -> List Value) : zcM treeTable pR (fol b w) 11 zaQ "dict.set.new-key-at-the-end" 500 (S w.params os [] tk)
    ⟨(behind 78 79 h #[] (pl [])).wrap (fun r => (gOf h 79 (.int 3 281) G r).wrap K H id lv') H id lv, cE, ds.dpos, B0⟩ =
    some (S w.params os [] tk, ⟨(gOf h 79 (.int 3 281) G none).wrap K H id lv', cE, ds.dpos, B0⟩) := by cases b <;> kernel_rfl
theorem zkr (h : Int) : placesWithHash (#[] : Array DictEntry).size (fun i => (#[] : Array DictEntry)[i]?.map (·.hash)) h = pl [] := by kernel_rfl
theorem zmV (h0 : Int) (tk : Nat) (K : Array DictEntry -> Sem Fin) (lv : List Value -> List Value) : segGoT treeTable pR (fol b w) 11 zaQ 1 1 (S w.params os [ent 79 (.int 3 281) h0] tk) ⟨(dictEntries 78 none).wrap K H id lv, cE, ds.dpos, B0⟩ =
    some (S w.params os [ent 79 (.int 3 281) h0] tk, ⟨K #[ent 79 (.int 3 281) h0], cE, ds.dpos, B0⟩) := by kernel_rfl
theorem znx (h0 : Int) (h1 : Int) (tk : Nat) (G : Nat -> Sem Unit) (K : Unit -> Sem Fin) (lv : List Value -> List Value) : segGoT treeTable pR (fol b w) 11 zaQ 1 4 (S w.params os [ent 79 (.int 3 281) h0] tk) ⟨(gOf h1 80 (.int 2 284) G none).wrap K H id lv, cE, ds.dpos, B0⟩ =
    some (S w.params os [ent 79 (.int 3 281) h0, ent 80 (.int 2 284) h1] tk, ⟨K (), cE, ds.dpos, B0⟩) := by kernel_rfl
theorem zlQ (h0 : Int) (b0 : Bool) (h : Int) (tk : Nat) (G : Nat -> Sem Unit) (K : Unit -> Sem Fin) (lv lv' : List Value -> List Value) : zcM treeTable pR (fol b w) 11 zaQ "dict.set.new-key-at-the-end" 500 (S w.params os [ent 79 (.int 3 281) h0] tk)
    ⟨(behind 78 80 h #[ent 79 (.int 3 281) h0] (pl [b0])).wrap (fun r => (gOf h 80 (.int 2 284) G r).wrap K H id lv') H id lv, cE, ds.dpos, B0⟩ =
    some (S w.params os [ent 79 (.int 3 281) h0] tk, ⟨(gOf h 80 (.int 2 284) G none).wrap K H id lv', cE, ds.dpos, B0⟩) := by cases b <;> cases b0 <;> kernel_rfl
theorem zkJ (h0 h : Int) : placesWithHash (#[ent 79 (.int 3 281) h0] : Array DictEntry).size (fun i => (#[ent 79 (.int 3 281) h0] : Array DictEntry)[i]?.map (·.hash)) h = pl [h0 == h] := by kernel_rfl
theorem zmI (h0 h1 : Int) (tk : Nat) (K : Array DictEntry -> Sem Fin) (lv : List Value -> List Value) : segGoT treeTable pR (fol b w) 11 zaQ 1 1 (S w.params os [ent 79 (.int 3 281) h0, ent 80 (.int 2 284) h1] tk) ⟨(dictEntries 78 none).wrap K H id lv, cE, ds.dpos, B0⟩ =
    some (S w.params os [ent 79 (.int 3 281) h0, ent 80 (.int 2 284) h1] tk, ⟨K #[ent 79 (.int 3 281) h0, ent 80 (.int 2 284) h1], cE, ds.dpos, B0⟩) := by kernel_rfl
theorem znl (h0 h1 : Int) (h2 : Int) (tk : Nat) (G : Nat -> Sem Unit) (K : Unit -> Sem Fin) (lv : List Value -> List Value) : segGoT treeTable pR (fol b w) 11 zaQ 1 4 (S w.params os [ent 79 (.int 3 281) h0, ent 80 (.int 2 284) h1] tk) ⟨(gOf h2 81 (.int 2 287) G none).wrap K H id lv, cE, ds.dpos, B0⟩ =
    some (S w.params os [ent 79 (.int 3 281) h0, ent 80 (.int 2 284) h1, ent 81 (.int 2 287) h2] tk, ⟨K (), cE, ds.dpos, B0⟩) := by kernel_rfl
theorem zlt (h0 h1 : Int) (b0 b1 : Bool) (h : Int) (tk : Nat) (G : Nat -> Sem Unit) (K : Unit -> Sem Fin) (lv lv' : List Value -> List Value) : zcM treeTable pR (fol b w) 11 zaQ "dict.set.new-key-at-the-end" 500 (S w.params os [ent 79 (.int 3 281) h0, ent 80 (.int 2 284) h1] tk)
    ⟨(behind 78 81 h #[ent 79 (.int 3 281) h0, ent 80 (.int 2 284) h1] (pl [b0, b1])).wrap (fun r => (gOf h 81 (.int 2 287) G r).wrap K H id lv') H id lv, cE, ds.dpos, B0⟩ =
    some (S w.params os [ent 79 (.int 3 281) h0, ent 80 (.int 2 284) h1] tk, ⟨(gOf h 81 (.int 2 287) G none).wrap K H id lv', cE, ds.dpos, B0⟩) := by cases b <;> cases b0 <;> cases b1 <;> kernel_rfl
theorem zkj (h0 h1 h : Int) : placesWithHash (#[ent 79 (.int 3 281) h0, ent 80 (.int 2 284) h1] : Array DictEntry).size (fun i => (#[ent 79 (.int 3 281) h0, ent 80 (.int 2 284) h1] : Array DictEntry)[i]?.map (·.hash)) h = pl [h0 == h, h1 == h] := by kernel_rfl
theorem zm3 (h0 h1 h2 : Int) (tk : Nat) (K : Array DictEntry -> Sem Fin) (lv : List Value -> List Value) : segGoT treeTable pR (fol b w) 11 zaQ 1 1 (S w.params os [ent 79 (.int 3 281) h0, ent 80 (.int 2 284) h1, ent 81 (.int 2 287) h2] tk) ⟨(dictEntries 78 none).wrap K H id lv, cE, ds.dpos, B0⟩ =
    some (S w.params os [ent 79 (.int 3 281) h0, ent 80 (.int 2 284) h1, ent 81 (.int 2 287) h2] tk, ⟨K #[ent 79 (.int 3 281) h0, ent 80 (.int 2 284) h1, ent 81 (.int 2 287) h2], cE, ds.dpos, B0⟩) := by kernel_rfl
theorem znN (h0 h1 h2 : Int) (h3 : Int) (tk : Nat) (G : Nat -> Sem Unit) (K : Unit -> Sem Fin) (lv : List Value -> List Value) : segGoT treeTable pR (fol b w) 11 zaQ 1 4 (S w.params os [ent 79 (.int 3 281) h0, ent 80 (.int 2 284) h1, ent 81 (.int 2 287) h2] tk) ⟨(gOf h3 82 (.int 3 290) G none).wrap K H id lv, cE, ds.dpos, B0⟩ =
    some (S w.params os [ent 79 (.int 3 281) h0, ent 80 (.int 2 284) h1, ent 81 (.int 2 287) h2, ent 82 (.int 3 290) h3] tk, ⟨K (), cE, ds.dpos, B0⟩) := by kernel_rfl
theorem zmp (h0 h1 h2 : Int) (b0 b1 b2 : Bool) (h : Int) (tk : Nat) (G : Nat -> Sem Unit) (K : Unit -> Sem Fin) (lv lv' : List Value -> List Value) : zcM treeTable pR (fol b w) 11 zaQ "dict.set.new-key-at-the-end" 500 (S w.params os [ent 79 (.int 3 281) h0, ent 80 (.int 2 284) h1, ent 81 (.int 2 287) h2] tk)
    ⟨(behind 78 82 h #[ent 79 (.int 3 281) h0, ent 80 (.int 2 284) h1, ent 81 (.int 2 287) h2] (pl [b0, b1, b2])).wrap (fun r => (gOf h 82 (.int 3 290) G r).wrap K H id lv') H id lv, cE, ds.dpos, B0⟩ =
    some (S w.params os [ent 79 (.int 3 281) h0, ent 80 (.int 2 284) h1, ent 81 (.int 2 287) h2] tk, ⟨(gOf h 82 (.int 3 290) G none).wrap K H id lv', cE, ds.dpos, B0⟩) := by cases b <;> cases b0 <;> cases b1 <;> cases b2 <;> kernel_rfl
theorem zj4 (h0 h1 h2 h : Int) : placesWithHash (#[ent 79 (.int 3 281) h0, ent 80 (.int 2 284) h1, ent 81 (.int 2 287) h2] : Array DictEntry).size (fun i => (#[ent 79 (.int 3 281) h0, ent 80 (.int 2 284) h1, ent 81 (.int 2 287) h2] : Array DictEntry)[i]?.map (·.hash)) h = pl [h0 == h, h1 == h, h2 == h] := by kernel_rfl
theorem zmC (h0 h1 h2 h3 : Int) (tk : Nat) (K : Array DictEntry -> Sem Fin) (lv : List Value -> List Value) : segGoT treeTable pR (fol b w) 11 zaQ 1 1 (S w.params os [ent 79 (.int 3 281) h0, ent 80 (.int 2 284) h1, ent 81 (.int 2 287) h2, ent 82 (.int 3 290) h3] tk) ⟨(dictEntries 78 none).wrap K H id lv, cE, ds.dpos, B0⟩ =
    some (S w.params os [ent 79 (.int 3 281) h0, ent 80 (.int 2 284) h1, ent 81 (.int 2 287) h2, ent 82 (.int 3 290) h3] tk, ⟨K #[ent 79 (.int 3 281) h0, ent 80 (.int 2 284) h1, ent 81 (.int 2 287) h2, ent 82 (.int 3 290) h3], cE, ds.dpos, B0⟩) := by kernel_rfl
theorem znD (h0 h1 h2 h3 : Int) (h4 : Int) (tk : Nat) (G : Nat -> Sem Unit) (K : Unit -> Sem Fin) (lv : List Value -> List Value) : segGoT treeTable pR (fol b w) 11 zaQ 1 4 (S w.params os [ent 79 (.int 3 281) h0, ent 80 (.int 2 284) h1, ent 81 (.int 2 287) h2, ent 82 (.int 3 290) h3] tk) ⟨(gOf h4 83 (.int 3 293) G none).wrap K H id lv, cE, ds.dpos, B0⟩ =
    some (S w.params os [ent 79 (.int 3 281) h0, ent 80 (.int 2 284) h1, ent 81 (.int 2 287) h2, ent 82 (.int 3 290) h3, ent 83 (.int 3 293) h4] tk, ⟨K (), cE, ds.dpos, B0⟩) := by kernel_rfl
theorem zlw (h0 h1 h2 h3 : Int) (b0 b1 b2 b3 : Bool) (h : Int) (tk : Nat) (G : Nat -> Sem Unit) (K : Unit -> Sem Fin) (lv lv' : List Value -> List Value) : zcM treeTable pR (fol b w) 11 zaQ "dict.set.new-key-at-the-end" 500 (S w.params os [ent 79 (.int 3 281) h0, ent 80 (.int 2 284) h1, ent 81 (.int 2 287) h2, ent 82 (.int 3 290) h3] tk)
    ⟨(behind 78 83 h #[ent 79 (.int 3 281) h0, ent 80 (.int 2 284) h1, ent 81 (.int 2 287) h2, ent 82 (.int 3 290) h3] (pl [b0, b1, b2, b3])).wrap (fun r => (gOf h 83 (.int 3 293) G r).wrap K H id lv') H id lv, cE, ds.dpos, B0⟩ =
    some (S w.params os [ent 79 (.int 3 281) h0, ent 80 (.int 2 284) h1, ent 81 (.int 2 287) h2, ent 82 (.int 3 290) h3] tk, ⟨(gOf h 83 (.int 3 293) G none).wrap K H id lv', cE, ds.dpos, B0⟩) := by cases b <;> cases b0 <;> cases b1 <;> cases b2 <;> cases b3 <;> kernel_rfl
theorem zkf (h0 h1 h2 h3 h : Int) : placesWithHash (#[ent 79 (.int 3 281) h0, ent 80 (.int 2 284) h1, ent 81 (.int 2 287) h2, ent 82 (.int 3 290) h3] : Array DictEntry).size (fun i => (#[ent 79 (.int 3 281) h0, ent 80 (.int 2 284) h1, ent 81 (.int 2 287) h2, ent 82 (.int 3 290) h3] : Array DictEntry)[i]?.map (·.hash)) h = pl [h0 == h, h1 == h, h2 == h, h3 == h] := by kernel_rfl
theorem zmA (h0 h1 h2 h3 h4 : Int) (tk : Nat) (K : Array DictEntry -> Sem Fin) (lv : List Value -> List Value) : segGoT treeTable pR (fol b w) 11 zaQ 1 1 (S w.params os [ent 79 (.int 3 281) h0, ent 80 (.int 2 284) h1, ent 81 (.int 2 287) h2, ent 82 (.int 3 290) h3, ent 83 (.int 3 293) h4] tk) ⟨(dictEntries 78 none).wrap K H id lv, cE, ds.dpos, B0⟩ =
    some (S w.params os [ent 79 (.int 3 281) h0, ent 80 (.int 2 284) h1, ent 81 (.int 2 287) h2, ent 82 (.int 3 290) h3, ent 83 (.int 3 293) h4] tk, ⟨K #[ent 79 (.int 3 281) h0, ent 80 (.int 2 284) h1, ent 81 (.int 2 287) h2, ent 82 (.int 3 290) h3, ent 83 (.int 3 293) h4], cE, ds.dpos, B0⟩) := by kernel_rfl
theorem znk (h0 h1 h2 h3 h4 : Int) (h5 : Int) (tk : Nat) (G : Nat -> Sem Unit) (K : Unit -> Sem Fin) (lv : List Value -> List Value) : segGoT treeTable pR (fol b w) 11 zaQ 1 4 (S w.params os [ent 79 (.int 3 281) h0, ent 80 (.int 2 284) h1, ent 81 (.int 2 287) h2, ent 82 (.int 3 290) h3, ent 83 (.int 3 293) h4] tk) ⟨(gOf h5 84 (.int 2 296) G none).wrap K H id lv, cE, ds.dpos, B0⟩ =
    some (S w.params os [ent 79 (.int 3 281) h0, ent 80 (.int 2 284) h1, ent 81 (.int 2 287) h2, ent 82 (.int 3 290) h3, ent 83 (.int 3 293) h4, ent 84 (.int 2 296) h5] tk, ⟨K (), cE, ds.dpos, B0⟩) := by kernel_rfl
theorem zl8 (h0 h1 h2 h3 h4 : Int) (b0 b1 b2 b3 b4 : Bool) (h : Int) (tk : Nat) (G : Nat -> Sem Unit) (K : Unit -> Sem Fin) (lv lv' : List Value -> List Value) : zcM treeTable pR (fol b w) 11 zaQ "dict.set.new-key-at-the-end" 500 (S w.params os [ent 79 (.int 3 281) h0, ent 80 (.int 2 284) h1, ent 81 (.int 2 287) h2, ent 82 (.int 3 290) h3, ent 83 (.int 3 293) h4] tk)
    ⟨(behind 78 84 h #[ent 79 (.int 3 281) h0, ent 80 (.int 2 284) h1, ent 81 (.int 2 287) h2, ent 82 (.int 3 290) h3, ent 83 (.int 3 293) h4] (pl [b0, b1, b2, b3, b4])).wrap (fun r => (gOf h 84 (.int 2 296) G r).wrap K H id lv') H id lv, cE, ds.dpos, B0⟩ =
    some (S w.params os [ent 79 (.int 3 281) h0, ent 80 (.int 2 284) h1, ent 81 (.int 2 287) h2, ent 82 (.int 3 290) h3, ent 83 (.int 3 293) h4] tk, ⟨(gOf h 84 (.int 2 296) G none).wrap K H id lv', cE, ds.dpos, B0⟩) := by cases b <;> cases b0 <;> cases b1 <;> cases b2 <;> cases b3 <;> cases b4 <;> kernel_rfl
theorem zku (h0 h1 h2 h3 h4 h : Int) : placesWithHash (#[ent 79 (.int 3 281) h0, ent 80 (.int 2 284) h1, ent 81 (.int 2 287) h2, ent 82 (.int 3 290) h3, ent 83 (.int 3 293) h4] : Array DictEntry).size (fun i => (#[ent 79 (.int 3 281) h0, ent 80 (.int 2 284) h1, ent 81 (.int 2 287) h2, ent 82 (.int 3 290) h3, ent 83 (.int 3 293) h4] : Array DictEntry)[i]?.map (·.hash)) h = pl [h0 == h, h1 == h, h2 == h, h3 == h, h4 == h] := by kernel_rfl
end
def parts (P : Params) : List DictEntry := [ent 79 (.int 3 281) (hP P "row" "put"), ent 80 (.int 2 284) (hP P "row" "take"), ent 81 (.int 2 287) (hP P "row" "look"), ent 82 (.int 3 290) (hP P "number" "set"), ent 83 (.int 3 293) (hP P "number" "add"), ent 84 (.int 2 296) (hP P "number" "look")]
noncomputable def SB (w : World) (os : OsState) : SharedT := { S w.params os (parts w.params) 316 with tree := ((zi0 w.params).set 78 (fun _ => dictAt (parts w.params))).set 3 (Obj.mapDictKeys (·.push ⟨PyData.keyHash w.params (PySem.Str.ofString "PARTS"), .str (PySem.Str.ofString "PARTS") 315, .ref 78⟩)) }
theorem zmY (b : Bool) (w : World) (os : OsState) (es : List DictEntry) (tk : Nat) : S (fol b w).params os es tk = S w.params os es tk := by kernel_rfl
theorem znJ (b : Bool) (w : World) (os : OsState) (hs : List DictEntry) (e : hs = parts w.params) : segRunT treeTable pR (fol b w) 11 zaQ 1 8 (S w.params os hs 315) ⟨(standAt ds.posN >>= fun _ => bindName sh.env_1 ds.x (.ref 78) >>= fun _ => pure Flow.next).wrap doneF deadEnd id id, cE, ds.dpos, B0⟩ =
    some (.next, { S w.params os hs 316 with tree := ((zi0 w.params).set 78 (fun _ => dictAt hs)).set 3 (Obj.mapDictKeys (·.push ⟨PyData.keyHash w.params (PySem.Str.ofString "PARTS"), .str (PySem.Str.ofString "PARTS") 315, .ref 78⟩)) }, cE, ds.posN) := by kernel_rfl
theorem mid (b : Bool) (w : World) (os : OsState) : segRun treeTable pR (fol b w) 11 zaQ 1 (39 + (530 + (530 + (530 + (530 + (530 + (530 + 8))))))) (SA (fol b w) os).abs (pieceOf (zak 8) sh.env_1 cE ziS B0) = some (.next, (SB (fol b w) os).abs, cE, ds.posN) := by
  rw [st6]; show segRun treeTable pR (fol b w) 11 zaQ 1 _ (SA (fol b w) os).abs ⟨(exec (.Assign [.Name ds.x ds.posN] (.Dict ds.ks ds.vs ds.dpos) ds.pos) sh.env_1).wrap doneF deadEnd id id, cE, ziS, B0⟩ = _; rw [ziC sh.env_1 ds.x ds.posN ds.dpos ds.pos ds.ks ds.vs pairs zk8 zns (by rw [zb8]; decide) doneF deadEnd]
  refine zea (go1 (fol b w) os (fun d _ => (standAt ds.posN >>= fun _ => bindName sh.env_1 ds.x (.ref d) >>= fun _ => pure Flow.next).wrap doneF deadEnd id id) deadEnd) ?_ rfl; rw [zmY]; unfold vs0; rw [zbq, zaY]
  refine zcB (l := [hsh w.params "row", hsh w.params "put"]) (es := #[]) (s1 := S w.params os [] 300) (s2 := S w.params os [ent 79 (.int 3 281) (hP w.params "row" "put")] 300) rfl (fun K lv => zdB ▸ zlS Builtin.Tuple.tupleHashOf b w os deadEnd [] 297 K lv) (fun K lv => zmB b w os deadEnd  300 K lv)
    (fun h G K lv lv' => by rw [zkr]; exact zls b w os deadEnd   h 300 G K lv lv') (fun G K lv => znP b w os deadEnd  _ 300 G K lv) ?_
  rw [zbq, zaY]
  refine zcB (l := [hsh w.params "row", hsh w.params "take"]) (es := #[ent 79 (.int 3 281) (hP w.params "row" "put")]) (s1 := S w.params os [ent 79 (.int 3 281) (hP w.params "row" "put")] 303) (s2 := S w.params os [ent 79 (.int 3 281) (hP w.params "row" "put"), ent 80 (.int 2 284) (hP w.params "row" "take")] 303) rfl (fun K lv => zdB ▸ zl3 Builtin.Tuple.tupleHashOf b w os deadEnd [ent 79 (.int 3 281) (hP w.params "row" "put")] 300 K lv) (fun K lv => zmV b w os deadEnd (hP w.params "row" "put") 303 K lv)
    (fun h G K lv lv' => by rw [zkJ]; exact zlQ b w os deadEnd (hP w.params "row" "put") _ h 303 G K lv lv') (fun G K lv => znx b w os deadEnd (hP w.params "row" "put") _ 303 G K lv) ?_
  rw [zbq, zaY]
  refine zcB (l := [hsh w.params "row", hsh w.params "look"]) (es := #[ent 79 (.int 3 281) (hP w.params "row" "put"), ent 80 (.int 2 284) (hP w.params "row" "take")]) (s1 := S w.params os [ent 79 (.int 3 281) (hP w.params "row" "put"), ent 80 (.int 2 284) (hP w.params "row" "take")] 306) (s2 := S w.params os [ent 79 (.int 3 281) (hP w.params "row" "put"), ent 80 (.int 2 284) (hP w.params "row" "take"), ent 81 (.int 2 287) (hP w.params "row" "look")] 306) rfl (fun K lv => zdB ▸ zlZ Builtin.Tuple.tupleHashOf b w os deadEnd [ent 79 (.int 3 281) (hP w.params "row" "put"), ent 80 (.int 2 284) (hP w.params "row" "take")] 303 K lv) (fun K lv => zmI b w os deadEnd (hP w.params "row" "put") (hP w.params "row" "take") 306 K lv)
    (fun h G K lv lv' => by rw [zkj]; exact zlt b w os deadEnd (hP w.params "row" "put") (hP w.params "row" "take") _ _ h 306 G K lv lv') (fun G K lv => znl b w os deadEnd (hP w.params "row" "put") (hP w.params "row" "take") _ 306 G K lv) ?_
  rw [zbq, zaY]
  refine zcB (l := [hsh w.params "number", hsh w.params "set"]) (es := #[ent 79 (.int 3 281) (hP w.params "row" "put"), ent 80 (.int 2 284) (hP w.params "row" "take"), ent 81 (.int 2 287) (hP w.params "row" "look")]) (s1 := S w.params os [ent 79 (.int 3 281) (hP w.params "row" "put"), ent 80 (.int 2 284) (hP w.params "row" "take"), ent 81 (.int 2 287) (hP w.params "row" "look")] 309) (s2 := S w.params os [ent 79 (.int 3 281) (hP w.params "row" "put"), ent 80 (.int 2 284) (hP w.params "row" "take"), ent 81 (.int 2 287) (hP w.params "row" "look"), ent 82 (.int 3 290) (hP w.params "number" "set")] 309) rfl (fun K lv => zdB ▸ zlH Builtin.Tuple.tupleHashOf b w os deadEnd [ent 79 (.int 3 281) (hP w.params "row" "put"), ent 80 (.int 2 284) (hP w.params "row" "take"), ent 81 (.int 2 287) (hP w.params "row" "look")] 306 K lv) (fun K lv => zm3 b w os deadEnd (hP w.params "row" "put") (hP w.params "row" "take") (hP w.params "row" "look") 309 K lv)
    (fun h G K lv lv' => by rw [zj4]; exact zmp b w os deadEnd (hP w.params "row" "put") (hP w.params "row" "take") (hP w.params "row" "look") _ _ _ h 309 G K lv lv') (fun G K lv => znN b w os deadEnd (hP w.params "row" "put") (hP w.params "row" "take") (hP w.params "row" "look") _ 309 G K lv) ?_
  rw [zbq, zaY]
  refine zcB (l := [hsh w.params "number", hsh w.params "add"]) (es := #[ent 79 (.int 3 281) (hP w.params "row" "put"), ent 80 (.int 2 284) (hP w.params "row" "take"), ent 81 (.int 2 287) (hP w.params "row" "look"), ent 82 (.int 3 290) (hP w.params "number" "set")]) (s1 := S w.params os [ent 79 (.int 3 281) (hP w.params "row" "put"), ent 80 (.int 2 284) (hP w.params "row" "take"), ent 81 (.int 2 287) (hP w.params "row" "look"), ent 82 (.int 3 290) (hP w.params "number" "set")] 312) (s2 := S w.params os [ent 79 (.int 3 281) (hP w.params "row" "put"), ent 80 (.int 2 284) (hP w.params "row" "take"), ent 81 (.int 2 287) (hP w.params "row" "look"), ent 82 (.int 3 290) (hP w.params "number" "set"), ent 83 (.int 3 293) (hP w.params "number" "add")] 312) rfl (fun K lv => zdB ▸ zlc Builtin.Tuple.tupleHashOf b w os deadEnd [ent 79 (.int 3 281) (hP w.params "row" "put"), ent 80 (.int 2 284) (hP w.params "row" "take"), ent 81 (.int 2 287) (hP w.params "row" "look"), ent 82 (.int 3 290) (hP w.params "number" "set")] 309 K lv) (fun K lv => zmC b w os deadEnd (hP w.params "row" "put") (hP w.params "row" "take") (hP w.params "row" "look") (hP w.params "number" "set") 312 K lv)
    (fun h G K lv lv' => by rw [zkf]; exact zlw b w os deadEnd (hP w.params "row" "put") (hP w.params "row" "take") (hP w.params "row" "look") (hP w.params "number" "set") _ _ _ _ h 312 G K lv lv') (fun G K lv => znD b w os deadEnd (hP w.params "row" "put") (hP w.params "row" "take") (hP w.params "row" "look") (hP w.params "number" "set") _ 312 G K lv) ?_
  rw [zbq, zaY]
  refine zcB (l := [hsh w.params "number", hsh w.params "look"]) (es := #[ent 79 (.int 3 281) (hP w.params "row" "put"), ent 80 (.int 2 284) (hP w.params "row" "take"), ent 81 (.int 2 287) (hP w.params "row" "look"), ent 82 (.int 3 290) (hP w.params "number" "set"), ent 83 (.int 3 293) (hP w.params "number" "add")]) (s1 := S w.params os [ent 79 (.int 3 281) (hP w.params "row" "put"), ent 80 (.int 2 284) (hP w.params "row" "take"), ent 81 (.int 2 287) (hP w.params "row" "look"), ent 82 (.int 3 290) (hP w.params "number" "set"), ent 83 (.int 3 293) (hP w.params "number" "add")] 315) (s2 := S w.params os [ent 79 (.int 3 281) (hP w.params "row" "put"), ent 80 (.int 2 284) (hP w.params "row" "take"), ent 81 (.int 2 287) (hP w.params "row" "look"), ent 82 (.int 3 290) (hP w.params "number" "set"), ent 83 (.int 3 293) (hP w.params "number" "add"), ent 84 (.int 2 296) (hP w.params "number" "look")] 315) rfl (fun K lv => zdB ▸ zlI Builtin.Tuple.tupleHashOf b w os deadEnd [ent 79 (.int 3 281) (hP w.params "row" "put"), ent 80 (.int 2 284) (hP w.params "row" "take"), ent 81 (.int 2 287) (hP w.params "row" "look"), ent 82 (.int 3 290) (hP w.params "number" "set"), ent 83 (.int 3 293) (hP w.params "number" "add")] 312 K lv) (fun K lv => zmA b w os deadEnd (hP w.params "row" "put") (hP w.params "row" "take") (hP w.params "row" "look") (hP w.params "number" "set") (hP w.params "number" "add") 315 K lv)
    (fun h G K lv lv' => by rw [zku]; exact zl8 b w os deadEnd (hP w.params "row" "put") (hP w.params "row" "take") (hP w.params "row" "look") (hP w.params "number" "set") (hP w.params "number" "add") _ _ _ _ _ h 315 G K lv lv') (fun G K lv => znk b w os deadEnd (hP w.params "row" "put") (hP w.params "row" "take") (hP w.params "row" "look") (hP w.params "number" "set") (hP w.params "number" "add") _ 315 G K lv) ?_
  exact segRun_of (znJ b w os _ rfl)
theorem zkH (w : World) (os : OsState) : segRun treeTable pR w 11 zaQ 1 3227 (SA w os).abs (pieceOf (zak 8) sh.env_1 cE ziS B0) = some (.next, (SB w os).abs, cE, ds.posN) :=
  byRow2 "special-get-raises" (P := fun w => segRun treeTable pR w 11 zaQ 1 3227 (SA w os).abs (pieceOf (zak 8) sh.env_1 cE ziS B0) = some (.next, (SB w os).abs, cE, ds.posN)) (fun w => mid false w os) (fun w => mid true w os) w
noncomputable def KF (P : Params) : Frag := [(2, PySem.W.boot_o_2 P), (3, shZ.o_313 P), (15, shZ.o_7 P), (22, shZ.o_14 P), (23, shZ.o_15 P), (24, shZ.o_71 P), (25, shZ.o_17 P), (28, shZ.o_24 P), (35, shZ.o_31 P), (36, shZ.o_32 P), (37, shZ.o_33 P), (40, shZ.o_40 P), (47, shZ.o_47 P), (48, shZ.o_48 P), (49, shZ.o_49 P), (52, shZ.o_56 P), (59, shZ.o_63 P), (60, shZ.o_64 P), (61, shZ.o_65 P), (64, shZ.o_72 P), (71, shZ.o_79 P), (72, shZ.o_80 P), (73, shZ.o_81 P), (76, shZ.o_84 P), (77, shZ.o_85 P), (78, dictAt (parts P)), (79, tup "row" "put" 279), (80, tup "row" "take" 282), (81, tup "row" "look" 285), (82, tup "number" "set" 288), (83, tup "number" "add" 291), (84, tup "number" "look" 294), (85, shZ.o_98 P), (87, shZ.o_100 P), (88, shZ.o_101 P), (90, shZ.o_103 P), (91, shZ.o_104 P), (92, shZ.o_105 P), (94, shZ.o_107 P), (95, shZ.o_108 P), (97, shZ.o_110 P), (98, shZ.o_111 P), (99, shZ.o_112 P), (101, shZ.o_114 P), (102, shZ.o_115 P), (104, shZ.o_117 P), (105, shZ.o_118 P), (106, shZ.o_119 P), (108, shZ.o_121 P), (109, shZ.o_122 P), (111, shZ.o_124 P), (112, shZ.o_125 P), (113, shZ.o_126 P), (115, shZ.o_128 P), (116, shZ.o_129 P), (118, shZ.o_131 P), (119, shZ.o_132 P), (120, shZ.o_133 P), (122, shZ.o_135 P), (123, shZ.o_136 P), (125, shZ.o_138 P), (126, shZ.o_139 P), (127, shZ.o_140 P), (129, shZ.o_142 P), (130, shZ.o_143 P), (132, shZ.o_145 P), (133, shZ.o_146 P), (134, shZ.o_147 P), (136, shZ.o_149 P), (137, shZ.o_150 P), (139, shZ.o_152 P), (140, shZ.o_153 P), (141, shZ.o_159 P), (143, shZ.o_161 P), (144, shZ.o_162 P), (146, shZ.o_164 P), (147, shZ.o_165 P), (148, shZ.o_166 P), (150, shZ.o_168 P), (151, shZ.o_169 P), (153, shZ.o_171 P), (154, shZ.o_172 P), (155, shZ.o_173 P), (157, shZ.o_175 P), (158, shZ.o_176 P), (160, shZ.o_178 P), (161, shZ.o_179 P), (162, shZ.o_180 P), (164, shZ.o_182 P), (165, shZ.o_183 P), (167, shZ.o_185 P), (168, shZ.o_186 P), (169, shZ.o_187 P), (172, shZ.o_190 P), (173, shZ.o_191 P), (174, shZ.o_192 P), (176, shZ.o_194 P), (177, shZ.o_195 P), (179, shZ.o_197 P), (180, shZ.o_198 P), (181, shZ.o_199 P), (183, shZ.o_201 P), (184, shZ.o_202 P), (186, shZ.o_204 P), (187, shZ.o_205 P), (188, shZ.o_206 P), (191, shZ.o_209 P), (192, shZ.o_210 P), (193, shZ.o_211 P), (196, shZ.o_214 P), (197, shZ.o_215 P), (198, shZ.o_216 P), (200, shZ.o_218 P), (201, shZ.o_219 P), (203, shZ.o_221 P), (204, shZ.o_222 P), (205, shZ.o_223 P), (208, shZ.o_226 P), (209, shZ.o_227 P), (210, shZ.o_228 P), (213, shZ.o_231 P), (214, shZ.o_232 P), (215, shZ.o_236 P), (217, shZ.o_238 P), (218, shZ.o_239 P), (220, shZ.o_241 P), (221, shZ.o_242 P), (222, shZ.o_243 P), (224, shZ.o_245 P), (225, shZ.o_246 P), (227, shZ.o_248 P), (228, shZ.o_249 P), (229, shZ.o_250 P), (232, shZ.o_253 P), (233, shZ.o_254 P), (234, shZ.o_255 P), (237, shZ.o_258 P), (238, shZ.o_259 P), (239, shZ.o_260 P), (241, shZ.o_262 P), (242, shZ.o_263 P), (244, shZ.o_265 P), (245, shZ.o_266 P), (246, shZ.o_267 P), (248, shZ.o_269 P), (249, shZ.o_270 P), (251, shZ.o_272 P), (252, shZ.o_273 P), (253, shZ.o_274 P), (255, shZ.o_276 P), (256, shZ.o_277 P), (258, shZ.o_279 P), (259, shZ.o_280 P), (260, shZ.o_281 P), (262, shZ.o_283 P), (263, shZ.o_284 P), (265, shZ.o_286 P), (266, shZ.o_287 P), (267, shZ.o_288 P), (270, shZ.o_291 P), (271, shZ.o_292 P), (272, shZ.o_293 P), (274, shZ.o_295 P), (275, shZ.o_296 P), (277, shZ.o_298 P), (278, shZ.o_299 P), (279, shZ.o_300 P), (281, shZ.o_302 P), (282, shZ.o_303 P), (284, shZ.o_305 P), (285, shZ.o_306 P), (286, shZ.o_307 P), (289, shZ.o_310 P), (290, shZ.o_311 P), (291, shZ.o_315 P), (294, shZ.o_318 P), (295, shZ.o_319 P), (296, shZ.o_320 P), (298, shZ.o_322 P), (299, shZ.o_323 P), (301, shZ.o_325 P), (302, shZ.o_326 P), (303, shZ.o_327 P), (306, shZ.o_330 P), (307, shZ.o_331 P), (308, shZ.o_332 P), (311, shZ.o_335 P), (312, shZ.o_336 P), (313, shZ.o_337 P), (316, shZ.o_340 P), (317, shZ.o_341 P), (318, shZ.o_342 P), (320, shZ.o_344 P), (321, shZ.o_345 P), (323, shZ.o_347 P), (324, shZ.o_348 P), (325, shZ.o_349 P), (327, shZ.o_351 P), (328, shZ.o_352 P), (330, shZ.o_354 P), (331, shZ.o_355 P), (332, shZ.o_356 P), (334, shZ.o_358 P), (335, shZ.o_359 P), (337, shZ.o_361 P), (338, shZ.o_362 P), (339, shZ.o_363 P), (341, shZ.o_365 P), (342, shZ.o_366 P), (344, shZ.o_368 P), (345, shZ.o_369 P), (346, shZ.o_370 P), (348, shZ.o_372 P), (349, shZ.o_373 P), (351, shZ.o_375 P), (352, shZ.o_376 P), (353, shZ.o_377 P), (355, shZ.o_379 P), (356, shZ.o_380 P), (358, shZ.o_382 P), (359, shZ.o_383 P), (360, shZ.o_384 P), (363, shZ.o_387 P), (364, shZ.o_388 P)]
def as0 : List Addr := [2, 3, 15, 22, 23, 24, 25, 28, 35, 36, 37, 40, 47, 48, 49, 52, 59, 60, 61, 64, 71, 72, 73, 76, 77, 78, 79, 80, 81, 82, 83, 84, 85, 87, 88, 90, 91, 92, 94, 95, 97, 98, 99, 101, 102, 104, 105, 106, 108, 109, 111, 112, 113, 115, 116, 118, 119, 120, 122, 123, 125, 126, 127, 129, 130, 132, 133, 134, 136, 137, 139, 140, 141, 143, 144, 146, 147, 148, 150, 151, 153, 154, 155, 157, 158, 160, 161, 162, 164, 165, 167, 168, 169, 172, 173, 174, 176, 177, 179, 180, 181, 183, 184, 186, 187, 188, 191, 192, 193, 196, 197, 198, 200, 201, 203, 204, 205, 208, 209, 210, 213, 214, 215, 217, 218, 220, 221, 222, 224, 225, 227, 228, 229, 232, 233, 234, 237, 238, 239, 241, 242, 244, 245, 246, 248, 249, 251, 252, 253, 255, 256, 258, 259, 260, 262, 263, 265, 266, 267, 270, 271, 272, 274, 275, 277, 278, 279, 281, 282, 284, 285, 286, 289, 290, 291, 294, 295, 296, 298, 299, 301, 302, 303, 306, 307, 308, 311, 312, 313, 316, 317, 318, 320, 321, 323, 324, 325, 327, 328, 330, 331, 332, 334, 335, 337, 338, 339, 341, 342, 344, 345, 346, 348, 349, 351, 352, 353, 355, 356, 358, 359, 360, 363, 364]
noncomputable def q0 : Program := { PySem.Challenge.rw_callorder_k11_refused.prog with main := { PySem.Challenge.rw_callorder_k11_refused.prog.main with body := [zak 1, zak 2, zak 3, zak 4, zak 5, zak 7, zak 8, zak 9, zak 10, zak 11, zak 12, zak 13, zak 14, zak 15, zak 16, zak 17, zak 18, zak 20, zak 21, zak 22, zak 24, zak 25, zak 26, zak 27, zak 28, zak 29, zak 30, zak 31, zak 32, zak 34, zak 35, zak 36, zak 37, zak 38, zak 39, zak 40, zak 41, zak 43, zak 44, zak 45, zak 46, zak 47, zak 48, zak 49, zak 51, zak 52, zak 53, zak 54, zak 55, zak 56, zak 57] } }
abbrev loose0 : List PySem.Str := [PySem.Str.ofString "STARTS", PySem.Str.ofString "PARTS"]
noncomputable def zhU : List Stmt := (behindTheImports pR).drop 9
theorem zkd : behindTheImports pR = sh.sts_4 ++ (sh.sts_21 ++ (sh.sts_37 ++ (sh.sts_53 ++ (sh.sts_69 ++ (zak 8 :: zhU))))) := by kernel_rfl
theorem zm4 : ∀ w : World, (fencedOpening treeTable pR w 20000).map (fun s => (s.heap, s.gens, s.drawn, s.toks)) = some (boot_heap w.params, Array.mk [], boot_drawn, boot_toks) := boot_open (p := pR) (N := 20000) (by kernel_rfl) (by decide) (fun s => by kernel_rfl)
theorem znn (w : World) (os : OsState) : topGo treeTable pR w 11 zaQ 12 ⟨boot_heap w.params, Array.mk [], boot_drawn, boot_toks, os⟩ (topStub pR) =
    some (({ tree := sh.tree_4 w.params, n := 15, life := { }, gens := { toList := [] }, drawn := { }, toks := 187, os := os } : SharedT).abs, ⟨denote treeTable cE, cE, zlD, B0⟩) := by kernel_rfl
theorem zlA (w : World) (os : OsState) : segRun treeTable pR w 11 zaQ 1 1 ({ tree := sh.tree_4 w.params, n := 15, life := { }, gens := { toList := [] }, drawn := { }, toks := 187, os := os } : SharedT).abs (blockOf (behindTheImports pR) sh.env_1 cE zlD B0) =
    some (.next, ({ tree := sh.tree_4 w.params, n := 15, life := { }, gens := { toList := [] }, drawn := { }, toks := 187, os := os } : SharedT).abs, cE, zlD) := by kernel_rfl
theorem znt (w : World) (os : OsState) (N' : Nat) (r : Shared) (h : topRun treeTable pR w 11 zaQ N' (SB w os).abs (restOf zhU sh.env_1 cE ds.posN B0) = some r) :
    topRun treeTable pR w 11 zaQ (12 + (1 + (196 + (214 + (214 + (214 + (264 + 3227)))))) + N') ⟨boot_heap w.params, Array.mk [], boot_drawn, boot_toks, os⟩ (topStub pR) = some r := by
  have h1 := piece_cons (zkH w os) h; have h2 := sh.chain pR (behindTheImports pR) w os (zak 8 :: zhU) (3227 + N') r h1; have h3 := piece_block (n := 1) (zlA w os) (b := behindTheImports pR) (r := r) (N := (Nat.add 196 (Nat.add 214 (Nat.add 214 (Nat.add 214 (Nat.add 264 (3227 + N'))))))) (by rw [<- zkd] at h2; exact h2)
  have h4 := go_top (znn w os) h3; rw [show 12 + (1 + (196 + (214 + (214 + (214 + (264 + 3227)))))) + N' = 12 + (1 + (Nat.add 196 (Nat.add 214 (Nat.add 214 (Nat.add 214 (Nat.add 264 (3227 + N'))))))) from by show _ = 12 + (1 + (196 + (214 + (214 + (214 + (264 + (3227 + N'))))))); omega]
  exact h4
theorem znz (w : World) (s : Shared) : topRun treeTable pR w 11 zaQ 2 s ⟨doneF .next, cE, zm0, B0⟩ = some s := by
  obtain ⟨h, g, d, k, o⟩ := s; kernel_rfl
noncomputable abbrev hk : Hook := kHook KF as0 (fun _ => by kernel_rfl)
noncomputable abbrev Xt0 : Shared -> Bool := fun s => xlAt q0 [] s && recOk (RowW.records (OpenRow.toRowW PySem.Challenge.rw_callorder_k11_refused.row)) s
theorem zny (w : World) (os : OsState) : (segRunT treeTable pR w 11 zaQ 1 1421 (SB w os) (piecesOf zhU sh.env_1 cE ds.posN [topFrame zmM])).map (fun x => (x.1, x.2.2,
        (staticsOk (importedModules pR.main.body) (boot_heap w.params) x.2.1.abs.heap && namesBound pR x.2.1.abs.heap && gensDone x.2.1.abs && laidKept (boot_heap w.params) x.2.1.abs.heap),
        openSeen q0 loose0 (importedModules pR.main.body) Xt0 true x.2.1.abs, hk.obs x.2.1.abs)) =
      some (.next, (cE, zm0), true, openGood q0 loose0, hk.val w) := by kernel_rfl
theorem left0 : LeftO pR q0 loose0 Xt0 (Hook.obs hk) (Hook.val hk) 20000 := ziU zm4 (fun w => by kernel_rfl) znt znz zny (by decide)
end HD
set_option Elab.async false
set_option linter.all false
set_option maxRecDepth 100000
set_option maxHeartbeats 4000000
namespace My
open PySem L2
open PySem.Spec (same_self)
def top (i : Nat) : Stmt := PySem.Challenge.pw_callorder_k11_refused.main.body.getD i (.Pass ⟨0, 0, 0, 0⟩)
abbrev zca : Stmt := top 9
abbrev zeU : List Str := ["kind"]
theorem zeW : zal zeU ["kind"] (zaf zca) := ⟨rfl, rfl, rfl, by decide +kernel, rfl, by decide +kernel, by decide +kernel⟩
abbrev zfy : Stmt := top 10
abbrev ziY : List Str := ["kind"]
theorem ziP : zal ziY ["kind"] (zaf zfy) := ⟨rfl, rfl, rfl, by decide +kernel, rfl, by decide +kernel, by decide +kernel⟩
abbrev zbh : Stmt := top 11
abbrev zc0 : List Str := ["value"]
theorem zcW : zal zc0 ["value"] (zaf zbh) := ⟨rfl, rfl, rfl, by decide +kernel, rfl, by decide +kernel, by decide +kernel⟩
abbrev zcl : Stmt := top 12
abbrev zfU : List Str := ["deed", "parts"]
theorem zfT : zal zfU ["deed", "parts"] (zaf zcl) := ⟨rfl, rfl, rfl, by decide +kernel, rfl, by decide +kernel, by decide +kernel⟩
abbrev zeu : Stmt := top 13
abbrev ziE : List Str := ["kind", "deed", "key"]
theorem sc_can_do : zal ziE ["kind", "deed"] (zaf zeu) := ⟨rfl, rfl, rfl, by decide +kernel, rfl, by decide +kernel, by decide +kernel⟩
abbrev zcc : Stmt := top 14
abbrev ze0 : List Str := ["kind", "deed", "word"]
theorem sc_check_deed : zal ze0 ["kind", "deed"] (zaf zcc) := ⟨rfl, rfl, rfl, by decide +kernel, rfl, by decide +kernel, by decide +kernel⟩
abbrev zeG : Stmt := top 15
abbrev ziu : List Str := ["row", "deed", "first"]
theorem sc_do_row : zal ziu ["row", "deed"] (zaf zeG) := ⟨rfl, rfl, rfl, by decide +kernel, rfl, by decide +kernel, by decide +kernel⟩
abbrev zcr : Stmt := top 16
abbrev zfN : List Str := ["number", "deed"]
theorem zfA : zal zfN ["number", "deed"] (zaf zcr) := ⟨rfl, rfl, rfl, by decide +kernel, rfl, by decide +kernel, by decide +kernel⟩
abbrev zdw : Stmt := top 17
abbrev zhk : List Str := ["kind", "thing", "deed"]
theorem zg7 : zal zhk ["kind", "thing", "deed"] (zaf zdw) := ⟨rfl, rfl, rfl, by decide +kernel, rfl, by decide +kernel, by decide +kernel⟩
abbrev zdz : Stmt := top 18
abbrev zhl : List Str := ["kind", "deeds", "thing", "given", "deed", "done"]
theorem sc_answers : zal zhl ["kind", "deeds"] (zaf zdz) := ⟨rfl, rfl, rfl, by decide +kernel, rfl, by decide +kernel, by decide +kernel⟩
abbrev zbU : Stmt := top 20
abbrev zeE : List Str := ["call"]
theorem zeO : zal zeE ["call"] (zaf zbU) := ⟨rfl, rfl, rfl, by decide +kernel, rfl, by decide +kernel, by decide +kernel⟩
abbrev zfz : Stmt := top 21
abbrev zjE : List Str := ["one", "other"]
theorem zju : zal zjE ["one", "other"] (zaf zfz) := ⟨rfl, rfl, rfl, by decide +kernel, rfl, by decide +kernel, by decide +kernel⟩
abbrev za5 : Stmt := top 22
abbrev zbv : List Str := ["calls", "gone", "call", "left", "first_end"]
theorem sc_free_calls : zal zbv ["calls", "gone"] (zaf za5) := ⟨rfl, rfl, rfl, by decide +kernel, rfl, by decide +kernel, by decide +kernel⟩
abbrev zbV : Stmt := top 24
abbrev zeR : List Str := ["kind", "calls", "call"]
theorem sc_check_calls : zal zeR ["kind", "calls"] (zaf zbV) := ⟨rfl, rfl, rfl, by decide +kernel, rfl, by decide +kernel, by decide +kernel⟩
abbrev zbC : Stmt := top 25
abbrev zdG : List Str := ["calls", "order"]
theorem zdD : zal zdG ["calls", "order"] (zaf zbC) := ⟨rfl, rfl, rfl, by decide +kernel, rfl, by decide +kernel, by decide +kernel⟩
abbrev zbJ : Stmt := top 26
abbrev zcO : List Str := ["calls", "order", "place", "number"]
theorem sc_keeps_time : zal zcO ["calls", "order"] (zaf zbJ) := ⟨rfl, rfl, rfl, by decide +kernel, rfl, by decide +kernel, by decide +kernel⟩
abbrev zaJ : Stmt := top 27
abbrev za3 : List Str := ["kind", "calls", "order"]
theorem zcn : zal za3 ["kind", "calls", "order"] (zaf zaJ) := ⟨rfl, rfl, rfl, by decide +kernel, rfl, by decide +kernel, by decide +kernel⟩
abbrev zcT : Stmt := top 28
abbrev zgz : List Str := ["kind", "calls", "order"]
theorem zgy : zal zgz ["kind", "calls", "order"] (zaf zcT) := ⟨rfl, rfl, rfl, by decide +kernel, rfl, by decide +kernel, by decide +kernel⟩
abbrev zce : Stmt := top 32
abbrev ze3 : List Str := ["kind", "calls", "dead", "shown", "pair", "gone", "thing"]
theorem sc_shows_none : zal ze3 ["kind", "calls", "dead"] (zaf zce) := ⟨rfl, rfl, rfl, by decide +kernel, rfl, by decide +kernel, by decide +kernel⟩
abbrev zaR : Stmt := top 35
abbrev zbd : List Str := ["row", "calls", "order", "left", "seeing", "call", "later", "place", "value"]
theorem sc_can_come_out : zal zbd ["row", "calls", "order"] (zaf zaR) := ⟨rfl, rfl, rfl, by decide +kernel, rfl, by decide +kernel, by decide +kernel⟩
abbrev zdL : Stmt := top 36
abbrev zhv : List Str := ["kind", "calls", "order", "thing", "ways", "number", "done"]
theorem sc_ways_on : zal zhv ["kind", "calls", "order", "thing"] (zaf zdL) := ⟨rfl, rfl, rfl, by decide +kernel, rfl, by decide +kernel, by decide +kernel⟩
abbrev zbL : Stmt := top 37
abbrev zd1 : List Str := ["kind", "calls", "waiting", "seen", "way", "order", "thing", "key"]
theorem sc_search_order : zal zd1 ["kind", "calls"] (zaf zbL) := ⟨rfl, rfl, rfl, by decide +kernel, rfl, by decide +kernel, by decide +kernel⟩
abbrev zbA : Stmt := top 38
abbrev zdM : List Str := ["kind", "call", "things", "behind", "thing", "done"]
theorem sc_things_behind : zal zdM ["kind", "call", "things"] (zaf zbA) := ⟨rfl, rfl, rfl, by decide +kernel, rfl, by decide +kernel, by decide +kernel⟩
abbrev zcd : Stmt := top 39
abbrev zeT : List Str := ["kind", "calls", "level", "following", "gone", "number", "things"]
theorem sc_next_level : zal zeT ["kind", "calls", "level"] (zaf zcd) := ⟨rfl, rfl, rfl, by decide +kernel, rfl, by decide +kernel, by decide +kernel⟩
abbrev zbS : Stmt := top 40
abbrev zdd : List Str := ["kind", "calls", "levels", "dead", "level", "gone"]
theorem sc_dead_ends : zal zdd ["kind", "calls"] (zaf zbS) := ⟨rfl, rfl, rfl, by decide +kernel, rfl, by decide +kernel, by decide +kernel⟩
abbrev zcQ : Stmt := top 41
abbrev zgJ : List Str := ["kind", "calls", "order"]
theorem sc_order_of : zal zgJ ["kind", "calls"] (zaf zcQ) := ⟨rfl, rfl, rfl, by decide +kernel, rfl, by decide +kernel, by decide +kernel⟩
abbrev zcS : Stmt := top 43
abbrev zgj : List Str := ["call"]
theorem zgt : zal zgj ["call"] (zaf zcS) := ⟨rfl, rfl, rfl, by decide +kernel, rfl, by decide +kernel, by decide +kernel⟩
abbrev zbH : Stmt := top 44
abbrev zcL : List Str := ["calls", "thing"]
theorem zeY : zal zcL ["calls", "thing"] (zaf zbH) := ⟨rfl, rfl, rfl, by decide +kernel, rfl, by decide +kernel, by decide +kernel⟩
abbrev zbQ : Stmt := top 45
abbrev zdc : List Str := ["calls", "thing"]
theorem zf0 : zal zdc ["calls", "thing"] (zaf zbQ) := ⟨rfl, rfl, rfl, by decide +kernel, rfl, by decide +kernel, by decide +kernel⟩
abbrev zbK : Stmt := top 46
abbrev zd4 : List Str := ["kinds", "calls", "call", "thing"]
theorem sc_check_things : zal zd4 ["kinds", "calls"] (zaf zbK) := ⟨rfl, rfl, rfl, by decide +kernel, rfl, by decide +kernel, by decide +kernel⟩
abbrev za1 : Stmt := top 47
abbrev zbN : List Str := ["kinds", "calls", "order", "thing", "own_order"]
theorem sc_is_order_of_all : zal zbN ["kinds", "calls", "order"] (zaf za1) := ⟨rfl, rfl, rfl, by decide +kernel, rfl, by decide +kernel, by decide +kernel⟩
abbrev zbZ : Stmt := top 48
abbrev zcz : List Str := ["calls", "orders", "whole", "rests", "free", "chosen"]
theorem sc_merged : zal zcz ["calls", "orders"] (zaf zbZ) := ⟨rfl, rfl, rfl, by decide +kernel, rfl, by decide +kernel, by decide +kernel⟩
abbrev zaS : Stmt := top 49
abbrev zbE : List Str := ["kinds", "calls", "orders", "thing", "numbers", "found"]
theorem sc_order_of_all : zal zbE ["kinds", "calls"] (zaf zaS) := ⟨rfl, rfl, rfl, by decide +kernel, rfl, by decide +kernel, by decide +kernel⟩
abbrev zdU : Stmt := top 51
abbrev zhb : List Str := ["_law_script", "_law_k"]
theorem zg6 : zal zhb ["_law_script", "_law_k"] (zaf zdU) := ⟨rfl, rfl, rfl, by decide +kernel, rfl, by decide +kernel, by decide +kernel⟩
abbrev zcY : Stmt := top 52
abbrev zgF : List Str := ["_law_which", "_law_kind", "_law_calls"]
theorem zf3 : zal zgF ["_law_which", "_law_kind", "_law_calls"] (zaf zcY) := ⟨rfl, rfl, rfl, by decide +kernel, rfl, by decide +kernel, by decide +kernel⟩
abbrev zbD : Stmt := top 53
abbrev zdC : List Str := ["_law_which", "_law_kind", "_law_calls", "_law_word"]
theorem sc__law_word_for : zal zdC ["_law_which", "_law_kind", "_law_calls"] (zaf zbD) := ⟨rfl, rfl, rfl, by decide +kernel, rfl, by decide +kernel, by decide +kernel⟩
abbrev zbi : Stmt := top 54
abbrev zda : List Str := ["_law_which", "_law_kind", "_law_calls", "e", "_law_kinds"]
theorem sc__law_under_base : zal zda ["_law_which", "_law_kind", "_law_calls"] (zaf zbi) := ⟨rfl, rfl, rfl, by decide +kernel, rfl, by decide +kernel, by decide +kernel⟩
abbrev zbe : Stmt := top 55
abbrev zcH : List Str := ["_law_which", "_law_kinds", "_law_calls", "_law_word"]
theorem sc__law_among_kinds : zal zcH ["_law_which", "_law_kinds", "_law_calls"] (zaf zbe) := ⟨rfl, rfl, rfl, by decide +kernel, rfl, by decide +kernel, by decide +kernel⟩
abbrev za0 : Stmt := top 56
abbrev zcb : List Str := ["_law_kind", "_law_good", "_law_bad", "_law_which", "_law_call", "_law_calls"]
theorem sc__law_thing_by_thing : zal zcb ["_law_kind", "_law_good", "_law_bad"] (zaf za0) := ⟨rfl, rfl, rfl, by decide +kernel, rfl, by decide +kernel, by decide +kernel⟩
abbrev zes : Stmt := top 57
abbrev zht : List Str := ["_law_script", "_law_kind", "_law_many", "_law_good", "_law_spot", "_law_at_once", "_law_bad", "_law_which", "_law_call", "_law_calls", "_law_due"]
theorem sc_law : zal zht ["_law_script"] (zaf zes) := ⟨rfl, rfl, rfl, by decide +kernel, rfl, by decide +kernel, by decide +kernel⟩
structure Bl (mg : Str -> Option Value) : Prop where
  any_ : mg "any" = none
  bool_ : mg "bool" = none
  enumerate_ : mg "enumerate" = none
  int_ : mg "int" = none
  isinstance_ : mg "isinstance" = none
  len_ : mg "len" = none
  list_ : mg "list" = none
  min_ : mg "min" = none
  range_ : mg "range" = none
  reversed_ : mg "reversed" = none
  sorted_ : mg "sorted" = none
  str_ : mg "str" = none
  tuple_ : mg "tuple" = none
def zlO (K : PySem.W.Frag) : R2 := fun x y H Q => ∃ a b xs ys, x = .ref a /\ y = .ref b /\ SqT K H a xs /\ SqT K H b ys /\ ys ≠ [] /\ xs.length + ys.length <= sizeLine /\ (xs = [] -> Q (.ref b) H) /\ (xs ≠ [] -> ∀ p, H p = none -> Q (.ref p) (upd H p (.tup (xs ++ ys))))
theorem zjL {X : Cx} : OpR X (binaryOp .Add) (zlO X.K) := by
  intro pins s σ H x y v u Q I rx ry h; obtain ⟨a, b, xs, ys, rfl, rfl, ha, hb, hy, hz, q1, q2⟩ := h
  by_cases hx : xs = []
  . cases rx; cases ry; obtain ⟨its, r1, p1, _⟩ := I.tuple ha; obtain ⟨its2, r2, p2, _⟩ := I.tuple hb; subst hx; cases r1; obtain ⟨⟨cls, dd, data, sl⟩, ho, hc, n, hd⟩ := p1; obtain ⟨⟨cls2, dd2, data2, sl2⟩, ho2, hc2, n2, hd2⟩ := p2; simp only at hc hd hc2 hd2; subst hc hd hc2 hd2
    exact concat_meets ⟨_, ho, rfl⟩ ⟨_, ho2, rfl⟩ noFill_tuple_add seq_tuple_add PySem.F.slot_tuple_add PySem.F.entry_tuple_add (PySem.F.args_tuple_add_2 _ _)
      (PyProof.Rows.tuple_addW0 a b _ _ n n2 dd dd2 sl sl2 rfl) ⟨ho, ho2, ⟨.ref b, H, I, rfl, q1 rfl⟩⟩
  . exact zkl pins s σ H _ _ v u Q I rx ry ⟨a, b, xs, ys, rfl, rfl, ha, hb, hx, hz, fun e => (hy e).elim, fun _ => q2 hx⟩
def zdA : List (List Key × V) := [([.inr "row", .inr "put"], .int 3), ([.inr "row", .inr "take"], .int 2), ([.inr "row", .inr "look"], .int 2), ([.inr "number", .inr "set"], .int 3), ([.inr "number", .inr "add"], .int 3), ([.inr "number", .inr "look"], .int 2)]
structure Tp (P : Program) (w : World) (K : PySem.W.Frag) (mg : Str -> Option Value) (st pt r b n : Addr) : Prop where
  mST : mg "STARTS" = some (.ref st)
  mPT : mg "PARTS" = some (.ref pt)
  tST : zmn P w K st [(.inr "row", .ref r), (.inr "number", .int 0)]
  tPT : zl9 P w K pt zdA
  em : ∀ H, SqT K H r []
  kN : zkc K mg "NoKind" n
  kB : zkc K mg "BadCall" b
  e1 : PySem.W.exmOne K (.ref b) (.ref b) = some true
  e2 : PySem.W.exmOne K (.ref n) (.ref b) = some false
  e3 : PySem.W.exmOne K (.ref n) (.ref n) = some true
def Sh (x : Str) : Prop := x.length <= 100 /\ (reprText x).length <= 1000
def zi2 (xs : List V) : Prop := xs.length <= 3 /\ (∀ y, xs[0]? = some y -> ∃ t, y = .str t) /\ ∀ y, xs[1]? = some y -> ∃ i, y = .int i
def pOf (k wd : Str) : Option V := zbB zdA [.inr k, .inr wd]
theorem zjt {k wd : Str} {v : V} (h : pOf k wd = some v) : v = .int 2 \/ v = .int 3 := by
  unfold pOf at h; have : ∀ p ∈ zdA, p.2 = .int 2 \/ p.2 = .int 3 := by decide
  unfold zbB at h; obtain ⟨p, hp, rfl⟩ := Option.map_eq_some_iff.mp h; exact this p (List.mem_of_find?_eq_some hp)
theorem zmg {K : PySem.W.Frag} : PySem.W.kitOne K (.type "str") (.type "str") = some true := by rfl
def zh2 : Sp := fun vs H Q _ => ∃ i, vs = [.int i] /\ Q (.bl true) H
def zkN (n : Addr) : Sp := fun vs H Q E => ∃ k : Str, vs = [.str k] /\ Sh k /\ if k = "row" \/ k = "number" then Q .non H else E (.ref n) none H
def zcx (r : Addr) : Sp := fun vs H Q _ => (vs = [.str "row"] /\ Q (.ref r) H) \/ (vs = [.str "number"] /\ Q (.int 0) H)
def zmK (K : PySem.W.Frag) : Sp := fun vs H Q _ => ∃ a x xs p, vs = [.ref a, .int p] /\ SqT K H a (x :: xs) /\ zi2 xs /\ (p = 2 \/ p = 3) /\ Q (.bl (decide ((xs.length : Int) + 1 = p))) H
def zcU (k wd : Str) (n : Nat) : Bool := match pOf k wd with
  | some (.int p) => decide ((n : Int) + 1 = p)
  | _ => false
def zkV (K : PySem.W.Frag) : Sp := fun vs H Q _ => ∃ k wd a xs, vs = [.str k, .ref a] /\ SqT K H a (.str wd :: xs) /\ zi2 xs /\ ∀ H', Same H H' -> Q (.bl (zcU k wd xs.length)) H'
def zmj (K : PySem.W.Frag) (b n : Addr) : Sp := fun vs H Q E => ∃ k wd a xs, vs = [.str k, .ref a] /\ SqT K H a (.str wd :: xs) /\ zi2 xs /\ Sh k /\ Sh wd /\ ∀ H', Same H H' →
  if k = "row" \/ k = "number" then (if zcU k wd xs.length then Q .non H' else E (.ref b) none H')
  else E (.ref n) none H'
section
variable {P : Program} {w : World} {K : PySem.W.Frag} {mg : Str -> Option Value} {base : Heap} {f : Addr} {fd : FuncData} {st pt r b n : Addr}
theorem zcZ (F : Fun K "is_whole_number" "is_whole_number" zbh f fd) (B : Bl mg) : FnOk P w K mg base CX0 1 f fd ["value"] zh2 := by
  refine F.ok zcW (fun vs H Q E h => ?_) (fun cdv A outer s H vs Q E hr h => ?_)
  . obtain ⟨i, rfl, _⟩ := h; rfl
  . obtain ⟨i, rfl, k⟩ := h; refine ⟨_, (zae (zam (zdF (zaw zeo rfl B.isinstance_ PyProof.Rows.boot_isinstance (zaa (pv 0) (zaa (zd9 (v := .ty "int") rfl B.int_ PyProof.Rows.boot_int rfl) zac))) (zdy (zlq (zaw zeo rfl B.isinstance_ PyProof.Rows.boot_isinstance (zaa (pv 0) (zaa (zd9 (v := .ty "bool") rfl B.bool_ PyProof.Rows.boot_bool rfl) zac)))))))), ?_⟩; refine ⟨_, rfl, _, _, .type "int", true, rfl, TyOf.int i, zmc, true, rfl, ?_⟩; exact ⟨_, rfl, _, _, .type "int", false, rfl, TyOf.int i, zmk, false, rfl, k⟩
theorem ze9 (F : Fun K "check_kind" "check_kind" zca f fd) (B : Bl mg) (T : Tp P w K mg st pt r b n) : FnOk P w K mg base (CX1 P w) 1 f fd ["kind"] (zkN n) := by
  refine F.okX zeW (fun vs H Q E h => ?_) (fun cdv A outer s H vs Q E hr h => ?_)
  . obtain ⟨k, rfl, _⟩ := h; rfl
  . obtain ⟨kd, rfl, ⟨_, hl⟩, hq⟩ := h; have hu := zfe hr; have k_NoKind := T.kN
    refine ⟨_, (zae (zaH (zjh (zit hu (pv 0) (zbP (v := .ref st) rfl T.mST rfl)))
    (zae (zds k_NoKind zed rfl rfl (zaa (zdR (.cons zaj (.cons (zel (pv 0)) .nil))) zac) rfl)) zau)), ?_⟩
    refine ⟨_, rfl, st, _, rfl, .inl ⟨_, .inr kd, T.tST, rfl, rfl⟩, _, rfl, ?_⟩
    by_cases h1 : kd = "row"
    . subst h1; rw [if_pos (Or.inl rfl)] at hq; exact hq
    . by_cases h2 : kd = "number"
      . subst h2; rw [if_pos (Or.inr rfl)] at hq; exact hq
      . rw [if_neg (fun h => h.elim h1 h2)] at hq; rw [za9 (fun h => h1 (Sum.inr.inj h).symm), za9 (fun h => h2 (Sum.inr.inj h).symm), zgv]; have z0 : (Str.empty ++ Str.ofString "there is no kind ").length = 17 := by rfl
        have z1 : (Str.empty ++ Str.ofString "there is no kind " ++ reprText kd).length <= 1017 := by rw [strLen_append, z0]; omega
        exact zbW ⟨_, rfl, by rw [z0]; decide, _, rfl, kd, rfl, Nat.le_trans hl (by decide), _, rfl, Nat.le_trans z1 (by decide), Nat.le_trans z1 (by decide), Nat.le_of_ble_eq_true rfl, hq⟩
theorem zi7 (F : Fun K "start" "start" zfy f fd) (B : Bl mg) (T : Tp P w K mg st pt r b n) (g_check_kind : FnX P w K mg base "check_kind" 1 (zkN n)) : FnOk P w K mg base CX0 2 f fd ["kind"] (zcx r) := by
  refine F.ok ziP (fun vs H Q E h => ?_) (fun cdv A outer s H vs Q E hr h => ?_)
  . rcases h with ⟨rfl, _⟩ | ⟨rfl, _⟩ <;> rfl
  . have hu := zfe hr
    refine ⟨_, (zad (zas (zai g_check_kind zaD hr rfl (zaa (pv 0) zac)))
    (zae (zam (zhW hu (zbP (v := .ref st) rfl T.mST rfl) (pv 0) (fun _ _ => rfl))))), ?_⟩
    rcases h with ⟨rfl, k⟩ | ⟨rfl, k⟩
    . exact ⟨_, rfl, _, rfl, ⟨by decide, by decide +kernel⟩, _, rfl, st, _, rfl, .inl ⟨_, .inr "row", T.tST, rfl, rfl⟩, k⟩
    . exact ⟨_, rfl, _, rfl, ⟨by decide, by decide +kernel⟩, _, rfl, st, _, rfl, .inl ⟨_, .inr "number", T.tST, rfl, rfl⟩, k⟩
theorem zfV (F : Fun K "has_parts" "has_parts" zcl f fd) (B : Bl mg) (g_is_whole_number : FnX P w K mg base "is_whole_number" 1 zh2) : FnOk P w K mg base CX0 2 f fd ["deed", "parts"] (zmK K) := by
  refine F.ok zfT (fun vs H Q E h => ?_) (fun cdv A outer s H vs Q E hr h => ?_)
  . obtain ⟨a, x, xs, p, rfl, _⟩ := h; rfl
  . obtain ⟨a, x, xs, p, rfl, hS, ⟨hl, h0, h1⟩, hp, k⟩ := h
    refine ⟨_, (zad (zaH (PW.pt (zi3 (zar zcI (zaw zaK rfl B.len_ PySem.boot_len (zaa (pv 0) zac)) (pv 1) (zat _)) (zhr (zc1 (zcj (zaw zeo rfl B.isinstance_ PyProof.Rows.boot_isinstance (zaa (zan zav (pv 0) zag (fun _ _ => rfl)) (zaa (zd9 (v := .ty "str") rfl B.str_ PyProof.Rows.boot_str rfl) zac))))))))
    (zae (zam zba)) zau)
    (zae (zam (znc (zbR za7 (pv 1) zag (zat _)) (zdy (zai g_is_whole_number zaD hr rfl (zaa (zan zav (pv 0) zag (fun _ _ => rfl)) zac))))))), ?_⟩
    refine ⟨_, rfl, a, x :: xs, rfl, .inr hS, _, rfl, rfl, _, rfl, ?_⟩
    have e : (decide (V.int ((x :: xs).length : Int) = V.int p)) = decide ((xs.length : Int) + 1 = p) := by
      rw [zbG, List.length_cons]
      by_cases q : (xs.length : Int) + 1 = p
      . rw [decide_eq_true q]; simp; omega
      . rw [decide_eq_false q]; simp; omega
    rw [e]
    by_cases q : (xs.length : Int) + 1 = p
    . rw [decide_eq_true q] at k ⊢; refine za4 ?_
      match xs, hl, h0, h1, q, hS with
      | [], _, _, _, q, _ => simp at q; omega
      | y :: ys, hl, h0, h1, q, hS =>
        obtain ⟨t, rfl⟩ := h0 y rfl; refine ⟨_, rfl, a, _, 1, _, rfl, rfl, hS, at1, _, _, .type "str", true, rfl, TyOf.str t, zmg, true, rfl, ?_⟩; refine za4 ?_
        rcases hp with rfl | rfl
        . exact ⟨_, rfl, rfl, true, rfl, zbW k⟩
        . match ys, h1, q, hS with
          | [], _, q, _ => simp at q
          | y :: zs, h1, q, hS =>
            obtain ⟨i, rfl⟩ := h1 y rfl; exact ⟨_, rfl, rfl, false, rfl, za4 ⟨_, rfl, a, _, 2, _, rfl, rfl, hS, at2, i, rfl, k⟩⟩
    . rw [decide_eq_false q] at k ⊢; exact zbW (zbW k)
theorem ziA (F : Fun K "can_do" "can_do" zeu f fd) (B : Bl mg) (T : Tp P w K mg st pt r b n) (g_has_parts : FnX P w K mg base "has_parts" 2 (zmK K)) :
    FnOk P w K mg base CX0 3 f fd ["kind", "deed"] (zkV K) := by
  refine F.ok sc_can_do (fun vs H Q E h => ?_) (fun cdv A outer s H vs Q E hr h => ?_)
  . obtain ⟨k, wd, a, xs, rfl, _⟩ := h; rfl
  . obtain ⟨kd, wd, a, xs, rfl, hS, hT, hq⟩ := h; have hu := zfe hr
    refine ⟨_, (zad (zao (i := 2) sc_can_do.nd rfl (by first | exact .inl rfl | exact .inr rfl) (zay (zaa (pv 0) (zaa (zan zav (pv 1) zag (fun _ _ => rfl)) zac))))
    (zae (zam (zdF (zl6 (zlX hu (pv 2) (zbP (v := .ref pt) rfl T.mPT rfl))) (zdy (zai g_has_parts zaD hr rfl (zaa (pv 1) (zaa (zhW hu (zbP (v := .ref pt) rfl T.mPT rfl) (pv 2) (fun _ _ => rfl)) zac)))))))), ?_⟩
    refine ⟨_, rfl, _, rfl, a, _, 0, _, rfl, rfl, hS, at0, Nat.le_of_ble_eq_true rfl, fun p hp => ?_⟩; have s1 : Same H (upd H p (.tup [.str kd, .str wd])) := Same.upd hp; have z := hq _ s1; refine ⟨_, rfl, pt, _, rfl, .inr ⟨zdA, [.inr kd, .inr wd], p, T.tPT, rfl, zab, rfl⟩, _, rfl, ?_⟩; unfold zcU at z; show if (pOf kd wd).isSome = true then _ else _
    cases e : pOf kd wd with
    | none =>
      rw [e] at z; exact za4 z
    | some v =>
      rw [e] at z; obtain ⟨q, rfl, hq2⟩ : ∃ q : Int, v = .int q /\ (q = 2 \/ q = 3) := by rcases zjt e with rfl | rfl; exact ⟨2, rfl, .inl rfl⟩; exact ⟨3, rfl, .inr rfl⟩
      exact zbW ⟨_, rfl, _, rfl, pt, .int q, rfl, .inr ⟨zdA, [.inr kd, .inr wd], p, T.tPT, rfl, zab, e.symm⟩, a, .str wd, xs, q, rfl, Same.tup s1 hS, hT, hq2, z⟩
theorem ze7 (F : Fun K "check_deed" "check_deed" zcc f fd) (B : Bl mg) (T : Tp P w K mg st pt r b n) (g_can_do : FnX P w K mg base "can_do" 3 (zkV K)) (g_check_kind : FnX P w K mg base "check_kind" 1 (zkN n)) :
    FnOk P w K mg base (CX1 P w) 4 f fd ["kind", "deed"] (zmj K b n) := by
  refine F.okX sc_check_deed (fun vs H Q E h => ?_) (fun cdv A outer s H vs Q E hr h => ?_)
  . obtain ⟨k, wd, a, xs, rfl, _⟩ := h; rfl
  . obtain ⟨kd, wd, a, xs, rfl, hS, hT, hk, hw, hq⟩ := h; have k_BadCall := T.kB
    refine ⟨_, (zad (zas (zai g_check_kind (zaN own_cx) hr rfl (zaa (pv 0) zac)))
    (zae (zaH (zc1 (zcj (zai g_can_do (zaN own_cx) hr rfl (zaa (pv 0) (zaa (pv 1) zac)))))
    (zad (zao (i := 2) sc_check_deed.nd rfl (by first | exact .inl rfl | exact .inr rfl) (zan zav (pv 1) zag (fun _ _ => rfl)))
    (zae (zds k_BadCall zed rfl rfl (zaa (zdR (.cons zaj (.cons (ziJ (pv 0)) (.cons zaj (.cons (zel (pv 2)) (.cons zaj .nil)))))) zac) rfl))) zau))), ?_⟩
    refine ⟨_, rfl, kd, rfl, hk, ?_⟩
    by_cases h1 : kd = "row" \/ kd = "number"
    . rw [if_pos h1]; refine ⟨_, rfl, _, rfl, kd, wd, a, xs, rfl, hS, hT, fun H' s1 => ⟨_, rfl, ?_⟩⟩; have z := hq _ s1; rw [if_pos h1] at z
      cases e : zcU kd wd xs.length with
      | true =>
        rw [e] at z; exact za4 z
      | false =>
        rw [e] at z; have z1 : (Str.empty ++ Str.ofString "a ").length = 2 := rfl; have z2 : (Str.empty ++ Str.ofString "a " ++ kd).length <= 102 := by rw [strLen_append, z1]; have := hk.1; omega
        have z3 : (Str.empty ++ Str.ofString "a " ++ kd ++ Str.ofString " has no deed ").length <= 115 := by rw [strLen_append, show (Str.ofString " has no deed ").length = 13 from rfl]; omega
        have z4 : (Str.empty ++ Str.ofString "a " ++ kd ++ Str.ofString " has no deed " ++ reprText wd).length <= 1115 := by rw [strLen_append]; have := hw.2; omega
        have z5 : (Str.empty ++ Str.ofString "a " ++ kd ++ Str.ofString " has no deed " ++ reprText wd ++ Str.ofString " with these parts").length <= 1132 := by rw [strLen_append, show (Str.ofString " with these parts").length = 17 from rfl]; omega
        refine zbW ⟨_, rfl, a, _, 0, _, rfl, rfl, Same.tup s1 hS, at0, ?_⟩; exact ⟨_, rfl, by rw [z1]; decide, _, rfl, kd, rfl, Nat.le_trans hk.1 (by decide), _, rfl, Nat.le_trans z2 (by decide), _, rfl, Nat.le_trans z3 (by decide), _, rfl, wd, rfl, Nat.le_trans hw.2 (by decide), _, rfl, Nat.le_trans z4 (by decide), _, rfl, Nat.le_trans z5 (by decide), Nat.le_trans z5 (by decide), Nat.le_of_ble_eq_true rfl, z⟩
    . have z := hq H (Same.refl H); rw [if_neg h1] at z ⊢; exact z
structure Cl where
  b : Int
  e : Int
  wd : Str
  nm : Str
  p : Option Int
def tlV (c : Cl) : List V := .str c.nm :: (c.p.map V.int).toList
theorem zhE (c : Cl) : zi2 (tlV c) := by
  unfold zi2 tlV
  cases c.p with
  | none => exact ⟨by simp, fun y h => ⟨c.nm, (Option.some.inj h).symm⟩, fun y h => by simp at h⟩
  | some i => exact ⟨by simp, fun y h => ⟨c.nm, (Option.some.inj h).symm⟩, fun y h => ⟨i, (Option.some.inj h).symm⟩⟩
def CallT (K : PySem.W.Frag) (H : Hp) (v : V) (c : Cl) : Prop := ∃ t q, v = .ref t /\ SqT K H t [.int c.b, .int c.e, .ref q, .non] /\ SqT K H q (.str c.wd :: tlV c)
theorem CallT.keep {K : PySem.W.Frag} {H H' : Hp} {v : V} {c : Cl} (s : Same H H') (h : CallT K H v c) : CallT K H' v c :=
  let ⟨t, q, h1, h2, h3⟩ := h; ⟨t, q, h1, Same.tup s h2, Same.tup s h3⟩
structure Calls (K : PySem.W.Frag) (H : Hp) (vs : List V) (cs : List Cl) : Prop where
  len : vs.length = cs.length
  few : cs.length <= 6
  at_ : ∀ (i : Nat) (v : V), vs[i]? = some v -> ∃ c, cs[i]? = some c /\ CallT K H v c
  sh : ∀ c ∈ cs, Sh c.wd /\ Sh c.nm
theorem Calls.keep {K : PySem.W.Frag} {H H' : Hp} {vs : List V} {cs : List Cl} (s : Same H H') (h : Calls K H vs cs) : Calls K H' vs cs :=
  ⟨h.len, h.few, fun i v e => let ⟨c, h1, h2⟩ := h.at_ i v e; ⟨c, h1, h2.keep s⟩, h.sh⟩
def cl0 : Cl := ⟨0, 0, "", "", none⟩
def zcX (cs : List Cl) (i : Int) : Cl := cs.getD i.toNat cl0
theorem Calls.num {K : PySem.W.Frag} {H : Hp} {vs : List V} {cs : List Cl} (h : Calls K H vs cs) {i : Int} (h0 : 0 <= i) (h1 : i < cs.length) : ∃ v, atI vs i = some v /\ CallT K H v (zcX cs i) := by
  obtain ⟨v, hv, hv'⟩ := zdT (xs := vs) h0 (by rw [h.len]; exact h1)
  obtain ⟨c, h2, h3⟩ := h.at_ _ v hv'; have e : zcX cs i = c := by unfold zcX; rw [List.getD_eq_getElem?_getD, h2]; rfl
  rw [e]; exact ⟨v, hv, h3⟩
def okC (k : Str) (c : Cl) : Bool := decide (c.b < c.e) && zcU k c.wd (tlV c).length
def Kd (k : Str) : Prop := k = "row" \/ k = "number"
instance (k : Str) : Decidable (Kd k) := by unfold Kd; infer_instance
def zlU (K : PySem.W.Frag) (b : Addr) : Sp := fun vs H Q E => ∃ v c, vs = [v] /\ CallT K H v c /\ if c.b < c.e then Q .non H else E (.ref b) none H
def ziR (K : PySem.W.Frag) (b n : Addr) : Sp := fun vs H Q E => ∃ k l xs cs, vs = [.str k, .ref l] /\ Sh k /\ SqL K H l xs /\ Calls K H xs cs /\ ∀ H', Same H H' -> if k = "row" \/ k = "number" then (if cs.all (okC k) then Q .non H' else E (.ref b) none H') else E (.ref n) none H'
theorem zeC (F : Fun K "check_times" "check_times" zbU f fd) (B : Bl mg) (T : Tp P w K mg st pt r b n) : FnOk P w K mg base (CX1 P w) 1 f fd ["call"] (zlU K b) := by
  refine F.okX zeO (fun vs H Q E h => ?_) (fun cdv A outer s H vs Q E hr h => ?_)
  . obtain ⟨v, c, rfl, _⟩ := h; rfl
  . obtain ⟨v, c, rfl, ⟨t, q, rfl, h1, h2⟩, k⟩ := h; have k_BadCall := T.kB
    refine ⟨_, (zae (zaH (zar zmE (zan zav (pv 0) zag (fun _ _ => rfl)) (zan zav (pv 0) zag (fun _ _ => rfl)) (zat _))
    (zae (zds k_BadCall zed rfl rfl (zaa zaj zac) rfl)) zau)), ?_⟩
    refine ⟨_, rfl, t, _, 0, _, rfl, rfl, h1, at0, _, rfl, t, _, 1, _, rfl, rfl, h1, at1, _, _, rfl, rfl, _, rfl, ?_⟩
    by_cases hbe : c.b < c.e
    . rw [if_pos hbe] at k; exact zk3 (by omega) k
    . rw [if_neg hbe] at k; refine zdE (decide_eq_true (by omega)) ⟨Nat.le_of_ble_eq_true rfl, k⟩
theorem zeI (F : Fun K "check_calls" "check_calls" zbV f fd) (B : Bl mg) (T : Tp P w K mg st pt r b n) (g_check_deed : FnX P w K mg base "check_deed" 4 (zmj K b n)) (g_check_kind : FnX P w K mg base "check_kind" 1 (zkN n)) (g_check_times : FnX P w K mg base "check_times" 1 (zlU K b)) :
    FnOk P w K mg base (CX1 P w) 5 f fd ["kind", "calls"] (ziR K b n) := by
  refine F.okX sc_check_calls (fun vs H Q E h => ?_) (fun cdv A outer s H vs Q E hr h => ?_)
  . obtain ⟨k, l, xs, cs, rfl, _⟩ := h; rfl
  . obtain ⟨kd, l, xs, cs, rfl, hkS, hS, hC, k⟩ := h
    refine ⟨_, (zad (zas (zai g_check_kind (zaN own_cx) hr rfl (zaa (pv 0) zac)))
    (zae (zaT (zfh own_cx) rfl (zax (pv 1)) (zaz (i := 2) sc_check_calls.nd rfl (by first | exact .inl rfl | exact .inr rfl))
    (zad (zas (zai g_check_times (zaN own_cx) hr rfl (zaa (pv 2) zac)))
    (zae (zas (zai g_check_deed (zaN own_cx) hr rfl (zaa (pv 0) (zaa (zan zav (pv 2) zag (fun _ _ => rfl)) zac))))))))), ?_⟩
    refine ⟨_, rfl, kd, rfl, hkS, ?_⟩
    by_cases hk : kd = "row" \/ kd = "number"
    . rw [if_pos hk]
      have bad : ∀ (i : Nat) c H', cs[i]? = some c -> okC kd c = false -> Same H H' -> E (.ref b) none H' := fun i c H' hi ho s => by
        have := k H' s; rw [if_pos hk, if_neg (fun z => by rw [List.all_eq_true.mp z c (List.mem_of_getElem? hi)] at ho; cases ho)] at this
        exact this
      refine ⟨_, rfl, l, rfl, ⟨_, hS⟩, zaV (K := K) (a := l) (xs := xs) (fun i σ H2 => ∃ v, σ = [some (.str kd), some (.ref l), v] /\ Same H H2 /\ ∀ j < i, ∀ c, cs[j]? = some c -> okC kd c = true) ⟨none, rfl, Same.refl _, fun j hj => absurd hj (Nat.not_lt_zero _)⟩ (fun i σ H2 _ ⟨_, _, s1, _⟩ => s1.seq hS) ?_ ?_⟩
      . rintro i y σ H2 hi ⟨v, rfl, s1, hok⟩; obtain ⟨c, hci, hc⟩ := hC.at_ i y hi; have hc2 := hc.keep s1; obtain ⟨t, q, rfl, h1, h2⟩ := id hc2; refine ⟨_, rfl, _, c, rfl, hc2, ?_⟩
        by_cases hbe : c.b < c.e
        . rw [if_pos hbe]; refine ⟨_, rfl, _, rfl, t, _, 2, _, rfl, rfl, h1, at2, kd, c.wd, q, _, rfl, h2, zhE c, hkS, (hC.sh c (List.mem_of_getElem? hci)).1, fun H3 s3 => ?_⟩; rw [if_pos hk]
          cases e : zcU kd c.wd (tlV c).length with
          | true =>
            refine zbW ⟨_, rfl, s1.trans s3, fun j hj c' hc' => ?_⟩
            rcases Nat.lt_succ_iff_lt_or_eq.mp hj with hj | rfl
            . exact hok j hj c' hc'
            . rw [hci] at hc'; cases hc'; unfold okC; rw [e, decide_eq_true hbe]; rfl
          | false => exact za4 (bad i c _ hci (by unfold okC; rw [e, Bool.and_false]) (s1.trans s3))
        . rw [if_neg hbe]; exact bad i c _ hci (by unfold okC; rw [decide_eq_false hbe, Bool.false_and]) s1
      . rintro σ H2 ⟨v, rfl, s1, hok⟩; have := k H2 s1
        rw [if_pos hk, if_pos (List.all_eq_true.mpr fun c hc => by
          obtain ⟨i, hi⟩ := List.getElem?_of_mem hc
          exact hok i (by rw [hC.len]; exact (List.getElem?_eq_some_iff.mp hi).1) c hi)] at this
        exact this
    . rw [if_neg hk]; have := k H (Same.refl H); rw [if_neg hk] at this; exact this
theorem zgx {A : Around} {k : Nat} (hr : Room k A) : A.units + 100 < cLine := by
  have := hr.un; omega
def Mx (H H' : Hp) : Prop := ∀ b o, H b = some o -> (∀ φ, o ≠ .ext φ) -> (∀ ps, o ≠ .tbl ps) -> H' b = some o
theorem Mx.updE {H : Hp} {d : Addr} {φ : Heap -> Prop} {o : HO} (h : H d = some (.ext φ)) : Mx H (upd H d o) := fun b ob e n _ => by
  rw [zah (zbx e h fun z => n _ z)]; exact e
theorem Mx.lst {H H' : Hp} (m : Mx H H') {a : Addr} {xs : List V} (h : H a = some (.lst xs)) : H' a = some (.lst xs) := m _ _ h (fun _ z => by cases z) fun _ z => by cases z
theorem Mx.tup {K : PySem.W.Frag} {H H' : Hp} {a : Addr} {xs : List V} (m : Mx H H') (h : SqT K H a xs) : SqT K H' a xs := by
  rcases h with (h | ⟨o, h⟩) | h
  . exact .inl (.inl (m _ _ h (fun _ z => by cases z) fun _ z => by cases z))
  . exact .inl (.inr ⟨o, m _ _ h (fun _ z => by cases z) fun _ z => by cases z⟩)
  . exact .inr h
theorem mem_iota {n : Nat} {j : Int} : j ∈ zap 0 n ↔ 0 <= j /\ j < n := by
  unfold zap; rw [List.mem_map]; constructor
  . rintro ⟨i, hi, rfl⟩; have := List.mem_range.mp hi; omega
  . rintro ⟨h0, h1⟩; exact ⟨j.toNat, List.mem_range.mpr (by omega), by omega⟩
theorem zg8 (n : Nat) : (zap 0 n).Nodup := by
  unfold zap; exact List.Pairwise.map _ (fun a b h z => h (by omega)) List.nodup_range
def bOf (cs : List Cl) (i : Int) : Int := (zcX cs i).b
def eOf (cs : List Cl) (i : Int) : Int := (zcX cs i).e
def zaC (n : Nat) (gs : List Int) : List Int := (zap 0 n).filter fun x => !inV (V.int x) (gs.map V.int)
def zaG (cs : List Cl) (gs : List Int) : List Int :=
  (zaC cs.length gs).filter fun i => (zaC cs.length gs).all fun j => decide (bOf cs i <= eOf cs j)
theorem zdl {n : Nat} {gs : List Int} {i : Int} (h : i ∈ zaC n gs) : 0 <= i /\ i < n := by
  unfold zaC zap at h; obtain ⟨j, hj, rfl⟩ := List.mem_map.mp (List.mem_filter.mp h).1; have := List.mem_range.mp hj; omega
theorem zi5 {cs : List Cl} {gs : List Int} {M : Int} (h1 : M ∈ (zaC cs.length gs).map (eOf cs)) (h2 : ∀ a ∈ (zaC cs.length gs).map (eOf cs), M <= a) :
    (zaC cs.length gs).filter (fun i => decide (bOf cs i <= M)) = zaG cs gs := by
  unfold zaG; refine List.filter_congr fun i hi => ?_; rw [Bool.eq_iff_iff, decide_eq_true_eq, List.all_eq_true]; constructor
  . intro h j hj; have := h2 (eOf cs j) (List.mem_map.mpr ⟨j, hj, rfl⟩); exact decide_eq_true (Int.le_trans h this)
  . intro h; obtain ⟨j, hj, e⟩ := List.mem_map.mp h1; rw [<- e]; exact of_decide_eq_true (h j hj)
theorem zjY {cs : List Cl} {gs : List Int} (h : zaC cs.length gs = []) : zaG cs gs = [] := by unfold zaG; rw [h]; rfl
def eV (cs : List Cl) : V -> V
  | .int i => .int (eOf cs i)
  | _ => .non
def bV (cs : List Cl) (M : Int) : V -> Bool
  | .int i => decide (bOf cs i <= M)
  | _ => false
theorem zme (cs : List Cl) (L : List Int) : ((L.map V.int).filter fun _ => true).map (eV cs) = (L.map (eOf cs)).map V.int := by
  rw [List.filter_eq_self.mpr (fun _ _ => rfl), List.map_map, List.map_map]
  rfl
theorem zfb (cs : List Cl) (M : Int) : ∀ L : List Int, ((L.map V.int).filter (bV cs M)).map id = (L.filter fun i => decide (bOf cs i <= M)).map V.int
  | [] => rfl
  | i :: r => by
    have ih := zfb cs M r; rw [List.map_id] at ih ⊢; rw [List.map_cons, List.filter_cons, List.filter_cons]; have e : bV cs M (V.int i) = decide (bOf cs i <= M) := rfl; rw [e]
    cases decide (bOf cs i <= M) with
    | true => rw [if_pos rfl, if_pos rfl, List.map_cons, ih]
    | false => rw [if_neg Bool.false_ne_true, if_neg Bool.false_ne_true, ih]
def zfX (K : PySem.W.Frag) : Sp := fun vs H Q _ => ∃ (c g : Addr) (xs : List V) (cs : List Cl) (gs : List Int), vs = [.ref c, .ref g] /\ SqL K H c xs /\ Calls K H xs cs /\ (∀ c ∈ cs, c.b < c.e) /\ (SqL K H g (gs.map V.int) \/ SqT K H g (gs.map V.int)) ∧
  ∀ (D : Addr) (H' : Hp), Same H H' -> H' D = some (.lst ((zaG cs gs).map V.int)) -> Q (.ref D) H'
theorem ze1 (F : Fun K "free_calls" "free_calls" za5 f fd) (B : Bl mg) (g_check_times : FnX P w K mg base "check_times" 1 (zlU K b)) : FnOk P w K mg base CX0 2 f fd ["calls", "gone"] (zfX K) := by
  refine F.ok sc_free_calls (fun vs H Q E h => ?_) (fun cdv A outer s H vs Q E hr h => ?_)
  . obtain ⟨c, g, xs, cs, gs, rfl, _⟩ := h; rfl
  . obtain ⟨c, g, xs, cs, gs, rfl, hS, hC, hbe, hG, k⟩ := h; have hlen : xs.length <= 1000 := by have h1 := hC.len; have h2 := hC.few; omega
    have hsz : sizeLine = 16777216 := sizeLine_eq
    refine ⟨_, (zad (zaT PassesOwn.never rfl (zax (pv 0)) (zaz (i := 2) sc_free_calls.nd rfl (by first | exact .inl rfl | exact .inr rfl))
    (zae (zas (zai g_check_times zaD hr rfl (zaa (pv 2) zac)))))
    (zad (zby (i := 3) (zbj (sc := zaf za5) (N0 := zbv) (ns := ["gone"]) (idx := [1]) (by decide +kernel)) rfl sc_free_calls.nd rfl (by first | exact .inl rfl | exact .inr rfl) (zcC rfl B.range_ (zaa (zaw zaK rfl B.len_ PySem.boot_len (zaa (pv 0) zac)) zac)) (fun _ _ _ _ => (zbt (zar (zcP K) (pv 0) (pv 1) rfl))) (fun _ _ _ _ => (pv 0)) rfl)
    (zad (zaH (zc1 (zct (pv 3) (fun _ => rfl)))
    (zae (zam (zaF zac))) zau)
    (zad (zao (i := 4) sc_free_calls.nd rfl (by first | exact .inl rfl | exact .inr rfl) (zaw (ziw rfl) rfl B.min_ PyProof.Rows.boot_min (zaa (zco (zbj (sc := zaf za5) (N0 := zbv) (ns := ["calls"]) (idx := [0]) (by decide +kernel)) rfl (zax (pv 3)) (fun _ _ _ _ => zbu) (fun _ _ _ _ => (zan (zbb K) (zan (zaX K) (pv 1) (pv 0) (fun _ _ => rfl)) zag (fun _ _ => rfl)))) zac)))
    (zae (zam (zco (zbj (sc := zaf za5) (N0 := zbv) (ns := ["first_end", "calls"]) (idx := [4, 0]) (by decide +kernel)) rfl (zax (pv 3)) (fun _ _ _ _ => (zbt (zar zm1 (zan (zbb K) (zan (zaX K) (pv 2) (pv 0) (fun _ _ => rfl)) zag (fun _ _ => rfl)) (pv 1) (zat _)))) (fun _ _ _ _ => (pv 0))))))))), ?_⟩
    refine ⟨_, rfl, c, rfl, ⟨_, hS⟩, zaV (K := K) (a := c) (xs := xs) (fun i σ H2 => (∃ v, σ = [some (.ref c), some (.ref g), v, none, none]) /\ H2 = H) ⟨⟨none, rfl⟩, rfl⟩ (fun i σ H2 _ q => by obtain ⟨_, rfl⟩ := q; exact hS) ?_ ?_⟩
    . rintro i y σ H2 hi ⟨⟨v, rfl⟩, rfl⟩; obtain ⟨cl, hcl, hc⟩ := hC.at_ i y hi; exact ⟨_, rfl, _, cl, rfl, hc, zdE (hbe cl (List.mem_of_getElem? hcl)) ⟨⟨_, rfl⟩, rfl⟩⟩
    rintro σ H2 ⟨⟨v, rfl⟩, rfl⟩; have nt : ((xs.length : Int)).toNat = xs.length := by omega
    refine ⟨_, rfl, c, xs, rfl, .inl hS, (xs.length : Int), rfl, by omega, by omega, zge (lo := 0) (n := ((xs.length : Int)).toNat) (fun x => !inV (V.int x) (gs.map V.int)) V.int (by omega) ?_ ?_ ?_⟩
    . intro x _ _ D ys R hD hR; exact ⟨_, rfl, _, rfl, g, gs.map V.int, rfl, (hG.imp (Same.upd hD).seq (Same.tup (Same.upd hD))), rfl, zcy gs, _, rfl, hR⟩
    . intro x _ _ _ D ys R hD hR; exact ⟨_, rfl, hR⟩
    intro D hD; rw [nt]; have hn : xs.length = cs.length := hC.len; rw [hn]; have eL : (zap 0 cs.length).filter (fun x => !inV (V.int x) (gs.map V.int)) = zaC cs.length gs := rfl; rw [eL]; have hS1 : SqL K (upd H2 D (.lst ((zaC cs.length gs).map V.int))) c xs := (Same.upd hD).seq hS; have hC1 : Calls K (upd H2 D (.lst ((zaC cs.length gs).map V.int))) xs cs := hC.keep (Same.upd hD); have s1 : Same H2 (upd H2 D (.lst ((zaC cs.length gs).map V.int))) := Same.upd hD; generalize hH1 : upd H2 D (.lst ((zaC cs.length gs).map V.int)) = H1 at hS1 hC1 s1 ⊢; have hD1 : H1 D = some (.lst ((zaC cs.length gs).map V.int)) := by rw [<- hH1]; exact zab
    refine ⟨_, rfl, _, .inl ⟨_, SqL.of hD1, rfl⟩, ?_⟩
    by_cases hL : zaC cs.length gs = []
    . refine zdE (by rw [hL]; rfl) ?_
      refine ⟨Nat.zero_le _, fun p hp => ?_⟩; refine k p _ (s1.trans (Same.upd hp)) ?_; rw [zab, zjY hL]
      rfl
    have hne : ((zaC cs.length gs).map V.int).isEmpty = false := by
      cases q : zaC cs.length gs with
      | nil => exact absurd q hL
      | cons _ _ => rfl
    refine zeN (by rw [hne]; decide) ?_
    have hlenL : ((zaC cs.length gs).map V.int).length <= sizeLine := by
      rw [List.length_map]; have h1 : (zaC cs.length gs).length <= (zap 0 cs.length).length := List.length_filter_le _ _; have h2 : (zap 0 cs.length).length = cs.length := by simp [zap]
      omega
    have inL : ∀ x ∈ (zaC cs.length gs).map V.int, ∃ i, x = V.int i /\ 0 <= i /\ i < xs.length := fun x hx => by
      obtain ⟨i, hi, rfl⟩ := List.mem_map.mp hx; have := zdl hi; exact ⟨i, rfl, this.1, by omega⟩
    refine ⟨_, rfl, D, rfl, ⟨_, SqL.of hD1⟩, za6 (xs := (zaC cs.length gs).map V.int) (fun _ => true) (eV cs) (SqL.of hD1) hlenL ?_ ?_ ?_⟩
    . intro x hx D2 ys R hD2 hR; exact hR
    . intro x hx _ D2 ys R hD2 hR; obtain ⟨i, rfl, h0, h1⟩ := inL x hx; obtain ⟨v', hv, ⟨t, q, rfl, ht, hq⟩⟩ := (hC1.keep (Same.upd hD2)).num h0 (by rw [<- hn]; exact h1)
      exact ⟨_, rfl, _, rfl, c, xs, i, _, rfl, rfl, (Same.upd hD2).seq hS1, hv, t, _, 1, _, rfl, rfl, ht, at1, hR⟩
    intro D2 hD2; rw [zme]; refine ⟨D2, (zaC cs.length gs).map (eOf cs), rfl, SqL.of zab, fun z => hL (List.map_eq_nil_iff.mp z), fun M hM1 hM2 => ?_⟩; have s2 : Same H1 (upd H1 D2 (.lst (((zaC cs.length gs).map (eOf cs)).map V.int))) := Same.upd hD2; generalize upd H1 D2 (.lst (((zaC cs.length gs).map (eOf cs)).map V.int)) = H3 at s2 ⊢; refine ⟨_, rfl, D, rfl, ⟨_, SqL.of (s2 _ _ hD1)⟩, za6 (xs := (zaC cs.length gs).map V.int) (bV cs M) id (SqL.of (s2 _ _ hD1)) hlenL ?_ ?_ ?_⟩
    . intro x hx D3 ys R hD3 hR; obtain ⟨i, rfl, h0, h1⟩ := inL x hx; have s3 := s2.trans (Same.upd (o := .lst ys) hD3); obtain ⟨v', hv, ⟨t, q, rfl, ht, hq⟩⟩ := (hC1.keep s3).num h0 (by rw [<- hn]; exact h1)
      exact ⟨_, rfl, _, rfl, c, xs, i, _, rfl, rfl, s3.seq hS1, hv, t, _, 0, _, rfl, rfl, ht, at0, _, rfl, _, _, rfl, rfl, _, rfl, hR⟩
    . intro x hx _ D3 ys R hD3 hR; exact ⟨_, rfl, hR⟩
    intro D3 hD3; have s3 := s1.trans s2; refine k D3 _ (s3.trans (Same.upd hD3)) ?_; rw [zab, zfb, zi5 hM1 hM2]
def Look2 (K : PySem.W.Frag) (H : Hp) (a : Addr) : Prop := ∃ nm : Str, SqT K H a [.str "look", .str nm]
theorem Look2.keep {K : PySem.W.Frag} {H H' : Hp} {a : Addr} (s : Same H H') (h : Look2 K H a) : Look2 K H' a := let ⟨nm, q⟩ := h; ⟨nm, Same.tup s q⟩
def Th0 (K : PySem.W.Frag) (H : Hp) (k : Str) (x y : V) : Prop := (k = "row" /\ (∃ r0, x = .ref r0 /\ SqT K H r0 []) /\ y = .non) \/ (k = "number" /\ ∃ i : Int, x = .int i /\ y = .int i)
theorem Th0.keep {K : PySem.W.Frag} {H H' : Hp} {k : Str} {x y : V} (s : Same H H') (h : Th0 K H k x y) : Th0 K H' k x y :=
  h.imp (fun ⟨h1, ⟨r0, h2, h3⟩, h4⟩ => ⟨h1, ⟨r0, h2, Same.tup s h3⟩, h4⟩) id
def zk1 (K : PySem.W.Frag) : Sp := fun vs H Q _ => ∃ i a, vs = [.int i, .ref a] /\ Look2 K H a /\ ∀ p, H p = none -> Q (.ref p) (upd H p (.tup [.int i, .int i]))
def zkS (K : PySem.W.Frag) : Sp := fun vs H Q _ => ∃ r0 a, vs = [.ref r0, .ref a] /\ SqT K H r0 [] /\ Look2 K H a /\ ∀ p, H p = none -> Q (.ref p) (upd H p (.tup [.ref r0, .non]))
def zkG (K : PySem.W.Frag) : Sp := fun vs H Q _ => ∃ k x y a, vs = [.str k, x, .ref a] /\ Th0 K H k x y /\ Look2 K H a /\ ∀ p, H p = none -> Q (.ref p) (upd H p (.tup [x, y]))
theorem zfI (F : Fun K "do_number" "do_number" zcr f fd) (B : Bl mg) : FnOk P w K mg base CX0 1 f fd ["number", "deed"] (zk1 K) := by
  refine F.ok zfA (fun vs H Q E h => ?_) (fun cdv A outer s H vs Q E hr h => ?_)
  . obtain ⟨x, a, rfl, _⟩ := h; rfl
  . obtain ⟨i, a, rfl, ⟨nm, hS⟩, k⟩ := h
    refine ⟨_, (zad (zaH (zar za7 (zan zav (pv 1) zag (fun _ _ => rfl)) zaj (zat _))
    (zae (zam (zay (zaa (zan zav (pv 1) zag (fun _ _ => rfl)) (zaa zbp zac))))) zau)
    (zad (zaH (zar za7 (zan zav (pv 1) zag (fun _ _ => rfl)) zaj (zat _))
    (zae (zam (zay (zaa (zaW zfL (pv 0) (zan zav (pv 1) zag (fun _ _ => rfl))) (zaa (zaW zfL (pv 0) (zan zav (pv 1) zag (fun _ _ => rfl))) zac))))) zau)
    (zae (zam (zay (zaa (pv 0) (zaa (pv 0) zac))))))), ?_⟩
    refine ⟨_, rfl, a, _, 0, _, rfl, rfl, hS, at0, rfl, _, rfl, za4 ?_⟩; refine ⟨_, rfl, a, _, 0, _, rfl, rfl, hS, at0, rfl, _, rfl, za4 ?_⟩; exact ⟨_, rfl, _, rfl, Nat.le_of_ble_eq_true rfl, k⟩
theorem zib (F : Fun K "do_row" "do_row" zeG f fd) (B : Bl mg) : FnOk P w K mg base CX0 1 f fd ["row", "deed"] (zkS K) := by
  refine F.ok sc_do_row (fun vs H Q E h => ?_) (fun cdv A outer s H vs Q E hr h => ?_)
  . obtain ⟨x, a, rfl, _⟩ := h; rfl
  . obtain ⟨r0, a, rfl, hR, ⟨nm, hS⟩, k⟩ := h
    refine ⟨_, (zad (zaH (zar za7 (zan zav (pv 1) zag (fun _ _ => rfl)) zaj (zat _))
    (zae (zam (zay (zaa (zaW zjL (pv 0) (zay (zaa (zan zav (pv 1) zag (fun _ _ => rfl)) zac))) (zaa zbp zac))))) zau)
    (zad (zao (i := 2) sc_do_row.nd rfl (by first | exact .inl rfl | exact .inr rfl) (zf8 (zct (pv 0) (fun _ => rfl)) (zan zav (pv 0) zag (fun _ _ => rfl)) zbp))
    (zad (zaH (zar za7 (zan zav (pv 1) zag (fun _ _ => rfl)) zaj (zat _))
    (zae (zam (zay (zaa (zb4 zkA (pv 0) (zcF zag) zcD) (zaa (pv 2) zac))))) zau)
    (zae (zam (zay (zaa (pv 0) (zaa (pv 2) zac)))))))), ?_⟩
    refine ⟨_, rfl, a, _, 0, _, rfl, rfl, hS, at0, rfl, _, rfl, za4 ?_⟩; refine ⟨_, rfl, _, .inr (.inl ⟨_, hR, rfl⟩), za4 ?_⟩; refine ⟨_, rfl, a, _, 0, _, rfl, rfl, hS, at0, rfl, _, rfl, za4 ?_⟩; exact ⟨_, rfl, _, rfl, Nat.le_of_ble_eq_true rfl, k⟩
theorem zgY (F : Fun K "do_deed" "do_deed" zdw f fd) (B : Bl mg) (g_do_number : FnX P w K mg base "do_number" 1 (zk1 K)) (g_do_row : FnX P w K mg base "do_row" 1 (zkS K)) : FnOk P w K mg base CX0 2 f fd ["kind", "thing", "deed"] (zkG K) := by
  refine F.ok zg7 (fun vs H Q E h => ?_) (fun cdv A outer s H vs Q E hr h => ?_)
  . obtain ⟨k, x, y, a, rfl, _⟩ := h; rfl
  . obtain ⟨kd, x, y, a, rfl, hT, hL, k⟩ := h
    refine ⟨_, (zad (zaH (zar za7 (pv 0) zaj (zat _))
    (zae (zam (zai g_do_row zaD hr rfl (zaa (pv 1) (zaa (pv 2) zac))))) zau)
    (zae (zam (zai g_do_number zaD hr rfl (zaa (pv 1) (zaa (pv 2) zac)))))), ?_⟩
    rcases hT with ⟨rfl, ⟨r0, rfl, hR⟩, rfl⟩ | ⟨rfl, i, rfl, rfl⟩
    . exact ⟨_, rfl, rfl, _, rfl, zbW ⟨_, rfl, _, rfl, r0, a, rfl, hR, hL, k⟩⟩
    . exact ⟨_, rfl, rfl, _, rfl, za4 ⟨_, rfl, _, rfl, i, a, rfl, hL, k⟩⟩
theorem zex {Q : VK} {E : XK} {H : Hp} {kd : Str} (T : Tp P w K mg st pt r b n) (hk : kd = "row" \/ kd = "number") (h : ∀ x y, Th0 K H kd x y -> Q x H) : zcx r [.str kd] H Q E := by
  rcases hk with rfl | rfl
  . exact .inl ⟨rfl, h _ .non (.inl ⟨rfl, ⟨r, rfl, T.em H⟩, rfl⟩)⟩
  . exact .inr ⟨rfl, h _ (.int 0) (.inr ⟨rfl, 0, rfl, rfl⟩)⟩
theorem zbs {H H' : Hp} {a : Addr} (s : Same H H') (h : H' a = none) : H a = none := by
  cases e : H a with
  | none => rfl
  | some o => rw [s _ _ e] at h; cases h
def Lk (cs : List Cl) : Prop := ∀ c ∈ cs, c.b < c.e /\ c.wd = "look" /\ c.p = none
theorem Lk.look {K : PySem.W.Frag} {H : Hp} {xs : List V} {cs : List Cl} (h : Lk cs) (hC : Calls K H xs cs) {i : Int} (h0 : 0 <= i) (h1 : i < cs.length) : ∃ t q, atI xs i = some (.ref t) /\ SqT K H t [.int (zcX cs i).b, .int (zcX cs i).e, .ref q, .non] /\ Look2 K H q := by
  obtain ⟨v, hv, t, q, rfl, ht, hq⟩ := hC.num h0 h1
  have hm : zcX cs i ∈ cs := by
    unfold zcX; rw [List.getD_eq_getElem?_getD, List.getElem?_eq_getElem (by omega)]
    exact List.getElem_mem _
  obtain ⟨_, e1, e2⟩ := h _ hm; unfold tlV at hq; rw [e1, e2] at hq; exact ⟨t, q, hv, ht, _, hq⟩
theorem zfw {cs : List Cl} {gs : List Int} {i : Int} (h : i ∈ zaG cs gs) : 0 <= i /\ i < cs.length := zdl (List.mem_filter.mp h).1
def zjA (H0 H : Hp) (x : V) (gs fs : List Int) (ms : List V) : Prop := ∃ ms0 t o z, ms = ms0 ++ [.ref t] /\ H t = some (.tup [.ref o, x]) /\ H o = some (.lst ((gs ++ [z]).map V.int)) /\ z ∈ fs /\ H0 o = none
def zj1 (K : PySem.W.Frag) : Sp := fun vs H Q _ => ∃ (k : Str) (l g : Addr) (x y : V) (xs : List V) (cs : List Cl) (gs : List Int), vs = [.str k, .ref l, .ref g, x] /\ SqL K H l xs /\ Calls K H xs cs /\ Lk cs /\ H g = some (.lst (gs.map V.int)) /\ gs.length <= 60 /\ Th0 K H k x y ∧
  ∀ (D : Addr) (ms : List V) (H' : Hp), Same H H' -> H' D = some (.lst ms) -> ms.length <= 6 -> ((y ≠ .non /\ ms = []) \/ (y = .non /\ (zaG cs gs ≠ [] -> zjA H H' x gs (zaG cs gs) ms))) -> Q (.ref D) H'
theorem zhz (F : Fun K "ways_on" "ways_on" zdL f fd) (B : Bl mg) (g_do_deed : FnX P w K mg base "do_deed" 2 (zkG K)) (g_free_calls : FnX P w K mg base "free_calls" 2 (zfX K)) : FnOk P w K mg base CX0 3 f fd ["kind", "calls", "order", "thing"] (zj1 K) := by
  refine F.ok sc_ways_on (fun vs H Q E h => ?_) (fun cdv A outer s H vs Q E hr h => ?_)
  . obtain ⟨k, l, g, x, y, xs, cs, gs, rfl, _⟩ := h; rfl
  . obtain ⟨kd, l, g, x, y, xs, cs, gs, rfl, hS, hC, hLk, hg, hgl, hTh, k⟩ := h; have hsz : sizeLine = 16777216 := sizeLine_eq; have hyy : y = .non \/ ∃ i : Int, y = .int i := hTh.elim (fun h => .inl h.2.2) fun h => .inr ⟨h.2.choose, h.2.choose_spec.2⟩
    refine ⟨_, (zad (zao (i := 4) sc_ways_on.nd rfl (by first | exact .inl rfl | exact .inr rfl) (zaF zac))
    (zad (zaT PassesOwn.never rfl (zax (zai g_free_calls zaD hr rfl (zaa (pv 1) (zaa (pv 2) zac)))) (zaz (i := 5) sc_ways_on.nd rfl (by first | exact .inl rfl | exact .inr rfl))
    (zad (zao (i := 6) sc_ways_on.nd rfl (by first | exact .inl rfl | exact .inr rfl) (zai g_do_deed zaD hr rfl (zaa (pv 0) (zaa (pv 3) (zaa (zan zav (zan zbc (pv 1) (pv 5) (fun _ _ => rfl)) zag (fun _ _ => rfl)) zac)))))
    (zae (zaH (zar za7 (zan zav (pv 6) zag (fun _ _ => rfl)) (zan zav (zan zbc (pv 1) (pv 5) (fun _ _ => rfl)) zag (fun _ _ => rfl)) (zat _))
    (zae (zas (zcg PySem.F.plainAttrs_list PySem.F.slot_list_append PySem.F.type_list_append zbo (pv 4) (zaa (zay (zaa (zaW zc3 (pv 2) (zaF (zaa (pv 5) zac))) (zaa (zan zav (pv 6) zag (fun _ _ => rfl)) zac))) zac)))) zau))))
    (zae (zam (pv 4))))), ?_⟩
    refine ⟨Nat.le_of_ble_eq_true rfl, fun D hD => ?_⟩; have s0 : Same H (upd H D (.lst [])) := Same.upd hD; have q0 : (upd H D (.lst [])) D = some (.lst []) := zab; generalize upd H D (.lst []) = H0 at s0 q0 ⊢; refine ⟨_, rfl, _, rfl, l, g, xs, cs, gs, rfl, s0.seq hS, hC.keep s0, fun c hc => (hLk c hc).1, .inl (SqL.of (s0 _ _ hg)), fun Dg H1 s1 hDg => ?_⟩; have q1 := s1 _ _ q0; have s01 := s0.trans s1
    have hDD : zaG cs gs ≠ [] -> Dg ≠ D := fun hne z => by
      rw [z, q1] at hDg; have := HO.lst.inj (Option.some.inj hDg); exact hne (List.map_eq_nil_iff.mp this.symm)
    have hfl : (zaG cs gs).length <= 6 := by
      have h1 : (zaG cs gs).length <= (zaC cs.length gs).length := List.length_filter_le _ _; have h2 : (zaC cs.length gs).length <= (zap 0 cs.length).length := List.length_filter_le _ _; have h3 : (zap 0 cs.length).length = cs.length := by simp [zap]
      have := hC.few; omega
    refine ⟨Dg, rfl, ⟨_, SqL.of hDg⟩, zaV (K := K) (a := Dg) (xs := (zaG cs gs).map V.int) (fun i σ H2 => ∃ (v5 v6 : Option V) (ms : List V), σ = [some (.str kd), some (.ref l), some (.ref g), some x, some (.ref D), v5, v6] /\ Same H H2 /\ H2 Dg = some (.lst ((zaG cs gs).map V.int)) /\ H2 D = some (.lst ms) /\ ms.length <= i /\ ((y ≠ .non /\ ms = []) \/ (y = .non /\ (0 < i -> zjA H H2 x gs (zaG cs gs) ms))))
      ⟨none, none, [], rfl, s01, hDg, q1, Nat.le_refl _, hyy.elim (fun e => .inr ⟨e, fun z => absurd z (Nat.lt_irrefl _)⟩) fun ⟨i, e⟩ => .inl ⟨(by rw [e]; exact (fun z => nomatch z)), rfl⟩⟩ (fun i σ H2 _ ⟨_, _, _, _, _, h, _⟩ => SqL.of h) ?_ ?_⟩
    . rintro i u σ H2 hi ⟨v5, v6, ms, rfl, s2, f2, d2, hml, hw⟩; rw [List.getElem?_map] at hi; obtain ⟨z, hz, rfl⟩ := Option.map_eq_some_iff.mp hi; have hzm := List.mem_of_getElem? hz; have hzz := zfw hzm; have hil : i < (zaG cs gs).length := (List.getElem?_eq_some_iff.mp hz).1; obtain ⟨tt, qd, hu', ht, hqd⟩ := hLk.look (hC.keep s2) hzz.1 hzz.2; refine ⟨_, rfl, _, rfl, _, rfl, _, rfl, l, _, _, _, rfl, rfl, s2.seq hS, hu', tt, _, 2, _, rfl, rfl, ht, at2, kd, x, y, qd, rfl, hTh.keep s2, hqd, fun p hp => ?_⟩; have s3 : Same H2 (upd H2 p (.tup [x, y])) := Same.upd hp; have q3 : (upd H2 p (.tup [x, y])) p = some (.tup [x, y]) := zab; generalize upd H2 p (.tup [x, y]) = H3 at s3 q3 ⊢; have s13 := s2.trans s3; refine ⟨_, rfl, p, _, 1, _, rfl, rfl, SqT.of q3, at1, _, rfl, _, rfl, l, _, _, _, rfl, rfl, s13.seq hS, hu', tt, _, 3, _, rfl, rfl, Same.tup s3 ht, at3, ?_, _, rfl, ?_⟩
      . rcases hyy with rfl | ⟨i, rfl⟩ <;> rfl
      rcases hw with ⟨hy, rfl⟩ | ⟨rfl, hw⟩
      . refine zeN (by rw [decide_eq_false hy]; decide) ⟨_, _, [], rfl, s13, s3 _ _ f2, s3 _ _ d2, Nat.zero_le _, .inl ⟨hy, rfl⟩⟩
      . refine zdE (decide_eq_true rfl) ?_; refine ⟨_, rfl, .inl ⟨rfl, _, SqL.of (s3 _ _ d2)⟩, _, rfl, _, rfl, Nat.le_of_ble_eq_true rfl, fun p1 hp1 => ?_⟩; have t1 := Same.upd (o := .lst [.int z]) hp1; refine ⟨g, p1, _, _, rfl, rfl, t1 _ _ (s13 _ _ hg), zab, ?_, fun p2 hp2 => ?_⟩
        . rw [List.length_map]; show _ + 1 <= _; omega
        have t2 := Same.upd (o := .lst (gs.map V.int ++ [.int z])) hp2; have q2 := zab (H := upd H3 p1 (.lst [.int z])) (a := p2) (o := .lst (gs.map V.int ++ [.int z])); have t12 := t1.trans t2; have hpD : p2 ≠ D := fun e => by rw [e, t1 _ _ (s3 _ _ d2)] at hp2; cases hp2
        generalize upd (upd H3 p1 (.lst [.int z])) p2 (.lst (gs.map V.int ++ [.int z])) = H4 at t2 q2 t12 ⊢; refine ⟨_, rfl, p, _, 0, _, rfl, rfl, SqT.of (t12 _ _ q3), at0, Nat.le_of_ble_eq_true rfl, fun p5 hp5 => ?_⟩; have t5 := Same.upd (o := .tup [.ref p2, x]) hp5; have q5 := zab (H := H4) (a := p5) (o := .tup [.ref p2, x]); have h5D : p5 ≠ D := fun e => by rw [e, t12 _ _ (s3 _ _ d2)] at hp5; cases hp5
        generalize upd H4 p5 (.tup [.ref p2, x]) = H5 at t5 q5 ⊢; have t35 := t12.trans t5; have d5 := t35 _ _ (s3 _ _ d2); refine ⟨D, ms, _, rfl, rfl, d5, by omega, ?_⟩
        have hne : zaG cs gs ≠ [] := fun z => by rw [z] at hzm; cases hzm
        refine ⟨_, _, _, rfl, fun b o h => ?_, ?_, zab, by rw [List.length_append, List.length_singleton]; omega, .inr ⟨rfl, fun _ => ⟨ms, p5, p2, z, rfl, ?_, ?_, hzm, ?_⟩⟩⟩
        . rw [zah (zaq h hD)]; exact t35 _ _ (s13 _ _ h)
        . rw [zah (hDD hne)]; exact t35 _ _ (s3 _ _ f2)
        . rw [zah h5D]; exact q5
        . rw [zah hpD, t5 _ _ q2, List.map_append]; rfl
        . exact zbs (s13.trans t1) hp2
    . rintro σ H2 ⟨v5, v6, ms, rfl, s2, f2, d2, hml, hw⟩; rw [List.length_map] at hml hw; exact ⟨_, rfl, k D ms H2 s2 d2 (by omega) (hw.imp id fun ⟨h1, h2⟩ => ⟨h1, fun h => h2 (List.length_pos_iff.mpr h)⟩)⟩
def zjD (K : PySem.W.Frag) : Sp := fun vs H Q _ => ∃ (x l g : Addr) (xs : List V) (cs : List Cl) (gs : List Int), vs = [.ref x, .ref l, .ref g] /\ SqT K H x [] /\ SqL K H l xs /\ Calls K H xs cs /\ Lk cs /\ SqL K H g (gs.map V.int) /\ ∀ H', Same H H' -> Q (.bl true) H'
theorem zd6 (F : Fun K "can_come_out" "can_come_out" zaR f fd) (B : Bl mg) : FnOk P w K mg base CX0 1 f fd ["row", "calls", "order"] (zjD K) := by
  refine F.ok sc_can_come_out (fun vs H Q E h => ?_) (fun cdv A outer s H vs Q E hr h => ?_)
  . obtain ⟨x, l, g, xs, cs, gs, rfl, _⟩ := h; rfl
  . obtain ⟨x, l, g, xs, cs, gs, rfl, hX, hS, hC, hLk, hG, k⟩ := h; have hsz : sizeLine = 16777216 := sizeLine_eq; have hfew := hC.few
    refine ⟨_, (zad (zby (i := 3) (zbj (sc := zaf zaR) (N0 := zbd) (ns := ["calls", "order"]) (idx := [1, 2]) (by decide +kernel)) rfl sc_can_come_out.nd rfl (by first | exact .inl rfl | exact .inr rfl) (zcC rfl B.range_ (zaa (zaw zaK rfl B.len_ PySem.boot_len (zaa (pv 1) zac)) zac)) (fun _ _ _ _ => (zbt (zar (zcP K) (pv 0) (pv 2) rfl))) (fun _ _ _ _ => (zan (zaX K) (pv 1) (pv 0) (fun _ _ => rfl))) rfl)
    (zad (zby (i := 4) (zbj (sc := zaf zaR) (N0 := zbd) (ns := []) (idx := []) (by decide +kernel)) rfl sc_can_come_out.nd rfl (by first | exact .inl rfl | exact .inr rfl) (zax (pv 3)) (fun _ _ _ _ => (zbt (zar zcI (zan (zbb K) (zan (zbb K) (pv 0) zag (fun _ _ => rfl)) zag (fun _ _ => rfl)) zaj (zat _)))) (fun _ _ _ _ => (pv 0)) rfl)
    (zad (zby (i := 6) (zbj (sc := zaf zaR) (N0 := zbd) (ns := []) (idx := []) (by decide +kernel)) rfl sc_can_come_out.nd rfl (by first | exact .inl rfl | exact .inr rfl) (zax (pv 3)) (fun _ _ _ _ => (zbt (zar za7 (zan (zbb K) (zan (zbb K) (pv 0) zag (fun _ _ => rfl)) zag (fun _ _ => rfl)) zaj (zat _)))) (fun _ _ _ _ => (zan (zbb K) (zan (zbb K) (pv 0) zag (fun _ _ => rfl)) zag (fun _ _ => rfl))) rfl)
    (zad (zaT PassesOwn.never rfl (zjK rfl B.enumerate_ (zaa (pv 0) zac)) (zhy rfl (zb3 (zaz (i := 7) sc_can_come_out.nd rfl (by first | exact .inl rfl | exact .inr rfl)) (zb3 (zaz (i := 8) sc_can_come_out.nd rfl (by first | exact .inl rfl | exact .inr rfl)) zfu)))
    (zad zb0
    (zae zb0)))
    (zae (zam zba)))))), ?_⟩
    have nt : ((xs.length : Int)).toNat = xs.length := by omega
    have hn : xs.length = cs.length := hC.len; refine ⟨_, rfl, l, xs, rfl, .inl hS, (xs.length : Int), rfl, by omega, by omega, zge (lo := 0) (n := ((xs.length : Int)).toNat) (fun x => !inV (V.int x) (gs.map V.int)) (fun i => (atI xs i).getD .non) (by omega) ?_ ?_ ?_⟩
    . intro x _ _ D ys R hD hR; exact ⟨_, rfl, _, rfl, g, gs.map V.int, rfl, .inl ((Same.upd hD).seq hG), rfl, zcy gs, _, rfl, hR⟩
    . intro x h0 h1 _ D ys R hD hR; obtain ⟨v', hv, _⟩ := hC.num (i := x) h0 (by rw [<- hn]; omega)
      rw [hv] at hR; exact ⟨_, rfl, _, rfl, l, xs, x, _, rfl, rfl, (Same.upd hD).seq hS, hv, hR⟩
    intro D hD; rw [nt, hn]
    have hz : ∀ v ∈ ((zap 0 cs.length).filter (fun x => !inV (V.int x) (gs.map V.int))).map (fun i => (atI xs i).getD .non), ∃ (c : Cl) (t q : Addr), v = .ref t /\ SqT K H t [.int c.b, .int c.e, .ref q, .non] /\ Look2 K H q := fun v hv => by
      obtain ⟨i, hi, rfl⟩ := List.mem_map.mp hv; have hii := zdl hi; obtain ⟨t, q, h1, h2, h3⟩ := hLk.look hC hii.1 hii.2; rw [h1]; exact ⟨_, t, q, rfl, h2, h3⟩
    have hlz : (((zap 0 cs.length).filter (fun x => !inV (V.int x) (gs.map V.int))).map (fun i => (atI xs i).getD .non)).length <= 6 := by
      rw [List.length_map]; have h1 := List.length_filter_le (fun x => !inV (V.int x) (gs.map V.int)) (zap 0 cs.length); have h2 : (zap 0 cs.length).length = cs.length := by simp [zap]
      omega
    generalize ((zap 0 cs.length).filter (fun x => !inV (V.int x) (gs.map V.int))).map (fun i => (atI xs i).getD .non) = vz at hz hlz ⊢; have s1 : Same H (upd H D (.lst vz)) := Same.upd hD; have q1 : (upd H D (.lst vz)) D = some (.lst vz) := zab; generalize upd H D (.lst vz) = H1 at s1 q1 ⊢; refine ⟨_, rfl, D, rfl, ⟨_, SqL.of q1⟩, za6 (xs := vz) (fun _ => true) id (SqL.of q1) (by omega) ?_ ?_ ?_⟩
    . intro v hv D2 ys R hD2 hR; obtain ⟨c, t, q, rfl, ht, nm, hq⟩ := hz v hv; have s2 := s1.trans (Same.upd (o := .lst ys) hD2); exact ⟨_, rfl, t, _, 2, _, rfl, rfl, Same.tup s2 ht, at2, q, _, 0, _, rfl, rfl, Same.tup s2 hq, at0, rfl, _, rfl, hR⟩
    . intro v hv _ D2 ys R hD2 hR; exact ⟨_, rfl, hR⟩
    intro D2 hD2; have s2 : Same H1 (upd H1 D2 (.lst ((vz.filter fun _ => true).map id))) := Same.upd hD2; generalize upd H1 D2 (.lst ((vz.filter fun _ => true).map id)) = H2 at s2 ⊢; refine ⟨_, rfl, D, rfl, ⟨_, SqL.of (s2 _ _ q1)⟩, za6 (xs := vz) (fun _ => false) id (SqL.of (s2 _ _ q1)) (by omega) ?_ ?_ ?_⟩
    . intro v hv D3 ys R hD3 hR; obtain ⟨c, t, q, rfl, ht, nm, hq⟩ := hz v hv; have s3 := (s1.trans s2).trans (Same.upd (o := .lst ys) hD3); exact ⟨_, rfl, t, _, 2, _, rfl, rfl, Same.tup s3 ht, at2, q, _, 0, _, rfl, rfl, Same.tup s3 hq, at0, rfl, _, rfl, hR⟩
    . intro v hv hp; cases hp
    intro D3 hD3; have s3 : Same H2 (upd H2 D3 (.lst ((vz.filter fun _ => false).map id))) := Same.upd hD3; generalize upd H2 D3 (.lst ((vz.filter fun _ => false).map id)) = H3 at s3 ⊢; have s03 := (s1.trans s2).trans s3
    refine ⟨_, rfl, x, rfl, ⟨_, Same.tup s03 hX⟩, zik (K := K) (a := x) (xs := []) (fun i σ H4 => (∃ (v5 v7 v8 : Option V), σ = [some (.ref x), some (.ref l), some (.ref g), some (.ref D), some (.ref D2), v5, some (.ref D3), v7, v8]) /\ Same H H4)
      ⟨⟨none, none, none, rfl⟩, s03⟩ (fun i σ H4 _ ⟨_, m4⟩ => Same.tup m4 hX) ?_ ?_⟩
    . intro i y t σ H4 hi; cases hi
    . rintro σ H4 ⟨⟨v5, v7, v8, rfl⟩, m4⟩; exact k _ m4
def RunP (cs : List Cl) (gs : List Int) : Prop := gs.length <= cs.length /\ ∀ (i : Nat) (z : Int), gs[i]? = some z -> z ∈ zaG cs (gs.take i)
theorem RunP.nil (cs : List Cl) : RunP cs [] := ⟨Nat.zero_le _, fun i z h => by simp at h⟩
theorem RunP.snoc {cs : List Cl} {gs : List Int} {z : Int} (h : RunP cs gs) (hl : gs.length < cs.length) (hz : z ∈ zaG cs gs) : RunP cs (gs ++ [z]) := by
  refine ⟨by rw [List.length_append, List.length_singleton]; omega, fun i y hy => ?_⟩
  by_cases hi : i < gs.length
  . rw [List.getElem?_append_left hi] at hy; rw [List.take_append_of_le_length (by omega)]
    exact h.2 i y hy
  . have hi2 := (List.getElem?_eq_some_iff.mp hy).1; rw [List.length_append, List.length_singleton] at hi2; have e : i = gs.length := by omega
    subst e; rw [List.getElem?_concat_length] at hy; cases hy; rw [List.take_left']
    . exact hz
    . rfl
theorem zhH : ∀ (l m : List Int), l.Nodup -> (∀ x ∈ l, x ∈ m) -> l.length <= m.length
  | [], m, _, _ => Nat.zero_le _
  | a :: l, m, hn, h => by
    have hn' := List.nodup_cons.mp hn; obtain ⟨s, t, e⟩ := List.append_of_mem (h a (by simp))
    have := zhH l (s ++ t) hn'.2 fun x hx => by
      have hx' := h x (by simp [hx])
      rw [e] at hx'
      rcases List.mem_append.mp hx' with z | z
      . exact List.mem_append_left _ z
      . rcases List.mem_cons.mp z with z | z
        . exact absurd (z ▸ hx) hn'.1
        . exact List.mem_append_right _ z
    rw [e]; rw [List.length_append] at this ⊢; rw [List.length_cons, List.length_cons]; omega
theorem zjT (f : Int -> Int) : ∀ l : List Int, l ≠ [] -> ∃ j ∈ l, ∀ i ∈ l, f j <= f i
  | [], h => absurd rfl h
  | [a], _ => ⟨a, by simp, fun i hi => by rw [List.mem_singleton.mp hi]; exact Int.le_refl _⟩
  | a :: b :: l, _ => by
    obtain ⟨j, hj, h⟩ := zjT f (b :: l) (by simp)
    by_cases e : f a <= f j
    . refine ⟨a, by simp, fun i hi => ?_⟩
      rcases List.mem_cons.mp hi with rfl | hi
      . exact Int.le_refl _
      . exact Int.le_trans e (h i hi)
    . refine ⟨j, List.mem_cons_of_mem _ hj, fun i hi => ?_⟩
      rcases List.mem_cons.mp hi with rfl | hi
      . omega
      . exact h i hi
theorem zjI {cs : List Cl} {i : Int} (h0 : 0 <= i) (h1 : i < cs.length) : zcX cs i ∈ cs := by
  unfold zcX; rw [List.getD_eq_getElem?_getD, List.getElem?_eq_getElem (by omega)]
  exact List.getElem_mem _
theorem zkI {cs : List Cl} {gs : List Int} (hbe : ∀ c ∈ cs, c.b < c.e) (hl : gs.length < cs.length) : zaG cs gs ≠ [] := by
  have h1 : zaC cs.length gs ≠ [] := fun z => by
    have := zhH (zap 0 cs.length) gs (zg8 _) fun x hx => by
      refine Classical.byContradiction fun hc => ?_
      have : x ∈ zaC cs.length gs := by
        unfold zaC; rw [List.mem_filter, zeM]; refine ⟨hx, ?_⟩; rw [Bool.not_eq_true', List.any_eq_false]; intro g hg e; exact hc (by rw [<- eq_of_beq e]; exact hg)
      rw [z] at this; cases this
    have h2 : (zap 0 cs.length).length = cs.length := by simp [zap]
    omega
  obtain ⟨j, hj, h⟩ := zjT (eOf cs) _ h1; have hm := zdl hj; have hb := hbe _ (zjI hm.1 hm.2); intro z
  have : j ∈ zaG cs gs := by
    unfold zaG; rw [List.mem_filter, List.all_eq_true]; refine ⟨hj, fun i hi => decide_eq_true ?_⟩; have := h i hi; unfold bOf eOf at *; omega
  rw [z] at this; cases this
abbrev Th := List Int ⊕ Int
def hd0 (k : NK) : Nat := match k with
  | .inl a :: _ => a.length
  | _ => 0
def zgf (K : PySem.W.Frag) : Sp := fun vs H Q _ => ∃ (k : Str) (l : Addr) (xs : List V) (cs : List Cl), vs = [.str k, .ref l] /\ Kd k /\ SqL K H l xs /\ Calls K H xs cs /\ Lk cs ∧
  (k = "number" -> cs ≠ [] -> ∀ H', Same H H' -> Q .non H') ∧
  (∀ (H' : Hp) (g : Addr) (gs : List Int), Same H H' -> H' g = some (.lst (gs.map V.int)) -> RunP cs gs -> gs.length = cs.length -> (k = "row" \/ cs = []) -> Q (.ref g) H')
theorem SqT.updL {K : PySem.W.Frag} {H : Hp} {a g : Addr} {xs zs : List V} {o : HO} (hg : H g = some (.lst zs)) (h : SqT K H a xs) : SqT K (upd H g o) a xs := by
  rcases h with (h | ⟨ob, h⟩) | h
  . exact .inl (.inl (by rw [zah (zbx h hg (by intro q; cases q))]; exact h))
  . exact .inl (.inr ⟨ob, by rw [zah (zbx h hg (by intro q; cases q))]; exact h⟩)
  . exact .inr h
theorem Same.updN {H H2 : Hp} {D : Addr} {o : HO} (m : Same H H2) (h : H D = none) : Same H (upd H2 D o) := fun b ob e => by
  rw [zah (zaq e h)]; exact m b ob e
theorem Th0.mx {K : PySem.W.Frag} {H H' : Hp} {k : Str} {x y : V} (m : Mx H H') (h : Th0 K H k x y) : Th0 K H' k x y :=
  h.imp (fun ⟨h1, ⟨r0, h2, h3⟩, h4⟩ => ⟨h1, ⟨r0, h2, m.tup h3⟩, h4⟩) id
theorem Th0.el {K : PySem.W.Frag} {H : Hp} {k : Str} {x y : V} (h : Th0 K H k x y) : ∃ e : Th, elAt K H e x := by
  rcases h with ⟨_, ⟨r0, rfl, h⟩, _⟩ | ⟨_, i, rfl, _⟩
  . exact ⟨.inl [], r0, rfl, h⟩
  . exact ⟨.inr i, rfl⟩
structure SI (P : Program) (w : World) (K : PySem.W.Frag) (H : Hp) (kd : Str) (cs : List Cl) (x y : V) (wa sd : Addr) (H2 : Hp) (us : List V) (gs : List Int) (ks : List NK) : Prop where
  sm : Same H H2
  wai : ∃ t o, H2 wa = some (.lst (us ++ [.ref t])) /\ H2 t = some (.tup [.ref o, x]) /\ H2 o = some (.lst (gs.map V.int)) /\ o ≠ wa
  len : us.length <= 6 * gs.length
  one : kd = "number" -> us = [] /\ gs = []
  dic : NDict P w K H2 sd ks
  few : ks.length <= gs.length
  old : ∀ k ∈ ks, hd0 k < gs.length
  run : RunP cs gs
  th : Th0 K H2 kd x y
theorem zd3 (F : Fun K "search_order" "search_order" zbL f fd) (B : Bl mg) (T : Tp P w K mg st pt r b n) (g_can_come_out : FnX P w K mg base "can_come_out" 1 (zjD K)) (g_start : FnX P w K mg base "start" 2 (zcx r)) (g_ways_on : FnX P w K mg base "ways_on" 3 (zj1 K)) : FnOk P w K mg base CX0 5 f fd ["kind", "calls"] (zgf K) := by
  refine F.ok sc_search_order (fun vs H Q E h => ?_) (fun cdv A outer s H vs Q E hr h => ?_)
  . obtain ⟨k, l, xs, cs, rfl, _⟩ := h; rfl
  . obtain ⟨kd, l, xs, cs, rfl, hk, hS, hC, hLk, k0, k1⟩ := h; have hsz : sizeLine = 16777216 := sizeLine_eq; have hu := zgx hr; have hn : xs.length = cs.length := hC.len; have hfew := hC.few
    refine ⟨_, (zad (zao (i := 2) sc_search_order.nd rfl (by first | exact .inl rfl | exact .inr rfl) (zaF (zaa (zay (zaa (zaF zac) (zaa (zai g_start zaD hr rfl (zaa (pv 0) zac)) zac))) zac)))
    (zad (zao (i := 3) sc_search_order.nd rfl (by first | exact .inl rfl | exact .inr rfl) zgH (hs := by kernel_rfl))
    (zad (zeH PassesOwn.never (zct (pv 2) (fun _ => rfl))
    (zad (zao (i := 4) sc_search_order.nd rfl (by first | exact .inl rfl | exact .inr rfl) (zlh PySem.F.plainAttrs_list PySem.F.slot_list_pop PySem.F.type_list_pop zk9 (pv 2)))
    (zad (zao (i := 5) sc_search_order.nd rfl (by first | exact .inl rfl | exact .inr rfl) (zan zav (pv 4) zag (fun _ _ => rfl)))
    (zad (zao (i := 6) sc_search_order.nd rfl (by first | exact .inl rfl | exact .inr rfl) (zan zav (pv 4) zag (fun _ _ => rfl)))
    (zad (zaH (zar za7 (zaw zaK rfl B.len_ PySem.boot_len (zaa (pv 5) zac)) (zaw zaK rfl B.len_ PySem.boot_len (zaa (pv 1) zac)) (zat _))
    (zae (zam (pv 5))) zau)
    (zad (zao (i := 7) sc_search_order.nd rfl (by first | exact .inl rfl | exact .inr rfl) (zay (zaa (zaZ zeV rfl B.tuple_ PyProof.Rows.boot_tuple (zaa (zaw zdp rfl B.sorted_ PyProof.Rows.boot_sorted (zaa (pv 5) zac)) zac)) (zaa (pv 6) zac))))
    (zad (zaH (zar (zlo hu) (pv 7) (pv 3) rfl)
    (zae zgs) zau)
    (zad (ziT zba (zj0 (pv 3) (pv 7) (zlg hu)))
    (zae (zaH (PW.pt (zi3 (zar zcI (pv 0) zaj (zat _)) (zhr (zcj (zai g_can_come_out zaD hr rfl (zaa (pv 6) (zaa (pv 1) (zaa (pv 5) zac))))))))
    (zae (zas (zcg PySem.F.plainAttrs_list PySem.F.slot_list_extend PySem.F.type_list_extend zdP (pv 2) (zaa (zai g_ways_on zaD hr rfl (zaa (pv 0) (zaa (pv 1) (zaa (pv 5) (zaa (pv 6) zac))))) zac)))) zau))))))))))
    (zae (zam zbp))))), ?_⟩
    refine ⟨Nat.le_of_ble_eq_true rfl, fun e he => ?_⟩; have s1 : Same H (upd H e (.lst [])) := Same.upd he; have q1 : (upd H e (.lst [])) e = some (.lst []) := zab; generalize upd H e (.lst []) = H1 at s1 q1 ⊢; refine ⟨_, rfl, ?_⟩; dsimp only [zjc, List.append_nil, List.cons_append, List.nil_append]; refine zex T hk fun x y hx => ?_; refine ⟨Nat.le_of_ble_eq_true rfl, fun p hp => ?_⟩; have s2 : Same H1 (upd H1 p (.tup [.ref e, x])) := Same.upd hp; have q2 : (upd H1 p (.tup [.ref e, x])) p = some (.tup [.ref e, x]) := zab; generalize upd H1 p (.tup [.ref e, x]) = H2 at s2 q2 ⊢; refine ⟨Nat.le_of_ble_eq_true rfl, fun wa hwa => ?_⟩; have s3 : Same H2 (upd H2 wa (.lst [.ref p])) := Same.upd hwa; have q3 : (upd H2 wa (.lst [.ref p])) wa = some (.lst [.ref p]) := zab; have newa : e ≠ wa := zaq (s2 _ _ q1) hwa; generalize upd H2 wa (.lst [.ref p]) = H3 at s3 q3 ⊢; have nwa : H wa = none := zbs (s1.trans s2) hwa; refine fun sd H4 hsd s4 hN4 => ?_; have nsd : H sd = none := zbs ((s1.trans s2).trans s3) hsd; have s04 := ((s1.trans s2).trans s3).trans s4; have si0 : SI P w K H kd cs x y wa sd H4 [] [] [] := ⟨s04, ⟨p, e, s4 _ _ q3, s4 _ _ (s3 _ _ q2), s4 _ _ (s3 _ _ (s2 _ _ q1)), newa⟩, Nat.le_refl _, fun _ => ⟨rfl, rfl⟩, hN4, Nat.le_refl _, (fun k hk => by cases hk), RunP.nil cs, hx.keep ((s2.trans s3).trans s4)⟩
    refine ⟨fun m σ' H6 => ∃ (v4 v5 v6 v7 : Option V), σ' = [some (.str kd), some (.ref l), some (.ref wa), some (.ref sd), v4, v5, v6, v7] /\ ((∃ us gs ks, m = cs.length - gs.length + 1 /\ SI P w K H kd cs x y wa sd H6 us gs ks) \/ (m = 0 /\ kd = "number" /\ cs ≠ [] /\ Same H H6 /\ H6 wa = some (.lst []))),
      ⟨_, none, none, none, none, rfl, .inl ⟨_, _, _, rfl, si0⟩⟩, ?_⟩
    rintro m σ' H6 ⟨v4, v5, v6, v7, rfl, ⟨us, gs, ks, rfl, si⟩ | ⟨rfl, hnum, hcs, s6, w6⟩⟩
    case inr =>
      refine ⟨_, rfl, _, .inl ⟨_, SqL.of w6, rfl⟩, za4 ?_⟩; exact k0 hnum hcs _ s6
    obtain ⟨t, o, w6, t6, o6, now⟩ := si.wai; refine ⟨_, rfl, _, .inl ⟨_, SqL.of w6, rfl⟩, ?_⟩
    refine zdE (by cases us <;> rfl) ⟨fun σ' H7 => ∃ (v4 v5 v6 v7 : Option V), σ' = [some (.str kd), some (.ref l), some (.ref wa), some (.ref sd), v4, v5, v6, v7] /\ ((∃ us2 gs2 ks2, cs.length - gs2.length + 1 < cs.length - gs.length + 1 /\ SI P w K H kd cs x y wa sd H7 us2 gs2 ks2) \/ (kd = "number" /\ cs ≠ [] /\ Same H H7 /\ H7 wa = some (.lst []))),
      fun σ' H7 ⟨v4, v5, v6, v7, e, h⟩ => ?_, ?_⟩
    . rcases h with ⟨us2, gs2, ks2, hlt, h⟩ | h
      . exact ⟨_, hlt, v4, v5, v6, v7, e, .inl ⟨us2, gs2, ks2, rfl, h⟩⟩
      . exact ⟨0, by omega, v4, v5, v6, v7, e, .inr ⟨rfl, h⟩⟩
    refine ⟨_, rfl, .inl ⟨rfl, _, SqL.of w6⟩, wa, us ++ [.ref t], .ref t, rfl, rfl, w6, by simp, ?_⟩
    rw [List.dropLast_concat]; have sm7 : Same H (upd H6 wa (.lst us)) := Same.updN si.sm nwa; have dic7 : NDict P w K (upd H6 wa (.lst us)) sd ks := si.dic.updL w6; have wai7 : (upd H6 wa (.lst us)) wa = some (.lst us) := zab; have t7 : (upd H6 wa (.lst us)) t = some (.tup [.ref o, x]) := by rw [zah (zbx t6 w6 fun z => by cases z)]; exact t6
    have o7 : (upd H6 wa (.lst us)) o = some (.lst (gs.map V.int)) := by rw [zah now]; exact o6
    have th7 : Th0 K (upd H6 wa (.lst us)) kd x y := si.th.imp (fun ⟨h1, ⟨r0, h2, h3⟩, h4⟩ => ⟨h1, ⟨r0, h2, SqT.updL w6 h3⟩, h4⟩) id; generalize upd H6 wa (.lst us) = H7 at sm7 dic7 wai7 t7 o7 th7 ⊢; have hgl := si.run.1; refine ⟨_, rfl, t, _, 0, _, rfl, rfl, SqT.of t7, at0, ?_⟩; refine ⟨_, rfl, t, _, 1, _, rfl, rfl, SqT.of t7, at1, ?_⟩; refine ⟨_, rfl, o, _, rfl, .inl (SqL.of o7), _, rfl, l, xs, rfl, .inl (sm7.seq hS), rfl, _, rfl, ?_⟩; rw [zbG, List.length_map]
    by_cases hfull : gs.length = cs.length
    . refine zdE (by simp; omega) ⟨_, rfl, k1 _ o gs sm7 o7 si.run hfull ?_⟩
      rcases hk with h | h
      . exact .inl h
      . right
        rw [(si.one h).2] at hfull; exact List.length_eq_zero_iff.mp hfull.symm
    refine zeN (by simp; omega) ?_
    have hlt : gs.length < cs.length := by omega
    refine ⟨_, rfl, o, gs, rfl, SqL.of o7, by omega, fun p3 ns hp3 hpm hsr => ?_⟩
    have hnsl : ns.length = gs.length := hpm.length_eq; have a3 := Same.upd (o := .lst (ns.map V.int)) hp3; have r3 := zab (H := H7) (a := p3) (o := .lst (ns.map V.int)); generalize upd H7 p3 (.lst (ns.map V.int)) = H8 at a3 r3 ⊢; refine ⟨p3, _, rfl, .inl ⟨SqL.of r3, fun p4 hp4 => ?_⟩⟩; have a4 := Same.upd (o := .tup (ns.map V.int)) hp4; have r4 := zab (H := H8) (a := p4) (o := .tup (ns.map V.int)); generalize upd H8 p4 (.tup (ns.map V.int)) = H9 at a4 r4 ⊢; refine ⟨_, rfl, Nat.le_of_ble_eq_true rfl, fun p5 hp5 => ?_⟩; have a5 := Same.upd (o := .tup [.ref p4, x]) hp5; have r5 := zab (H := H9) (a := p5) (o := .tup [.ref p4, x]); generalize upd H9 p5 (.tup [.ref p4, x]) = H10 at a5 r5 ⊢; have a35 := (a3.trans a4).trans a5; have thX := th7.keep a35; obtain ⟨el, hel⟩ := thX.el; have hkey : KeyAt K H10 [.inl ns, el] p5 := ⟨_, SqT.of r5, .cons ⟨p4, rfl, SqT.of (a5 _ _ r4)⟩ (.cons hel .nil)⟩; have smX := sm7.trans a35; have dicX := dic7.keep a35; have waiX := a35 _ _ wai7; have oX := a35 _ _ o7; refine ⟨_, rfl, _, rfl, p5, sd, _, ks, rfl, rfl, hkey, dicX, _, rfl, ?_⟩
    have hin : zew ks [.inl ns, el] = false := by
      unfold zew; rw [List.any_eq_false]; intro k hk e; have h1 := si.old k hk; rw [of_decide_eq_true e] at h1; have h2 : hd0 [.inl ns, el] = ns.length := rfl; omega
    rw [hin]; refine za4 ?_; refine ⟨_, rfl, _, rfl, sd, p5, _, ks, rfl, rfl, hkey, dicX, by have := si.few; omega, fun φ hN => ?_⟩
    have hN' : NDict P w K (upd H10 sd (.ext φ)) sd (ks ++ [[.inl ns, el]]) := by
      have e : (if zew ks [.inl ns, el] = true then ks else ks ++ [[.inl ns, el]]) = ks ++ [[.inl ns, el]] := by rw [hin]; rfl
      rw [<- e]; exact hN
    have mx : Mx H10 (upd H10 sd (.ext φ)) := let ⟨_, h1, _⟩ := dicX; Mx.updE h1; have smY : Same H (upd H10 sd (.ext φ)) := Same.updN smX nsd; have waiY := mx.lst waiX; have oY := mx.lst oX; have thY := thX.mx mx; generalize upd H10 sd (.ext φ) = H11 at hN' mx smY waiY oY thY ⊢
    have ext : ∀ H12, Same H11 H12 -> ∀ (Qn : St -> Hp -> Prop) (σ5 : St), (∀ H', ((∃ us2 gs2 ks2, cs.length - gs2.length + 1 < cs.length - gs.length + 1 /\ SI P w K H kd cs x y wa sd H' us2 gs2 ks2) \/ (kd = "number" /\ cs ≠ [] /\ Same H H' /\ H' wa = some (.lst []))) -> Qn σ5 H') →
        ∀ (D : Addr) (ms : List V) (H13 : Hp), Same H12 H13 -> H13 D = some (.lst ms) -> ms.length <= 6 -> ((y ≠ .non /\ ms = []) \/ (y = .non /\ (zaG cs gs ≠ [] -> zjA H12 H13 x gs (zaG cs gs) ms))) -> us.length + ms.length <= sizeLine /\ H13 wa = some (.lst us) /\ Qn σ5 (upd H13 wa (.lst (us ++ ms))) := by
      intro H12 m12 Qn σ5 hQ D ms H13 s13 hD hml hR; have wai12 := m12 _ _ waiY; have wai13 := s13 _ _ wai12; have hul := si.len; refine ⟨by omega, wai13, hQ _ ?_⟩
      have smZ := Same.updN (o := .lst (us ++ ms)) ((smY.trans m12).trans s13) nwa
      rcases hR with ⟨hy, rfl⟩ | ⟨hy, hR⟩
      . right
        have hnum : kd = "number" := by
          rcases si.th with ⟨_, _, h⟩ | ⟨h, _⟩
          . exact absurd h hy
          . exact h
        refine ⟨hnum, fun z => ?_, smZ, ?_⟩
        . rw [z] at hlt; exact absurd hlt (Nat.not_lt_zero _)
        . rw [(si.one hnum).1]; exact zab
      . left
        obtain ⟨ms0, t', o', z, rfl, ht', ho', hz, hno⟩ := hR (zkI (fun c hc => (hLk c hc).1) hlt); have now' : o' ≠ wa := fun e => by rw [e, wai12] at hno; cases hno
        refine ⟨us ++ ms0, gs ++ [z], ks ++ [[.inl ns, el]], by rw [List.length_append, List.length_singleton]; omega, smZ, ⟨t', o', ?_, ?_, ?_, now'⟩, ?_, ?_, ?_, ?_, ?_, si.run.snoc hlt hz, ?_⟩
        . rw [zab, List.append_assoc]
        . rw [zah (zbx ht' wai13 fun z => by cases z)]; exact ht'
        . rw [zah now']; exact ho'
        . rw [List.length_append] at hml; rw [List.length_append, List.length_append, List.length_singleton]; omega
        . intro h
          rcases si.th with ⟨h', _⟩ | ⟨_, i, _, h'⟩
          . rw [h'] at h; exact absurd h (by decide)
          . rw [hy] at h'; cases h'
        . exact ((hN'.keep m12).keep s13).updL wai13
        . rw [List.length_append, List.length_append, List.length_singleton, List.length_singleton]; have := si.few; omega
        . intro k hk'; rw [List.length_append, List.length_singleton]
          rcases List.mem_append.mp hk' with h | h
          . have := si.old k h; omega
          . rw [List.mem_singleton.mp h]; show ns.length < _; omega
        . exact ((thY.keep m12).keep s13).imp (fun ⟨h1, ⟨r0, h2, h3⟩, h4⟩ => ⟨h1, ⟨r0, h2, SqT.updL wai13 h3⟩, h4⟩) id
    rcases id thY with ⟨hrow, ⟨r0, rfl, hr0⟩, hyn⟩ | ⟨hnum, i, rfl, hyn⟩
    . subst hrow; refine ⟨_, rfl, rfl, _, rfl, za4 ?_⟩; refine ⟨_, rfl, _, rfl, _, rfl, r0, l, o, xs, cs, gs, rfl, hr0, smY.seq hS, hC.keep smY, hLk, SqL.of oY, fun H12 m12 => ⟨_, rfl, zbW ?_⟩⟩; refine ⟨_, rfl, .inl ⟨rfl, _, SqL.of (m12 _ _ waiY)⟩, _, rfl, _, rfl, _, rfl, _, rfl, "row", l, o, .ref r0, y, xs, cs, gs, rfl, (smY.trans m12).seq hS, hC.keep (smY.trans m12), hLk, m12 _ _ oY, by omega, thY.keep m12, fun D ms H13 s13 hD hml hR => ?_⟩
      exact ⟨wa, D, us, ms, rfl, rfl, s13 _ _ (m12 _ _ waiY), hD, (ext H12 m12 (fun _ _ => True) [] (fun _ _ => trivial) D ms H13 s13 hD hml hR).1, (ext H12 m12 _ _ (fun H' h => ⟨_, _, _, _, rfl, h⟩) D ms H13 s13 hD hml hR).2.2⟩
    . subst hnum; refine ⟨_, rfl, rfl, _, rfl, zbW (zbW ?_)⟩; refine ⟨_, rfl, .inl ⟨rfl, _, SqL.of waiY⟩, _, rfl, _, rfl, _, rfl, _, rfl, "number", l, o, .int i, y, xs, cs, gs, rfl, smY.seq hS, hC.keep smY, hLk, oY, by omega, thY, fun D ms H13 s13 hD hml hR => ?_⟩
      exact ⟨wa, D, us, ms, rfl, rfl, s13 _ _ waiY, hD, (ext H11 (Same.refl _) (fun _ _ => True) [] (fun _ _ => trivial) D ms H13 s13 hD hml hR).1, (ext H11 (Same.refl _) _ _ (fun H' h => ⟨_, _, _, _, rfl, h⟩) D ms H13 s13 hD hml hR).2.2⟩
def zgK (P : Program) (w : World) (K : PySem.W.Frag) : Sp := fun vs H Q _ => ∃ (ct q d : Addr) (c : Cl) (o : Obj) (i : Int) (tr : V), vs = [.str "number", .ref ct, .ref d] /\ SqT K H ct [.int c.b, .int c.e, .ref q, .non] /\ Look2 K H q /\ SDict P w K H d o [(.inr i, .int i, tr)] ∧
  ∀ (H' : Hp) (D : Addr) (o' : Obj), Same H H' -> SDict P w K H' D o' [] -> Q (.ref D) H'
theorem zdO (F : Fun K "things_behind" "things_behind" zbA f fd) (B : Bl mg) (g_do_deed : FnX P w K mg base "do_deed" 2 (zkG K)) : FnOk P w K mg base CX0 3 f fd ["kind", "call", "things"] (zgK P w K) := by
  refine F.ok sc_things_behind (fun vs H Q E h => ?_) (fun cdv A outer s H vs Q E hr h => ?_)
  . obtain ⟨ct, q, d, c, o, i, tr, rfl, _⟩ := h; rfl
  . obtain ⟨ct, cq, d, c, o, n0, tr, rfl, hct, hcq, hD, k⟩ := h; have hu := zgx hr
    refine ⟨_, (zad (zao (i := 3) sc_things_behind.nd rfl (by first | exact .inl rfl | exact .inr rfl) zf2 (hs := by kernel_rfl))
    (zad (zaT PassesOwn.never rfl (zhT (pv 2)) (zaz (i := 4) sc_things_behind.nd rfl (by first | exact .inl rfl | exact .inr rfl))
    (zad (zao (i := 5) sc_things_behind.nd rfl (by first | exact .inl rfl | exact .inr rfl) (zai g_do_deed zaD hr rfl (zaa (pv 0) (zaa (pv 4) (zaa (zan zav (pv 1) zag (fun _ _ => rfl)) zac)))))
    (zae (zaH (zar za7 (zan zav (pv 5) zag (fun _ _ => rfl)) (zan zav (pv 1) zag (fun _ _ => rfl)) (zat _))
    (zae (ziT zba (zj0 (pv 3) (zan zav (pv 5) zag (fun _ _ => rfl)) (zlz hu)))) zau))))
    (zae (zam (pv 3))))), ?_⟩
    refine fun b ob hb Db => ?_; have s1 : Same H (upd H b (.ext (zaM b ob))) := Same.upd hb; generalize upd H b (.ext (zaM b ob)) = H1 at s1 Db ⊢
    refine ⟨_, rfl, d, o, _, rfl, hD.keep s1, zfH (kvs := [(.inr n0, .int n0, tr)]) (fun i σ H2 => ∃ v4 v5, σ = [some (.str "number"), some (.ref ct), some (.ref d), some (.ref b), v4, v5] /\ Same H H2 /\ SDict P w K H2 b ob [])
      ⟨none, none, rfl, s1, Db⟩ (fun i σ H2 _ ⟨_, _, _, s2, _⟩ => hD.keep s2) ?_ ?_⟩
    . rintro i p σ H2 hi ⟨v4, v5, rfl, s2, Db2⟩; have hp : p = (.inr n0, .int n0, tr) := List.mem_singleton.mp (List.mem_of_getElem? hi); subst hp; refine ⟨_, rfl, _, rfl, _, rfl, ct, _, 2, _, rfl, rfl, Same.tup s2 hct, at2, "number", .int n0, .int n0, cq, rfl, .inr ⟨rfl, n0, rfl, rfl⟩, hcq.keep s2, fun p hp => ?_⟩; have s3 : Same H2 (upd H2 p (.tup [.int n0, .int n0])) := Same.upd hp; have q3 : (upd H2 p (.tup [.int n0, .int n0])) p = some (.tup [.int n0, .int n0]) := zab; generalize upd H2 p (.tup [.int n0, .int n0]) = H3 at s3 q3 ⊢; have s23 := s2.trans s3; refine ⟨_, rfl, p, _, 1, _, rfl, rfl, SqT.of q3, at1, _, rfl, ct, _, 3, _, rfl, rfl, Same.tup s23 hct, at3, rfl, _, rfl, ?_⟩; exact zeN (fun z => nomatch of_decide_eq_true z) ⟨_, _, rfl, s23, Db2.keep s3⟩
    . rintro σ H2 ⟨v4, v5, rfl, s2, h⟩; exact ⟨_, rfl, k H2 b ob s2 h⟩
def Lev1 (P : Program) (w : World) (K : PySem.W.Frag) (H : Hp) (d : Addr) : Prop := ∃ (o o2 : Obj) (ga td : Addr) (i : Int), SDict P w K H d o [(.inl [], .ref ga, .ref td)] /\ SDict P w K H td o2 [(.inr i, .int i, .bl true)]
theorem Lev1.keep {P : Program} {w : World} {K : PySem.W.Frag} {H H' : Hp} {d : Addr} (s : Same H H') (h : Lev1 P w K H d) : Lev1 P w K H' d := let ⟨o, o2, ga, td, i, h1, h2⟩ := h; ⟨o, o2, ga, td, i, h1.keep s, h2.keep s⟩
theorem Lev1.updL {P : Program} {w : World} {K : PySem.W.Frag} {H : Hp} {d a : Addr} {zs : List V} {u : HO} (ha : H a = some (.lst zs)) (h : Lev1 P w K H d) : Lev1 P w K (upd H a u) d := let ⟨o, o2, ga, td, i, h1, h2⟩ := h; ⟨o, o2, ga, td, i, h1.updL ha, h2.updL ha⟩
def zi9 (P : Program) (w : World) (K : PySem.W.Frag) : Sp := fun vs H Q _ => ∃ (l d : Addr) (xs : List V) (cs : List Cl), vs = [.str "number", .ref l, .ref d] /\ SqL K H l xs /\ Calls K H xs cs /\ Lk cs /\ Lev1 P w K H d ∧
  ∀ (H' : Hp) (D : Addr) (o' : Obj), Same H H' -> H D = none -> SDict P w K H' D o' [] -> Q (.ref D) H'
theorem ze4 (F : Fun K "next_level" "next_level" zcd f fd) (B : Bl mg) (g_free_calls : FnX P w K mg base "free_calls" 2 (zfX K)) (g_things_behind : FnX P w K mg base "things_behind" 3 (zgK P w K)) : FnOk P w K mg base CX0 4 f fd ["kind", "calls", "level"] (zi9 P w K) := by
  refine F.ok sc_next_level (fun vs H Q E h => ?_) (fun cdv A outer s H vs Q E hr h => ?_)
  . obtain ⟨l, d, xs, cs, rfl, _⟩ := h; rfl
  . obtain ⟨l, d, xs, cs, rfl, hS, hC, hLk, hL, k⟩ := h; have hu := zgx hr; have hsz : sizeLine = 16777216 := sizeLine_eq; obtain ⟨o, o2, ga, td, n0, hD, hD2⟩ := hL
    have hga : SqT K H ga (([] : List Int).map V.int) := by
      obtain ⟨t, e, h⟩ := hD.2.2.2.2.1 (.inl [], .ref ga, .ref td) (by simp)
      cases e; exact h
    refine ⟨_, (zad (zao (i := 3) sc_next_level.nd rfl (by first | exact .inl rfl | exact .inr rfl) zf2 (hs := by kernel_rfl))
    (zad (zaT PassesOwn.never rfl (zhT (pv 2)) (zaz (i := 4) sc_next_level.nd rfl (by first | exact .inl rfl | exact .inr rfl))
    (zae (zaT PassesOwn.never rfl (zax (zai g_free_calls zaD hr rfl (zaa (pv 1) (zaa (pv 4) zac)))) (zaz (i := 5) sc_next_level.nd rfl (by first | exact .inl rfl | exact .inr rfl))
    (zad (zao (i := 6) sc_next_level.nd rfl (by first | exact .inl rfl | exact .inr rfl) (zai g_things_behind zaD hr rfl (zaa (pv 0) (zaa (zan zbc (pv 1) (pv 5) (fun _ _ => rfl)) (zaa (zgk hu (pv 2) (pv 4) (fun _ _ => rfl)) zac)))))
    (zae (zaH (zkW (pv 6) (fun _ => rfl))
    (zae zb0) zau))))))
    (zae (zam (pv 3))))), ?_⟩
    refine fun fo ofo hfo Dfo => ?_; have s1 : Same H (upd H fo (.ext (zaM fo ofo))) := Same.upd hfo; generalize upd H fo (.ext (zaM fo ofo)) = H1 at s1 Dfo ⊢
    refine ⟨_, rfl, d, o, _, rfl, hD.keep s1, zfH (kvs := [(.inl [], .ref ga, .ref td)]) (fun i σ H2 => ∃ v4 v5 v6, σ = [some (.str "number"), some (.ref l), some (.ref d), some (.ref fo), v4, v5, v6] /\ Same H H2 /\ SDict P w K H2 fo ofo [])
      ⟨none, none, none, rfl, s1, Dfo⟩ (fun i σ H2 _ ⟨_, _, _, _, s2, _⟩ => hD.keep s2) ?_ ?_⟩
    . rintro i p σ H2 hi ⟨v4, v5, v6, rfl, s2, Df2⟩; have hp : p = (.inl [], .ref ga, .ref td) := List.mem_singleton.mp (List.mem_of_getElem? hi); subst hp; refine ⟨_, rfl, _, rfl, l, ga, xs, cs, [], rfl, s2.seq hS, hC.keep s2, fun c hc => (hLk c hc).1, .inr (Same.tup s2 hga), fun Dg H3 s3 hDg => ?_⟩; have s23 := s2.trans s3
      refine ⟨Dg, rfl, ⟨_, SqL.of hDg⟩, zaV (K := K) (a := Dg) (xs := (zaG cs []).map V.int) (fun j σ H4 => ∃ v5 v6, σ = [some (.str "number"), some (.ref l), some (.ref d), some (.ref fo), some (.ref ga), v5, v6] /\ Same H H4 /\ H4 Dg = some (.lst ((zaG cs []).map V.int)) /\ SDict P w K H4 fo ofo [])
        ⟨v5, v6, rfl, s23, hDg, Df2.keep s3⟩ (fun j σ H4 _ ⟨_, _, _, _, h, _⟩ => SqL.of h) ?_ ?_⟩
      . rintro j y σ H4 hj ⟨v5, v6, rfl, s4, g4, D4⟩; rw [List.getElem?_map] at hj; obtain ⟨z, hz, rfl⟩ := Option.map_eq_some_iff.mp hj; have hzz := zfw (List.mem_of_getElem? hz); obtain ⟨tt, qd, hu', ht, hqd⟩ := hLk.look (hC.keep s4) hzz.1 hzz.2; refine ⟨_, rfl, _, rfl, _, rfl, l, _, _, _, rfl, rfl, s4.seq hS, hu', _, rfl, _, rfl, d, o, .inl [], _, _, rfl, ⟨ga, rfl, Same.tup s4 hga⟩, hD.keep s4, tt, qd, td, zcX cs z, o2, n0, _, rfl, ht, hqd, hD2.keep s4, fun H5 D5 o5 s5 hD5 => ?_⟩; exact ⟨_, rfl, D5, o5, _, rfl, hD5, za4 ⟨_, _, rfl, s4.trans s5, s5 _ _ g4, D4.keep s5⟩⟩
      . rintro σ H4 ⟨v5, v6, rfl, s4, g4, D4⟩; exact ⟨_, _, _, rfl, s4, D4⟩
    . rintro σ H2 ⟨v4, v5, v6, rfl, s2, h⟩; exact ⟨_, rfl, k H2 fo ofo s2 hfo h⟩
def ziQ (K : PySem.W.Frag) : Sp := fun vs H Q _ => ∃ (l : Addr) (xs : List V) (cs : List Cl), vs = [.str "number", .ref l] /\ SqL K H l xs /\ Calls K H xs cs /\ Lk cs ∧
  ∀ (H' : Hp) (D tp g1 : Addr) (i : Int), Same H H' -> H' D = some (.lst [.ref tp]) -> H' tp = some (.tup [.ref g1, .int i]) -> H' g1 = some (.lst []) -> Q (.ref D) H'
theorem zfZ (F : Fun K "dead_ends" "dead_ends" zbS f fd) (B : Bl mg) (T : Tp P w K mg st pt r b n) (g_next_level : FnX P w K mg base "next_level" 4 (zi9 P w K)) (g_start : FnX P w K mg base "start" 2 (zcx r)) : FnOk P w K mg base CX0 5 f fd ["kind", "calls"] (ziQ K) := by
  refine F.okS sc_dead_ends (fun vs H Q E h => ?_) (fun cdv A outer s H vs Q E hr h => ?_)
  . obtain ⟨l, xs, cs, rfl, _⟩ := h; rfl
  . obtain ⟨l, xs, cs, rfl, hS, hC, hLk, k⟩ := h; have hu := zgx hr; have hsz : sizeLine = 16777216 := sizeLine_eq
    refine ⟨_, (zdr (zl5 (i := 2) sc_dead_ends.nd rfl (by first | exact .inl rfl | exact .inr rfl) hu (zay zac) (zai g_start zaD hr rfl (zaa (pv 0) zac)) zba)
    (zdr (S1.mk (zeH PassesOwn.never (zkW (zan zbc (pv 2) (zjF zg1 zag) (fun _ _ => rfl)) (fun _ => rfl))
    (zae (zas (zcg PySem.F.plainAttrs_list PySem.F.slot_list_append PySem.F.type_list_append zbo (pv 2) (zaa (zai g_next_level zaD hr rfl (zaa (pv 0) (zaa (pv 1) (zaa (zan zbc (pv 2) (zjF zg1 zag) (fun _ _ => rfl)) zac)))) zac))))))
    (zdr (S1.mk (zao (i := 3) sc_dead_ends.nd rfl (by first | exact .inl rfl | exact .inr rfl) (zaF zac)))
    (zdr (S1.mk (zaT PassesOwn.never rfl (zmb rfl B.reversed_ (zaa (pv 2) zac)) (zaz (i := 4) sc_dead_ends.nd rfl (by first | exact .inl rfl | exact .inr rfl))
    (zae (zaT PassesOwn.never rfl (zhT (pv 4)) (zaz (i := 5) sc_dead_ends.nd rfl (by first | exact .inl rfl | exact .inr rfl))
    (zae (zas (zcg PySem.F.plainAttrs_list PySem.F.slot_list_extend PySem.F.type_list_extend zdP (pv 3) (zaa (zco (zbj (sc := zaf zbS) (N0 := zdd) (ns := ["gone"]) (idx := [5]) (by decide +kernel)) rfl (zhT (zgk hu (pv 4) (pv 5) (fun _ _ => rfl))) (fun _ _ _ _ => zbu) (fun _ _ _ _ => (zay (zaa (zaZ (zcJ K) rfl B.list_ PyProof.Rows.boot_list (zaa (pv 1) zac)) (zaa (pv 0) zac))))) zac))))))))
    (zkD (S1.mk (zam (pv 3)))))))), ?_⟩
    refine fun p1 o1 hp1 D1 => ?_; have s1 : Same H (upd H p1 (.ext (zaM p1 o1))) := Same.upd hp1; generalize upd H p1 (.ext (zaM p1 o1)) = H1 at s1 D1 ⊢; refine ⟨Nat.le_of_ble_eq_true rfl, fun e he => ?_⟩; have s2 : Same H1 (upd H1 e (.tup [])) := Same.upd he; have q2 : (upd H1 e (.tup [])) e = some (.tup []) := zab; generalize upd H1 e (.tup []) = H2 at s2 q2 ⊢; refine fun p2 o2 hp2 D2 => ?_; have s3 : Same H2 (upd H2 p2 (.ext (zaM p2 o2))) := Same.upd hp2
    have n12 : p1 ≠ p2 := fun z => by
      have h1 := (D1.keep s2).1; rw [z, hp2] at h1; cases h1
    have np2 : H p2 = none := zbs (s1.trans s2) hp2; generalize upd H2 p2 (.ext (zaM p2 o2)) = H3 at s3 D2 ⊢; refine ⟨_, rfl, ?_⟩; dsimp only [zjc, List.append_nil, List.cons_append, List.nil_append]; refine zex T (.inr rfl) fun x0 y0 hx0 => ?_
    obtain ⟨n0, rfl⟩ : ∃ n0 : Int, x0 = .int n0 := by
      rcases hx0 with ⟨h, _⟩ | ⟨_, i, h, _⟩
      . exact absurd h (by decide)
      . exact ⟨i, h⟩
    refine ⟨D2, .inr n0, rfl, fun o2' D2' => ?_⟩; have D13 : SDict P w K (upd H3 p2 (.ext (zaM p2 o2'))) p1 o1 [] := ((D1.keep s2).keep s3).updN D2.1 n12 (fun _ z => by cases z) fun _ _ z => by cases z
    have q3 : (upd H3 p2 (.ext (zaM p2 o2'))) e = some (.tup []) := by
      have h1 := s3 _ _ q2; rw [zah (zbx h1 D2.1 fun z => by cases z)]
      exact h1
    have s4 : Same H (upd H3 p2 (.ext (zaM p2 o2'))) := fun a oa h => by
      rw [zah (zaq h np2)]; exact s3 _ _ (s2 _ _ (s1 _ _ h))
    generalize upd H3 p2 (.ext (zaM p2 o2')) = H4 at D2' D13 q3 s4 ⊢; refine ⟨D13, .inl [], ⟨e, rfl, SqT.of q3⟩, fun o1' D1' => ?_⟩; have D25 : SDict P w K (upd H4 p1 (.ext (zaM p1 o1'))) p2 o2' [(.inr n0, .int n0, .bl true)] := D2'.updN D13.1 (Ne.symm n12) (fun _ z => by cases z) fun _ _ z => by cases z
    have s5 : Same H (upd H4 p1 (.ext (zaM p1 o1'))) := fun a oa h => by
      rw [zah (zaq h hp1)]; exact s4 _ _ h
    generalize upd H4 p1 (.ext (zaM p1 o1')) = H5 at D1' D25 s5 ⊢; refine ⟨Nat.le_of_ble_eq_true rfl, fun lv hlv => ?_⟩; have s6 : Same H5 (upd H5 lv (.lst [.ref p1])) := Same.upd hlv; have q6 : (upd H5 lv (.lst [.ref p1])) lv = some (.lst [.ref p1]) := zab; have nlv : H lv = none := zbs s5 hlv; generalize upd H5 lv (.lst [.ref p1]) = H6 at s6 q6 ⊢; have lev0 : Lev1 P w K H6 p1 := ⟨o1', o2', e, p2, n0, D1'.keep s6, D25.keep s6⟩
    refine ⟨fun m σ' H7 => σ' = [some (.str "number"), some (.ref l), some (.ref lv), none, none, none] /\ Same H H7 /\ Lev1 P w K H7 p1 ∧
      ((m = 1 /\ H7 lv = some (.lst [.ref p1])) \/ (m = 0 /\ ∃ p9 o9, H7 lv = some (.lst [.ref p1, .ref p9]) /\ SDict P w K H7 p9 o9 [])),
      ⟨1, rfl, s5.trans s6, lev0, .inl ⟨rfl, q6⟩⟩, ?_⟩
    rintro m σ' H7 ⟨rfl, s7, l7, ⟨rfl, q7⟩ | ⟨rfl, p9, o9, q7, D9⟩⟩
    . -- the first level
      obtain ⟨o, o2, ga, td, n7, hD, hD2⟩ := id l7; refine ⟨_, rfl, _, rfl, lv, [.ref p1], -1, .ref p1, rfl, rfl, SqL.of q7, rfl, p1, o, _, rfl, hD, zbW ⟨fun σ' H8 => σ' = [some (.str "number"), some (.ref l), some (.ref lv), none, none, none] /\ Same H H8 /\ Lev1 P w K H8 p1 /\ ∃ p9 o9, H8 lv = some (.lst [.ref p1, .ref p9]) /\ SDict P w K H8 p9 o9 [], fun σ' H8 ⟨h1, h2, h3, h4⟩ => ⟨0, Nat.zero_lt_one, h1, h2, h3, .inr ⟨rfl, h4⟩⟩, ?_⟩⟩; refine ⟨_, rfl, .inl ⟨rfl, _, SqL.of q7⟩, _, rfl, _, rfl, _, rfl, _, rfl, lv, [.ref p1], -1, .ref p1, rfl, rfl, SqL.of q7, rfl, l, p1, xs, cs, rfl, s7.seq hS, hC.keep s7, hLk, l7, fun H8 D8 o8 s8 nD8 hL8 => ?_⟩; have q8 := s8 _ _ q7; refine ⟨lv, [.ref p1], _, rfl, rfl, q8, by show 1 + 1 <= _; omega, rfl, ?_, (l7.keep s8).updL q8, D8, o8, zab, hL8.updL q8⟩
      exact Same.updN (s7.trans s8) nlv
    . -- the empty level
      refine ⟨_, rfl, _, rfl, lv, [.ref p1, .ref p9], -1, .ref p9, rfl, rfl, SqL.of q7, rfl, p9, o9, _, rfl, D9, za4 ?_⟩; refine ⟨Nat.le_of_ble_eq_true rfl, fun dd hdd => ?_⟩; have s8 : Same H7 (upd H7 dd (.lst [])) := Same.upd hdd; have q8 : (upd H7 dd (.lst [])) dd = some (.lst []) := zab; have ndd : H dd = none := zbs s7 hdd; have nlvd : lv ≠ dd := fun z => by rw [z, hdd] at q7; cases q7
      generalize upd H7 dd (.lst []) = H8 at s8 q8 ⊢
      refine ⟨_, rfl, lv, [.ref p1, .ref p9], rfl, SqL.of (s8 _ _ q7), zkt (K := K) (a := lv) (xs := [.ref p1, .ref p9]) (fun i σ H9 => ∃ v4 v5, σ = [some (.str "number"), some (.ref l), some (.ref lv), some (.ref dd), v4, v5] /\ Same H H9 /\ H9 lv = some (.lst [.ref p1, .ref p9]) /\ Lev1 P w K H9 p1 /\ SDict P w K H9 p9 o9 [] /\ (i < 2 -> H9 dd = some (.lst [])) ∧
          (i = 2 -> ∃ tp g1 n1, H9 dd = some (.lst [.ref tp]) /\ H9 tp = some (.tup [.ref g1, .int n1]) /\ H9 g1 = some (.lst [])))
        ⟨none, none, rfl, s7.trans s8, s8 _ _ q7, l7.keep s8, D9.keep s8, fun _ => q8, fun z => by cases z⟩ (fun i σ H9 _ ⟨_, _, _, _, h, _⟩ => SqL.of h) ?_ ?_⟩
      . rintro i y σ H9 hi hy ⟨v4, v5, rfl, s9, q9, l9, D99, d9, _⟩; have hi2 : i < 2 := hi; have hcase : i = 0 \/ i = 1 := by omega
        rcases hcase with rfl | rfl
        . cases hy; refine ⟨_, rfl, p9, o9, _, rfl, D99, zfH (kvs := []) (fun j σ H10 => ∃ v5, σ = [some (.str "number"), some (.ref l), some (.ref lv), some (.ref dd), some (.ref p9), v5] /\ H10 = H9) ⟨_, rfl, rfl⟩ (fun j σ H10 _ ⟨_, _, e⟩ => by rw [e]; exact D99) (fun j p σ H10 hj => by simp at hj) ?_⟩
          rintro σ H10 ⟨v5, rfl, rfl⟩; exact ⟨_, _, rfl, s9, q9, l9, D99, fun _ => d9 (by omega), fun z => by cases z⟩
        . cases hy; have d9' := d9 (by omega)
          obtain ⟨od, od2, ga, td, n9, hDd, hD2⟩ := id l9
          have hga : ∀ {H' : Hp}, Same H9 H' -> SqT K H' ga (([] : List Int).map V.int) := fun sx => by
            obtain ⟨t, e, h⟩ := hDd.2.2.2.2.1 (.inl [], .ref ga, .ref td) (by simp)
            cases e; exact Same.tup sx h
          refine ⟨_, rfl, p1, od, _, rfl, hDd, zfH (kvs := [(.inl [], .ref ga, .ref td)]) (fun j σ H10 => ∃ v5, σ = [some (.str "number"), some (.ref l), some (.ref lv), some (.ref dd), some (.ref p1), v5] /\ Same H H10 /\ H10 lv = some (.lst [.ref p1, .ref p9]) /\ Lev1 P w K H10 p1 /\ SDict P w K H10 p9 o9 [] /\ SDict P w K H10 p1 od [(.inl [], .ref ga, .ref td)] /\ (j = 0 -> H10 = H9) ∧
              (j = 1 -> ∃ tp g1 n1, H10 dd = some (.lst [.ref tp]) /\ H10 tp = some (.tup [.ref g1, .int n1]) /\ H10 g1 = some (.lst [])))
            ⟨_, rfl, s9, q9, l9, D99, hDd, fun _ => rfl, fun z => by cases z⟩ (fun j σ H10 _ ⟨_, _, _, _, _, _, h, _⟩ => h) ?_ ?_⟩
          . rintro j p σ H10 hj ⟨v5, rfl, s10, q10, l10, D910, D10, he, _⟩
            have hj0 : j = 0 := by
              cases j with
              | zero => rfl
              | succ j => simp at hj
            subst hj0; cases hj; have he' := he rfl; subst he'; have hel : elAt K H10 (.inl []) (.ref ga) := ⟨ga, rfl, hga (Same.refl _)⟩
            refine ⟨_, rfl, .inl ⟨rfl, _, SqL.of d9'⟩, _, rfl, _, rfl, p1, od, .inl [], _, _, rfl, hel, D10, td, od2, _, rfl, hD2, zmo (kvs := [(.inr n9, .int n9, .bl true)]) (fun D i ys H11 => Same H10 H11 /\ H11 D = some (.lst ys) /\ ys.length = i /\ (i = 1 -> ∃ tp g1, ys = [.ref tp] /\ H11 tp = some (.tup [.ref g1, .int n9]) /\ H11 g1 = some (.lst []) /\ g1 ≠ dd))
              (fun D hD => ⟨Same.upd hD, zab, rfl, fun z => by cases z⟩) (fun D i ys H11 h => ⟨h.2.1, h.2.2.1, hD2.keep h.1⟩) ?_ ?_⟩
            . rintro D i p ys H11 R hDn hi2 ⟨s11, hD11, hyl, _⟩ hR
              have hi0 : i = 0 := by
                cases i with
                | zero => rfl
                | succ i => simp at hi2
              subst hi0; cases hi2; have hys : ys = [] := List.length_eq_zero_iff.mp hyl; subst hys; refine ⟨_, rfl, ga, _, rfl, .inr (hga s11), fun g1 hg1 => ?_⟩; have a1 := Same.upd (o := .lst (([] : List Int).map V.int)) hg1; have b1 := zab (H := H11) (a := g1) (o := .lst (([] : List Int).map V.int)); have ng1 : g1 ≠ D := fun z => by rw [z, hD11] at hg1; cases hg1
              have ngd : g1 ≠ dd := fun z => by rw [z, s11 _ _ d9'] at hg1; cases hg1
              generalize upd H11 g1 (.lst (([] : List Int).map V.int)) = H12 at a1 b1 ⊢; refine ⟨_, rfl, Nat.le_of_ble_eq_true rfl, fun tp htp => ?_⟩; have a2 := Same.upd (o := .tup [.ref g1, .int n9]) htp; have b2 := zab (H := H12) (a := tp) (o := .tup [.ref g1, .int n9]); have hD12 := a1 _ _ hD11; generalize upd H12 tp (.tup [.ref g1, .int n9]) = H13 at a2 b2 ⊢; have hD13 := a2 _ _ hD12; refine hR _ _ hD13 ⟨fun a oa h => ?_, zab, rfl, fun _ => ⟨tp, g1, rfl, ?_, ?_, ngd⟩⟩
              . rw [zah (zaq h hDn)]; exact a2 _ _ (a1 _ _ (s11 _ _ h))
              . rw [zah (zbx b2 hD13 fun z => by cases z)]
                exact b2
              . rw [zah ng1]; exact a2 _ _ b1
            . rintro D ys H11 hDn ⟨s11, hD11, hyl, hy1⟩; obtain ⟨tp, g1, rfl, htp, hg1, ngd⟩ := hy1 rfl; have d11 := s11 _ _ d9'; refine ⟨dd, D, [], [.ref tp], rfl, rfl, d11, hD11, by show 0 + 1 <= _; omega, ?_⟩
              refine ⟨_, rfl, Same.updN (s10.trans s11) ndd, ?_, (l10.keep s11).updL d11, (D910.keep s11).updL d11, (D10.keep s11).updL d11, (fun z => by cases z), fun _ => ⟨tp, g1, n9, zab, ?_, ?_⟩⟩
              . rw [zah nlvd]; exact s11 _ _ q10
              . rw [zah (zbx htp d11 fun z => by cases z)]
                exact htp
              . rw [zah ngd]; exact hg1
          . rintro σ H10 ⟨v5, rfl, s10, q10, l10, D910, D10, _, h1⟩; exact ⟨_, _, rfl, s10, q10, l10, D910, fun z => by omega, fun _ => h1 rfl⟩
      . rintro σ H9 ⟨v4, v5, rfl, s9, q9, l9, D99, _, h2⟩; obtain ⟨tp, g1, n1, h3, h4, h5⟩ := h2 rfl; exact ⟨_, rfl, k H9 dd tp g1 n1 s9 h3 h4 h5⟩
def zaP (k : Str) (cs : List Cl) : Prop := cs.all (okC k) = true
instance (k : Str) (cs : List Cl) : Decidable (zaP k cs) := by unfold zaP; infer_instance
structure zev (b n : Addr) (k : Str) (cs : List Cl) (H : Hp) (E : XK) : Prop where
  kd : ¬ Kd k -> ∀ H', Same H H' -> E (.ref n) none H'
  bad : Kd k -> ¬ zaP k cs -> ∀ H', Same H H' -> E (.ref b) none H'
structure zmX (cs : List Cl) (H : Hp) (Q : VK) : Prop where
  yes : ∀ (H' : Hp) (p g : Addr) (gs : List Int), Same H H' -> H' p = some (.tup [.str "order", .ref g]) -> H' g = some (.lst (gs.map V.int)) -> RunP cs gs -> gs.length = cs.length -> Q (.ref p) H'
  no : ∀ (H' : Hp) (p D tp g1 : Addr) (i : Int), Same H H' -> H' p = some (.tup [.str "none", .ref D]) -> H' D = some (.lst [.ref tp]) -> H' tp = some (.tup [.ref g1, .int i]) -> H' g1 = some (.lst []) -> Q (.ref p) H'
def zi1 (K : PySem.W.Frag) (b n : Addr) : Sp := fun vs H Q E => ∃ (k : Str) (l : Addr) (xs : List V) (cs : List Cl), vs = [.str k, .ref l] /\ Sh k /\ SqL K H l xs /\ Calls K H xs cs /\ (Kd k -> zaP k cs -> Lk cs) /\ zev b n k cs H E /\ (Kd k -> zaP k cs -> zmX cs H Q)
theorem zhG {b n : Addr} {k : Str} {cs : List Cl} {H : Hp} {R : Hp -> Prop} {E : XK} (e : zev b n k cs H E) (h : Kd k -> zaP k cs -> ∀ H', Same H H' -> R H') :
    ∀ H', Same H H' -> if k = "row" \/ k = "number" then (if cs.all (okC k) then R H' else E (.ref b) none H') else E (.ref n) none H' := fun H' s => by
  by_cases hk : k = "row" \/ k = "number"
  . rw [if_pos hk]
    by_cases ho : cs.all (okC k) = true
    . rw [if_pos ho]; exact h hk ho H' s
    . rw [if_neg ho]; exact e.bad hk ho H' s
  . rw [if_neg hk]; exact e.kd hk H' s
theorem zgB (F : Fun K "order_of" "order_of" zcQ f fd) (B : Bl mg) (g_check_calls : FnX P w K mg base "check_calls" 5 (ziR K b n)) (g_dead_ends : FnX P w K mg base "dead_ends" 5 (ziQ K)) (g_search_order : FnX P w K mg base "search_order" 5 (zgf K)) : FnOk P w K mg base (CX1 P w) 6 f fd ["kind", "calls"] (zi1 K b n) := by
  refine F.okX sc_order_of (fun vs H Q E h => ?_) (fun cdv A outer s H vs Q E hr h => ?_)
  . obtain ⟨k, l, xs, cs, rfl, _⟩ := h; rfl
  . obtain ⟨kd, l, xs, cs, rfl, hkS, hS, hC, hLk, hE, hQ⟩ := h
    refine ⟨_, (zad (zas (zai g_check_calls (zaN own_cx) hr rfl (zaa (pv 0) (zaa (pv 1) zac))))
    (zad (zao (i := 2) sc_order_of.nd rfl (by first | exact .inl rfl | exact .inr rfl) (zai g_search_order (zaN own_cx) hr rfl (zaa (pv 0) (zaa (pv 1) zac))))
    (zad (zaH (zar zlb (pv 2) zbp (zat _))
    (zae (zam (zay (zaa zaj (zaa (zai g_dead_ends (zaN own_cx) hr rfl (zaa (pv 0) (zaa (pv 1) zac))) zac))))) zau)
    (zae (zam (zay (zaa zaj (zaa (pv 2) zac)))))))), ?_⟩
    refine ⟨_, rfl, _, rfl, kd, l, xs, cs, rfl, hkS, hS, hC, zhG hE fun hk ho H1 s1 => ?_⟩; have hF := hQ hk ho; refine ⟨_, rfl, _, rfl, kd, l, xs, cs, rfl, hk, s1.seq hS, hC.keep s1, hLk hk ho, fun hnum hcs H2 s2 => ?_, fun H2 g gs s2 hg hre hfl _ => ?_⟩
    . have s12 := s1.trans s2; subst hnum; refine ⟨_, rfl, rfl, _, rfl, zbW ?_⟩; refine ⟨_, rfl, _, rfl, l, xs, cs, rfl, s12.seq hS, hC.keep s12, hLk hk ho, fun H3 D tp g1 i s3 hD htp hg1 => ?_⟩; refine ⟨Nat.le_of_ble_eq_true rfl, fun p hp => ?_⟩; have s4 : Same H3 (upd H3 p (.tup [.str "none", .ref D])) := Same.upd hp; exact hF.no _ p D tp g1 i ((s12.trans s3).trans s4) zab (s4 _ _ hD) (s4 _ _ htp) (s4 _ _ hg1)
    . refine ⟨_, rfl, rfl, _, rfl, za4 ?_⟩; refine ⟨_, rfl, Nat.le_of_ble_eq_true rfl, fun p hp => ?_⟩; have s3 : Same H2 (upd H2 p (.tup [.str "order", .ref g])) := Same.upd hp; exact hF.yes _ p g gs ((s1.trans s2).trans s3) zab (s3 _ _ hg) hre hfl
def aV : Option Int -> V
  | some i => .int i
  | none => .non
def oD : Option Int -> PyData
  | some i => .int i
  | none => .none
theorem zc7 {K : PySem.W.Frag} {H : Hp} : ∀ xs : List (Option Int), IsAll K H (xs.map oD) (xs.map aV)
  | [] => by simp [IsAll]
  | none :: r => by
    rw [List.map_cons, List.map_cons]; simp only [IsAll]; exact ⟨_, _, rfl, by simp [Is, oD, aV], zc7 r⟩
  | some i :: r => by
    rw [List.map_cons, List.map_cons]; simp only [IsAll]; exact ⟨_, _, rfl, by simp [Is, oD, aV], zc7 r⟩
theorem zhK {K : PySem.W.Frag} {H : Hp} {a : Addr} {xs : List (Option Int)} (h : SqL K H a (xs.map aV)) : Is K H (.list (xs.map oD)) (.ref a) := by
  simp only [Is]; exact ⟨a, _, rfl, h, zc7 xs⟩
theorem zek : ∀ xs : List (Option Int), PyData.canLayAll0 (xs.map oD) = true
  | [] => by simp [PyData.canLayAll0]
  | none :: r => by simp [PyData.canLayAll0, PyData.canLay0, oD, zek r]
  | some i :: r => by simp [PyData.canLayAll0, PyData.canLay0, oD, zek r]
theorem zc5 : ∀ xs : List (Option Int), PyData.depthAll (xs.map oD) = 0
  | [] => by simp [PyData.depthAll]
  | none :: r => by simp [PyData.depthAll, PyData.depth, oD, zc5 r]
  | some i :: r => by simp [PyData.depthAll, PyData.depth, oD, zc5 r]
theorem zc4 : ∀ xs : List (Option Int), zb7 (xs.map oD) = true
  | [] => by simp [zb7]
  | none :: r => by simp [zb7, zb5, oD, zc4 r]
  | some i :: r => by simp [zb7, zb5, oD, zc4 r]
theorem zgD (xs : List (Option Int)) : Cmp (.list (xs.map oD)) := by
  refine ⟨?_, by simp only [zb5]; exact zc4 xs⟩
  have h := zc5 xs; unfold SeqAt.shaped; rw [Bool.and_eq_true]; exact ⟨by simp only [PyData.canLay0]; exact zek xs, decide_eq_true (by simp only [PyData.depth]; omega)⟩
def zha (K : PySem.W.Frag) : Sp := fun vs H Q _ => ∃ (l o : Addr) (xs : List V) (os : List Int), vs = [.ref l, .ref o] /\ SqL K H l xs /\ SqL K H o (os.map V.int) /\ os.length <= 1 /\ xs.length <= 6 /\ ∀ (t : Bool) H', Same H H' -> (t = true -> os.length = xs.length) -> Q (.bl t) H'
theorem zdv (F : Fun K "has_each_once" "has_each_once" zbC f fd) (B : Bl mg) : FnOk P w K mg base CX0 1 f fd ["calls", "order"] (zha K) := by
  refine F.ok zdD (fun vs H Q E h => ?_) (fun cdv A outer s H vs Q E hr h => ?_)
  . obtain ⟨l, o, xs, os, rfl, _⟩ := h; rfl
  . obtain ⟨l, o, xs, os, rfl, hS, hO, h64, hx, k⟩ := h; refine ⟨_, (zae (zam (zbR (zjx hr.units) (zaw zdp rfl B.sorted_ PyProof.Rows.boot_sorted (zaa (pv 1) zac)) (zaZ (zgT rfl) rfl B.list_ PyProof.Rows.boot_list (zaa (zaZ zf9 rfl B.range_ PyProof.Rows.boot_range (zaa (zaw zaK rfl B.len_ PySem.boot_len (zaa (pv 0) zac)) zac)) zac)) (zat _)))), ?_⟩; refine ⟨_, rfl, o, os, rfl, hO, by omega, fun p1 ns hp1 hpm hsr => ?_⟩
    have s1 : Same H (upd H p1 (.lst (ns.map V.int))) := Same.upd hp1; have q1 : (upd H p1 (.lst (ns.map V.int))) p1 = some (.lst (ns.map V.int)) := zab; generalize upd H p1 (.lst (ns.map V.int)) = H1 at s1 q1 ⊢; refine ⟨_, rfl, l, xs, rfl, .inl (s1.seq hS), (xs.length : Int), rfl, fun p2 hp2 => ?_⟩; have s2 : Same H1 (upd H1 p2 (.rng 0 xs.length)) := Same.upd hp2; have q2 : (upd H1 p2 (.rng 0 xs.length)) p2 = some (.rng 0 xs.length) := zab; generalize upd H1 p2 (.rng 0 xs.length) = H2 at s2 q2 ⊢; refine ⟨p2, _, rfl, q2, by omega, by omega, fun p3 hp3 => ?_⟩
    have s3 : Same H2 (upd H2 p3 (.lst ((zap 0 (xs.length : Int).toNat).map V.int))) := Same.upd hp3; refine ⟨_, _, zec (SqL.of (s3 _ _ (s2 _ _ q1))), zec (SqL.of zab), zcq _, zcq _, ?_⟩; rw [zen]; refine k _ _ ((s1.trans s2).trans s3) fun e => ?_; have h1 := of_decide_eq_true e; have h2 : (zap 0 (xs.length : Int).toNat).length = xs.length := by simp [zap]
    rw [<- hpm.length_eq, h1, h2]
def zhM : Sp := fun _ _ _ _ => False
theorem zjO (F : Fun K "ahead" "ahead" zfz f fd) (B : Bl mg) : FnOk P w K mg base CX0 1 f fd ["one", "other"] zhM :=
  F.ok zju (fun _ _ _ _ h => h.elim) (fun _ _ _ _ _ _ _ _ _ h => h.elim)
def zg9 (K : PySem.W.Frag) : Sp := fun vs H Q _ => ∃ (l o : Addr) (os : List Int), vs = [.ref l, .ref o] /\ SqL K H o (os.map V.int) /\ os.length <= 1 /\ ∀ H', Same H H' -> Q (.bl true) H'
theorem zeX (F : Fun K "keeps_time" "keeps_time" zbJ f fd) (B : Bl mg) (g_ahead : FnX P w K mg base "ahead" 1 zhM) : FnOk P w K mg base CX0 3 f fd ["calls", "order"] (zg9 K) := by
  refine F.ok sc_keeps_time (fun vs H Q E h => ?_) (fun cdv A outer s H vs Q E hr h => ?_)
  . obtain ⟨l, o, os, rfl, _⟩ := h; rfl
  . obtain ⟨l, o, os, rfl, hO, h1, k⟩ := h; have hsz : sizeLine = 16777216 := sizeLine_eq
    refine ⟨_, (zad (zaT PassesOwn.never rfl (zhS rfl B.enumerate_ (zaa (pv 1) zac)) (zhy rfl (zb3 (zaz (i := 2) sc_keeps_time.nd rfl (by first | exact .inl rfl | exact .inr rfl)) (zb3 (zaz (i := 3) sc_keeps_time.nd rfl (by first | exact .inl rfl | exact .inr rfl)) zfu)))
    (zae (zaH (zcj (zaw (ziz rfl) rfl B.any_ PyProof.Rows.boot_any (zaa (zco (zbj (sc := zaf zbJ) (N0 := zcO) (ns := ["calls", "number"]) (idx := [0, 3]) (by decide +kernel)) rfl (zax (zb4 zdh (pv 1) zcD (zcF (pv 2)))) (fun _ _ _ _ => zbu) (fun _ _ _ _ => (zai g_ahead zaD hr rfl (zaa (zan (zaX K) (pv 1) (pv 2) (fun _ _ => rfl)) (zaa (zan (zaX K) (pv 1) (pv 0) (fun _ _ => rfl)) zac))))) zac)))
    (zae (zam zba)) zau)))
    (zae (zam zba))), ?_⟩
    refine ⟨_, rfl, o, rfl, ⟨_, hO⟩, zjC (K := K) (a := o) (xs := os.map V.int) (fun i σ H2 => ∃ v2 v3, σ = [some (.ref l), some (.ref o), v2, v3] /\ Same H H2)
      ⟨none, none, rfl, Same.refl _⟩ (fun i σ H2 _ ⟨_, _, _, s1⟩ => s1.seq hO) ?_ ?_⟩
    . rintro i y t σ H2 hi ⟨v2, v3, rfl, s1⟩ ht; have hil : i < (os.map V.int).length := (List.getElem?_eq_some_iff.mp hi).1; rw [List.length_map] at hil; have hi0 : i = 0 := by omega
      subst hi0; have s2 : Same H2 (upd H2 t (.tup [.int (0 : Nat), y])) := Same.upd ht; refine ⟨t, _, rfl, SqT.of zab, rfl, _, _, rfl, _, _, rfl, rfl, ?_⟩; generalize upd H2 t (.tup [.int (0 : Nat), y]) = H3 at s2 ⊢; have s3 := s1.trans s2; refine ⟨_, rfl, _, rfl, _, rfl, o, _, rfl, s3.seq hO, fun p hp => ?_⟩
      have ecut : zdS (os.map V.int) none (some ((0 : Nat) : Int)) = [] := by
        unfold zdS; rw [HT.sIx_none, show HT.sIx (os.map V.int).length (os.map V.int).length (some ((0 : Nat) : Int)) = 0 from by rw [HT.sIx_nat]; omega]
        simp
      rw [ecut]; have s4 : Same H3 (upd H3 p (.lst [])) := Same.upd hp; have q4 : (upd H3 p (.lst [])) p = some (.lst []) := zab; generalize upd H3 p (.lst []) = H4 at s4 q4 ⊢; refine ⟨p, rfl, ⟨_, SqL.of q4⟩, za6 (xs := []) (fun _ => true) id (SqL.of q4) (Nat.zero_le _) ?_ ?_ ?_⟩
      . intro x hx; cases hx
      . intro x hx; cases hx
      intro D hD; refine ⟨D, [], rfl, SqL.of zab, _, rfl, za4 ⟨_, _, rfl, (s3.trans s4).trans (Same.upd hD)⟩⟩
    . rintro σ H2 ⟨v2, v3, rfl, s1⟩; exact k _ s1
def zk4 (K : PySem.W.Frag) : Sp := fun vs H Q _ => ∃ (k : Str) (l : Addr) (xs : List V), vs = [.str k, .ref l] /\ Kd k /\ SqL K H l xs /\ xs.length <= 6 /\ (∀ v ∈ xs, ∃ q, v = .ref q /\ Look2 K H q) ∧
  ∀ (H' : Hp) (g : Addr) (ys : List (Option Int)), Same H H' -> H' g = some (.lst (ys.map aV)) -> Q (.ref g) H'
theorem zcE : Sh "look" := ⟨by decide, by decide +kernel⟩
theorem zjo {k : Str} (h : Kd k) : Sh k := by rcases h with rfl | rfl; exact ⟨by decide, by decide +kernel⟩; exact ⟨by decide, by decide +kernel⟩
theorem zgw {k : Str} (h : Kd k) : zcU k "look" 1 = true := by rcases h with rfl | rfl <;> decide
theorem zgS (F : Fun K "answers" "answers" zdz f fd) (B : Bl mg) (T : Tp P w K mg st pt r b n) (g_check_deed : FnX P w K mg base "check_deed" 4 (zmj K b n)) (g_do_deed : FnX P w K mg base "do_deed" 2 (zkG K)) (g_start : FnX P w K mg base "start" 2 (zcx r)) :
    FnOk P w K mg base CX0 5 f fd ["kind", "deeds"] (zk4 K) := by
  refine F.ok sc_answers (fun vs H Q E h => ?_) (fun cdv A outer s H vs Q E hr h => ?_)
  . obtain ⟨k, l, xs, rfl, _⟩ := h; rfl
  . obtain ⟨kd, l, xs, rfl, hk, hS, hl, hD, k⟩ := h; have hsz : sizeLine = 16777216 := sizeLine_eq
    refine ⟨_, (zad (zao (i := 2) sc_answers.nd rfl (by first | exact .inl rfl | exact .inr rfl) (zai g_start zaD hr rfl (zaa (pv 0) zac)))
    (zad (zao (i := 3) sc_answers.nd rfl (by first | exact .inl rfl | exact .inr rfl) (zaF zac))
    (zad (zaT PassesOwn.never rfl (zax (pv 1)) (zaz (i := 4) sc_answers.nd rfl (by first | exact .inl rfl | exact .inr rfl))
    (zad (zas (zai g_check_deed zaD hr rfl (zaa (pv 0) (zaa (pv 4) zac))))
    (zad (zao (i := 5) sc_answers.nd rfl (by first | exact .inl rfl | exact .inr rfl) (zai g_do_deed zaD hr rfl (zaa (pv 0) (zaa (pv 2) (zaa (pv 4) zac)))))
    (zad (zao (i := 2) sc_answers.nd rfl (by first | exact .inl rfl | exact .inr rfl) (zan zav (pv 5) zag (fun _ _ => rfl)))
    (zae (zas (zcg PySem.F.plainAttrs_list PySem.F.slot_list_append PySem.F.type_list_append zbo (pv 3) (zaa (zan zav (pv 5) zag (fun _ _ => rfl)) zac))))))))
    (zae (zam (pv 3)))))), ?_⟩
    refine ⟨_, rfl, ?_⟩; dsimp only [zjc, List.append_nil, List.cons_append, List.nil_append]; refine zex T hk fun x y hx => ?_
    have hy : ∃ a : Option Int, y = aV a := by
      rcases hx with ⟨_, _, h⟩ | ⟨_, i, _, h⟩
      . exact ⟨none, h⟩
      . exact ⟨some i, h⟩
    obtain ⟨ya, rfl⟩ := hy; refine ⟨Nat.le_of_ble_eq_true rfl, fun g hg => ?_⟩; have sg : Same H (upd H g (.lst [])) := Same.upd hg
    refine ⟨_, rfl, l, rfl, ⟨xs, sg.seq hS⟩, zaV (K := K) (a := l) (xs := xs) (fun i σ H2 => ∃ v4 v5 ys, σ = [some (.str kd), some (.ref l), some x, some (.ref g), v4, v5] /\ Th0 K H2 kd x (aV ya) /\ Same H H2 /\ H2 g = some (.lst ((ys : List (Option Int)).map aV)) /\ ys.length = i)
      ⟨none, none, [], rfl, hx.keep sg, sg, zab, rfl⟩ (fun i σ H2 _ ⟨_, _, _, _, _, s1, _⟩ => s1.seq hS) ?_ ?_⟩
    . rintro i v σ H2 hi ⟨v4, v5, ys, rfl, hTh, s1, hg2, hyl⟩; obtain ⟨q, rfl, hL⟩ := hD v (List.mem_of_getElem? hi); have hil : i < xs.length := (List.getElem?_eq_some_iff.mp hi).1; obtain ⟨nm, hq⟩ := id (hL.keep s1); refine ⟨_, rfl, _, rfl, kd, "look", q, _, rfl, hq, zhE ⟨0, 0, "look", nm, none⟩, zjo hk, zcE, fun H3 s3 => ?_⟩; rw [if_pos (show kd = "row" \/ kd = "number" from hk), if_pos (show zcU kd "look" [V.str nm].length = true from zgw hk)]; refine ⟨_, rfl, _, rfl, _, rfl, kd, x, aV ya, q, rfl, hTh.keep s3, (hL.keep s1).keep s3, fun p hp => ?_⟩; have s4 : Same H3 (upd H3 p (.tup [x, aV ya])) := Same.upd hp; have q4 : (upd H3 p (.tup [x, aV ya])) p = some (.tup [x, aV ya]) := zab; generalize upd H3 p (.tup [x, aV ya]) = H4 at s4 q4 ⊢; have hg4 := s4 _ _ (s3 _ _ hg2); refine ⟨_, rfl, p, _, 0, _, rfl, rfl, SqT.of q4, at0, ?_⟩; refine ⟨_, rfl, .inl ⟨rfl, _, SqL.of hg4⟩, _, rfl, p, _, 1, _, rfl, rfl, SqT.of q4, at1, g, _, _, rfl, rfl, hg4, by rw [List.length_map]; omega, ?_⟩
      refine ⟨_, _, ys ++ [ya], rfl, ?_, Same.updN ((s1.trans s3).trans s4) hg, ?_, by rw [List.length_append, List.length_singleton, hyl]⟩
      . exact ((hTh.keep s3).keep s4).imp (fun ⟨h1, ⟨r0, h2, h3⟩, h4⟩ => ⟨h1, ⟨r0, h2, SqT.updL hg4 h3⟩, h4⟩) id
      . rw [zab, List.map_append]; rfl
    . rintro σ H2 ⟨v4, v5, ys, rfl, hTh, s1, hg2, _⟩; exact ⟨_, rfl, k H2 g ys s1 hg2⟩
def zhj (K : PySem.W.Frag) : Sp := fun vs H Q _ => ∃ (k : Str) (l o : Addr) (xs : List V) (cs : List Cl) (os : List Int), vs = [.str k, .ref l, .ref o] /\ Kd k /\ SqL K H l xs /\ Calls K H xs cs /\ Lk cs /\ SqL K H o (os.map V.int) /\ os.length <= 1 /\ (∀ i : Int, i ∈ os -> 0 <= i /\ i < cs.length) ∧
  ∀ (t : Bool) H', Same H H' -> Q (.bl t) H'
theorem zcv (F : Fun K "gives_the_answers" "gives_the_answers" zaJ f fd) (B : Bl mg) (g_answers : FnX P w K mg base "answers" 5 (zk4 K)) : FnOk P w K mg base CX0 6 f fd ["kind", "calls", "order"] (zhj K) := by
  refine F.ok zcn (fun vs H Q E h => ?_) (fun cdv A outer s H vs Q E hr h => ?_)
  . obtain ⟨k, l, o, xs, cs, os, rfl, _⟩ := h; rfl
  . obtain ⟨kd, l, o, xs, cs, os, rfl, hk, hS, hC, hLk, hO, h1, hin, k⟩ := h; have hsz : sizeLine = 16777216 := sizeLine_eq
    have hq : ∃ qf : Int -> Addr, ∀ i : Int, i ∈ os -> ∃ t, atI xs i = some (.ref t) /\ SqT K H t [.int (zcX cs i).b, .int (zcX cs i).e, .ref (qf i), .non] /\ Look2 K H (qf i) := by
      refine ⟨fun i => if h : i ∈ os then (hLk.look hC (hin i h).1 (hin i h).2).choose_spec.choose else 0, fun i hi => ?_⟩; dsimp only; rw [dif_pos hi]; exact ⟨_, (hLk.look hC (hin i hi).1 (hin i hi).2).choose_spec.choose_spec⟩
    obtain ⟨qf, hqf⟩ := hq; refine ⟨_, (zae (zam (zbR (zjx hr.units) (zai g_answers zaD hr rfl (zaa (pv 0) (zaa (zco (zbj (sc := zaf zaJ) (N0 := za3) (ns := ["calls"]) (idx := [1]) (by decide +kernel)) rfl (zax (pv 2)) (fun _ _ _ _ => zbu) (fun _ _ _ _ => (zan (zbb K) (zan (zaX K) (pv 1) (pv 0) (fun _ _ => rfl)) zag (fun _ _ => rfl)))) zac))) (zco (zbj (sc := zaf zaJ) (N0 := za3) (ns := ["calls"]) (idx := [1]) (by decide +kernel)) rfl (zax (pv 2)) (fun _ _ _ _ => zbu) (fun _ _ _ _ => (zan (zbb K) (zan (zaX K) (pv 1) (pv 0) (fun _ _ => rfl)) zag (fun _ _ => rfl)))) (zat _)))), ?_⟩
    refine ⟨_, rfl, _, rfl, o, rfl, ⟨_, hO⟩, za6 (xs := os.map V.int) (fun _ => true) (fun v => match v with | .int i => .ref (qf i) | v => v) hO (by rw [List.length_map]; omega) ?_ ?_ ?_⟩
    . intro x hx D ys R hD hR; exact hR
    . intro x hx _ D ys R hD hR; obtain ⟨i, hi, rfl⟩ := List.mem_map.mp hx; have s1 : Same H (upd H D (.lst ys)) := Same.upd hD; obtain ⟨t, ht, h1, _⟩ := hqf i hi; exact ⟨_, rfl, _, rfl, l, _, _, _, rfl, rfl, s1.seq hS, ht, t, _, 2, _, rfl, rfl, Same.tup s1 h1, at2, hR⟩
    intro D hD
    have e1 : ((os.map V.int).filter fun _ => true).map (fun v => match v with | .int i => V.ref (qf i) | v => v) = os.map fun i => V.ref (qf i) := by
      rw [List.filter_eq_self.mpr fun _ _ => rfl, List.map_map]; rfl
    rw [e1]; have s1 : Same H (upd H D (.lst (os.map fun i => V.ref (qf i)))) := Same.upd hD; have q1 : (upd H D (.lst (os.map fun i => V.ref (qf i)))) D = some (.lst (os.map fun i => V.ref (qf i))) := zab; generalize upd H D (.lst (os.map fun i => V.ref (qf i))) = H1 at s1 q1 ⊢; refine ⟨kd, D, _, rfl, hk, SqL.of q1, by rw [List.length_map]; omega, fun v hv => ?_, fun H2 g ys s2 hg => ?_⟩
    . obtain ⟨i, hi, rfl⟩ := List.mem_map.mp hv; obtain ⟨t, _, _, h3⟩ := hqf i hi; exact ⟨_, rfl, h3.keep s1⟩
    have s3 := s1.trans s2; refine ⟨_, rfl, o, rfl, ⟨_, s3.seq hO⟩, za6 (xs := os.map V.int) (fun _ => true) (fun _ => aV none) (s3.seq hO) (by rw [List.length_map]; omega) ?_ ?_ ?_⟩
    . intro x hx D ys R hD hR; exact hR
    . intro x hx _ D ys R hD hR; obtain ⟨i, hi, rfl⟩ := List.mem_map.mp hx; have s4 : Same H (upd H2 D (.lst ys)) := s3.trans (Same.upd hD); obtain ⟨t, ht, h1, _⟩ := hqf i hi; exact ⟨_, rfl, _, rfl, l, _, _, _, rfl, rfl, s4.seq hS, ht, t, _, 3, _, rfl, rfl, Same.tup s4 h1, at3, hR⟩
    intro D2 hD2
    have e2 : ((os.map V.int).filter fun _ => true).map (fun _ => aV none) = (os.map fun _ => none).map aV := by
      rw [List.filter_eq_self.mpr fun _ _ => rfl, List.map_map, List.map_map]; rfl
    rw [e2]; have s5 := s3.trans (Same.upd (o := .lst ((os.map fun _ => none).map aV)) hD2); exact ⟨_, _, zhK (SqL.of (Same.upd hD2 _ _ hg)), zhK (SqL.of zab), zgD _, zgD _, k _ _ s5⟩
def zkz (K : PySem.W.Frag) (b n : Addr) : Sp := fun vs H Q E => ∃ (k : Str) (l o : Addr) (xs : List V) (cs : List Cl), vs = [.str k, .ref l, .ref o] /\ Sh k /\ SqL K H l xs /\ Calls K H xs cs /\ SqL K H o [] /\ (Kd k -> zaP k cs -> Lk cs) /\ zev b n k cs H E /\ (Kd k -> zaP k cs -> ∀ v H', Same H H' -> Q v H')
theorem zgr (F : Fun K "is_order" "is_order" zcT f fd) (B : Bl mg) (g_check_calls : FnX P w K mg base "check_calls" 5 (ziR K b n)) (g_gives_the_answers : FnX P w K mg base "gives_the_answers" 6 (zhj K)) (g_has_each_once : FnX P w K mg base "has_each_once" 1 (zha K)) (g_keeps_time : FnX P w K mg base "keeps_time" 3 (zg9 K)) :
    FnOk P w K mg base (CX1 P w) 7 f fd ["kind", "calls", "order"] (zkz K b n) := by
  refine F.okX zgy (fun vs H Q E h => ?_) (fun cdv A outer s H vs Q E hr h => ?_)
  . obtain ⟨k, l, o, xs, cs, rfl, _⟩ := h; rfl
  . obtain ⟨kd, l, o, xs, cs, rfl, hkS, hS, hC, hO, hLk, hE, hQ⟩ := h; have hx : xs.length <= 6 := by have h1 := hC.len; have h2 := hC.few; omega
    have hO' : SqL K H o (([] : List Int).map V.int) := hO
    refine ⟨_, (zad (zas (zai g_check_calls (zaN own_cx) hr rfl (zaa (pv 0) (zaa (pv 1) zac))))
    (zae (zam (zdF (zai g_has_each_once (zaN own_cx) hr rfl (zaa (pv 1) (zaa (pv 2) zac))) (zdF (zai g_keeps_time (zaN own_cx) hr rfl (zaa (pv 1) (zaa (pv 2) zac))) (zdy (zai g_gives_the_answers (zaN own_cx) hr rfl (zaa (pv 0) (zaa (pv 1) (zaa (pv 2) zac)))))))))), ?_⟩
    refine ⟨_, rfl, _, rfl, kd, l, xs, cs, rfl, hkS, hS, hC, zhG hE fun hk ho H1 s1 => ?_⟩; have hF := hQ hk ho; refine ⟨_, rfl, _, rfl, l, o, xs, [], rfl, s1.seq hS, s1.seq hO', Nat.zero_le _, hx, fun t1 H2 s2 _ => ⟨_, rfl, ?_⟩⟩; have s12 := s1.trans s2
    cases t1 with
    | false => exact za4 (hF _ _ s12)
    | true =>
      refine zbW ⟨_, rfl, _, rfl, l, o, [], rfl, s12.seq hO', Nat.zero_le _, fun H3 s3 => ⟨_, rfl, zbW ?_⟩⟩; have s13 := s12.trans s3; exact ⟨_, rfl, _, rfl, _, rfl, kd, l, o, xs, cs, [], rfl, hk, s13.seq hS, hC.keep s13, hLk hk ho, s13.seq hO', Nat.zero_le _, (fun i hi => by cases hi), fun t H4 s4 => hF _ _ (s13.trans s4)⟩
theorem ze8 (F : Fun K "shows_none" "shows_none" zce f fd) (B : Bl mg) (g_check_calls : FnX P w K mg base "check_calls" 5 (ziR K b n)) (g_start : FnX P w K mg base "start" 2 (zcx r)) : FnOk P w K mg base (CX1 P w) 6 f fd ["kind", "calls", "dead"] (zkz K b n) := by
  refine F.okX sc_shows_none (fun vs H Q E h => ?_) (fun cdv A outer s H vs Q E hr h => ?_)
  . obtain ⟨k, l, o, xs, cs, rfl, _⟩ := h; rfl
  . obtain ⟨kd, l, o, xs, cs, rfl, hkS, hS, hC, hO, hLk, hE, hQ⟩ := h; have hu := zgx hr
    refine ⟨_, (zad (zas (zai g_check_calls (zaN own_cx) hr rfl (zaa (pv 0) (zaa (pv 1) zac))))
    (zad (zao (i := 3) sc_shows_none.nd rfl (by first | exact .inl rfl | exact .inr rfl) zgH (hs := by kernel_rfl))
    (zad (zaT (zfh own_cx) rfl (zax (pv 2)) (zaz (i := 4) sc_shows_none.nd rfl (by first | exact .inl rfl | exact .inr rfl))
    (zad (zao (i := 5) sc_shows_none.nd rfl (by first | exact .inl rfl | exact .inr rfl) (zan zav (pv 4) zag (fun _ _ => rfl)))
    (zad (zao (i := 6) sc_shows_none.nd rfl (by first | exact .inl rfl | exact .inr rfl) (zan zav (pv 4) zag (fun _ _ => rfl)))
    (zad zb0
    (zad zb0
    (zae zb0))))))
    (zae (zam (zdF (zbR (zmf hr.units) (pv 2) (zaF zac) (zat _)) (zdy (zbR za7 (zan zbc (pv 2) (zjF zg1 zag) (fun _ _ => rfl)) (zay (zaa (zaF zac) (zaa (zai g_start (zaN own_cx) hr rfl (zaa (pv 0) zac)) zac))) (zat _))))))))), ?_⟩
    refine ⟨_, rfl, _, rfl, kd, l, xs, cs, rfl, hkS, hS, hC, zhG hE fun hk ho H1 s1 => ?_⟩; have hF := hQ hk ho; refine fun sd H2 hsd s2 hN2 => ?_; have s12 := s1.trans s2
    refine ⟨_, rfl, o, rfl, ⟨_, s12.seq hO⟩, zaV (K := K) (a := o) (xs := []) (fun i σ H3 => (∃ v4 v5 v6, σ = [some (.str kd), some (.ref l), some (.ref o), some (.ref sd), v4, v5, v6]) /\ Same H H3)
      ⟨⟨none, none, none, rfl⟩, s12⟩ (fun i σ H3 _ ⟨_, s3⟩ => s3.seq hO) ?_ ?_⟩
    . intro i y σ H3 hi; cases hi
    . rintro σ H3 ⟨⟨v4, v5, v6, rfl⟩, s3⟩; refine ⟨_, rfl, Nat.zero_le _, fun p hp => ?_⟩; have s4 : Same H3 (upd H3 p (.lst [])) := Same.upd hp; have h1 : SqL K (upd H3 p (.lst [])) o (([] : List Int).map V.int) := (s3.trans s4).seq hO; have h2 : SqL K (upd H3 p (.lst [])) p (([] : List Int).map V.int) := SqL.of zab; refine ⟨_, _, zec h1, zec h2, zcq _, zcq _, ?_⟩; rw [zen]; exact ⟨_, rfl, za4 (hF _ _ (s3.trans s4))⟩
structure Tx (K : PySem.W.Frag) (mg : Str -> Option Value) (b n th oe nl : Addr) : Prop where
  kT : zkc K mg "NoThing" th
  mO : mg "OrderError" = some (.ref oe)
  mL : mg "NoLine" = some (.ref nl)
  mV : mg "ValueError" = none
  e4 : PySem.W.exmOne K (.ref th) (.ref b) = some false
  e5 : PySem.W.exmOne K (.ref th) (.ref n) = some false
  e6 : PySem.W.exmOne K (.ref th) (.ref th) = some true
  e7 : PySem.W.exmOne K (.ref b) (.ref oe) = some true
  xb : HT.excCls K b = true
  k1 : PySem.W.kitOne K (.ref b) (.ref n) = some false
  k2 : PySem.W.kitOne K (.ref b) (.ref th) = some false
  k3 : PySem.W.kitOne K (.ref b) (.ref b) = some true
  k4 : PySem.W.kitOne K (.ref b) (.ref nl) = some false
  k5 : PySem.W.kitOne K (.ref b) (.type "ValueError") = some true
def zee (K : PySem.W.Frag) : Sp := fun vs H Q _ => ∃ v c, vs = [v] /\ CallT K H v c /\ Q (.str c.nm) H
theorem zgp (F : Fun K "thing_of" "thing_of" zcS f fd) (B : Bl mg) : FnOk P w K mg base CX0 1 f fd ["call"] (zee K) := by
  refine F.ok zgt (fun vs H Q E h => ?_) (fun cdv A outer s H vs Q E hr h => ?_)
  . obtain ⟨v, c, rfl, _⟩ := h; rfl
  . obtain ⟨v, c, rfl, ⟨t, q, rfl, ht, hq⟩, k⟩ := h; refine ⟨_, (zae (zam (zf8 (zar zk2 (zaw zaK rfl B.len_ PySem.boot_len (zaa (zan zav (pv 0) zag (fun _ _ => rfl)) zac)) zag (zat _)) (zan zav (zan zav (pv 0) zag (fun _ _ => rfl)) zag (fun _ _ => rfl)) zbp))), ?_⟩; refine ⟨_, rfl, t, _, 2, _, rfl, rfl, ht, at2, q, _, rfl, .inr hq, _, _, rfl, rfl, _, rfl, zdE (decide_eq_true (by unfold tlV; simp only [List.length_cons]; omega)) ?_⟩
    exact ⟨_, rfl, t, _, 2, _, rfl, rfl, ht, at2, q, _, 1, _, rfl, rfl, hq, at1, k⟩
def zje (t : Bool) (x : Str) (cs : List Cl) : Prop := ∀ c ∈ cs, decide (c.nm = x) = t
def zhq (K : PySem.W.Frag) : Sp := fun vs H Q _ => ∃ (l : Addr) (x : Str) (xs : List V) (cs : List Cl) (t : Bool), vs = [.ref l, .str x] /\ SqL K H l xs /\ Calls K H xs cs /\ zje t x cs /\ ∀ D H', Same H H' -> H' D = some (.lst ((if t = true then zap 0 xs.length else []).map V.int)) -> Q (.ref D) H'
theorem zh8 (t : Bool) (xs : List V) (n : Nat) : zdY (fun _ => t) xs n = if t = true then zap 0 n else [] := by
  unfold zdY
  cases t with
  | true => rw [if_pos rfl]; exact List.filter_eq_self.mpr fun _ _ => rfl
  | false => rw [if_neg Bool.false_ne_true]; exact List.filter_eq_nil_iff.mpr fun _ _ => Bool.false_ne_true
theorem ze5 (F : Fun K "numbers_of" "numbers_of" zbH f fd) (B : Bl mg) (g_thing_of : FnX P w K mg base "thing_of" 1 (zee K)) : FnOk P w K mg base CX0 2 f fd ["calls", "thing"] (zhq K) := by
  refine F.ok zeY (fun vs H Q E h => ?_) (fun cdv A outer s H vs Q E hr h => ?_)
  . obtain ⟨l, x, xs, cs, t, rfl, _⟩ := h; rfl
  . obtain ⟨l, x, xs, cs, t, rfl, hS, hC, hA, k⟩ := h; have hsz : sizeLine = 16777216 := sizeLine_eq; have hx : xs.length <= 6 := by have h1 := hC.len; have h2 := hC.few; omega
    refine ⟨_, (zae (zam (zln (zk6 (sc := zaf zbH) (N0 := zcL) (ns := ["thing"]) (idx := [1]) (by decide +kernel)) rfl (zhS rfl B.enumerate_ (zaa (pv 0) zac)) (fun _ _ _ _ => (zbt (zar za7 (zai g_thing_of zaD hr rfl (zaa (pv 1) zac)) (pv 2) (zat _)))) (fun _ _ _ _ => (pv 0))))), ?_⟩
    refine ⟨_, rfl, l, rfl, ⟨_, hS⟩, zjU (xs := xs) (fun _ => t) hS (by omega) ?_ ?_ ?_⟩
    . intro i v H' R hi s1 hR; obtain ⟨c, hc, hv⟩ := hC.at_ i v hi; refine ⟨_, rfl, v, c, rfl, hv.keep s1, _, rfl, rfl, _, rfl, ?_⟩
      have e : decide (V.str c.nm = V.str x) = t := by
        rw [<- hA c (List.mem_of_getElem? hc)]; exact decide_eq_decide.mpr ⟨fun h => V.str.inj h, fun h => by rw [h]⟩
      show R (decide (V.str c.nm = V.str x)) H'; rw [e]; exact hR
    . intro i v H' R hi s1 hR; exact ⟨_, rfl, hR⟩
    . intro D H' s1 hD; rw [zh8] at hD; exact k D H' s1 hD
def zj2 (K : PySem.W.Frag) : Sp := fun vs H Q _ => ∃ (l : Addr) (x : Str) (xs : List V) (cs : List Cl) (t : Bool), vs = [.ref l, .str x] /\ SqL K H l xs /\ Calls K H xs cs /\ zje t x cs /\ ∀ D H', Same H H' -> H' D = some (.lst (if t = true then xs else [])) -> Q (.ref D) H'
theorem zkp (xs : List V) : (zap 0 xs.length).map (fun i => (atI xs i).getD .non) = xs := by
  refine List.ext_getElem? fun j => ?_; rw [List.getElem?_map]; unfold zap; rw [List.getElem?_map]
  by_cases hj : j < xs.length
  . rw [List.getElem?_range hj]; obtain ⟨v, hv, hv'⟩ := zdT (xs := xs) (i := (j : Int)) (by omega) (by omega)
    rw [Int.toNat_natCast] at hv'; rw [hv']; show some ((atI xs (0 + (j : Int))).getD .non) = _; rw [Int.zero_add, hv]
    rfl
  . rw [List.getElem?_eq_none (by rw [List.length_range]; omega), List.getElem?_eq_none (by omega)]
    rfl
theorem zfM (F : Fun K "own_calls" "own_calls" zbQ f fd) (B : Bl mg) (g_numbers_of : FnX P w K mg base "numbers_of" 2 (zhq K)) : FnOk P w K mg base CX0 3 f fd ["calls", "thing"] (zj2 K) := by
  refine F.ok zf0 (fun vs H Q E h => ?_) (fun cdv A outer s H vs Q E hr h => ?_)
  . obtain ⟨l, x, xs, cs, t, rfl, _⟩ := h; rfl
  . obtain ⟨l, x, xs, cs, t, rfl, hS, hC, hA, k⟩ := h; have hsz : sizeLine = 16777216 := sizeLine_eq; have hx : xs.length <= 6 := by have h1 := hC.len; have h2 := hC.few; omega
    refine ⟨_, (zae (zam (zco (zbj (sc := zaf zbQ) (N0 := zdc) (ns := ["calls"]) (idx := [0]) (by decide +kernel)) rfl (zax (zai g_numbers_of zaD hr rfl (zaa (pv 0) (zaa (pv 1) zac)))) (fun _ _ _ _ => zbu) (fun _ _ _ _ => (zan (zaX K) (pv 1) (pv 0) (fun _ _ => rfl)))))), ?_⟩
    refine ⟨_, rfl, _, rfl, l, x, xs, cs, t, rfl, hS, hC, hA, fun D H1 s1 hD => ?_⟩
    have hl : (if t = true then zap 0 xs.length else []).length <= 6 := by
      cases t with
      | true => rw [if_pos rfl]; simp [zap]; omega
      | false => rw [if_neg Bool.false_ne_true]; exact Nat.zero_le _
    have hin : ∀ i ∈ (if t = true then zap 0 xs.length else []), 0 <= i /\ i < xs.length := fun i hi => by
      cases t with
      | true => rw [if_pos rfl] at hi; exact mem_iota.mp hi
      | false => rw [if_neg Bool.false_ne_true] at hi; cases hi
    refine ⟨D, rfl, ⟨_, SqL.of hD⟩, za6 (xs := (if t = true then zap 0 xs.length else []).map V.int) (fun _ => true) (fun v => match v with | .int i => (atI xs i).getD .non | v => v) (SqL.of hD) (by rw [List.length_map]; omega) ?_ ?_ ?_⟩
    . intro v hv D2 ys R hD2 hR; exact hR
    . intro v hv _ D2 ys R hD2 hR; obtain ⟨i, hi, rfl⟩ := List.mem_map.mp hv; have hii := hin i hi; obtain ⟨u, hu, _⟩ := zdT (xs := xs) hii.1 hii.2
      have hR' : R u (upd H1 D2 (.lst ys)) := by
        have : (atI xs i).getD .non = u := by rw [hu]; rfl
        rw [<- this]; exact hR
      exact ⟨_, rfl, _, rfl, l, _, _, _, rfl, rfl, (s1.trans (Same.upd hD2)).seq hS, hu, hR'⟩
    . intro D2 hD2; refine k D2 _ (s1.trans (Same.upd hD2)) ?_; rw [zab, List.filter_eq_self.mpr fun _ _ => rfl, List.map_map]
      cases t with
      | true => rw [if_pos rfl, if_pos rfl]; exact congrArg (fun z => some (HO.lst z)) (zkp xs)
      | false => rw [if_neg Bool.false_ne_true, if_neg Bool.false_ne_true]; rfl
structure Kinds (H : Hp) (d : Addr) (o : Obj) (kvs : List (Key × V)) (ps : List (Str × Str)) : Prop where
  at_ : H d = some (.frz o (.dK kvs))
  ss : ∃ ss : List Str, kvs.map (·.1) = ss.map Sum.inr /\ ss.length < 64 /\ ∀ ss' : List Str, ss'.Perm ss -> PyProof.Rows.sortedS ss' = true -> ss' = ps.map (·.1)
  val : ∀ p ∈ ps, zbB kvs (.inr p.1) = some (.str p.2) /\ Sh p.2
theorem Kinds.keep {H H' : Hp} {d : Addr} {o : Obj} {kvs : List (Key × V)} {ps : List (Str × Str)} (s : Same H H') (h : Kinds H d o kvs ps) : Kinds H' d o kvs ps := ⟨s _ _ h.at_, h.ss, h.val⟩
def zeD (x : Str) (cs : List Cl) : List Cl := if x = "a" then cs else []
def Chk (b n : Addr) (cs : List Cl) (H : Hp) (E : XK) (R : Hp -> Prop) : List (Str × Str) -> Prop
  | [] => ∀ H', Same H H' -> R H'
  | p :: r => zev b n p.2 (zeD p.1 cs) H E /\ (Kd p.2 -> zaP p.2 (zeD p.1 cs) -> Chk b n cs H E R r)
def Things (b n th : Addr) (H : Hp) (kvs : List (Key × V)) (ps : List (Str × Str)) (cs : List Cl) (E : XK) (R : Hp -> Prop) : Prop :=
  ((∃ c ∈ cs, zbB kvs (.inr c.nm) = none) /\ ∀ H', Same H H' -> E (.ref th) none H') \/ ((∀ c ∈ cs, c.nm = "a" /\ (zbB kvs (.inr c.nm)).isSome = true) /\ Chk b n cs H E R ps)
def zjg (K : PySem.W.Frag) (b n th : Addr) : Sp := fun vs H Q E => ∃ (d l : Addr) (o : Obj) (kvs : List (Key × V)) (ps : List (Str × Str)) (xs : List V) (cs : List Cl), vs = [.ref d, .ref l] /\ Kinds H d o kvs ps /\ SqL K H l xs /\ Calls K H xs cs /\ Things b n th H kvs ps cs E fun H' => Q .non H'
theorem zd5 (F : Fun K "check_things" "check_things" zbK f fd) (B : Bl mg) (Y : Tx K mg b n th oe nl) (g_check_calls : FnX P w K mg base "check_calls" 5 (ziR K b n)) (g_own_calls : FnX P w K mg base "own_calls" 3 (zj2 K)) (g_thing_of : FnX P w K mg base "thing_of" 1 (zee K)) :
    FnOk P w K mg base (CX1 P w) 6 f fd ["kinds", "calls"] (zjg K b n th) := by
  refine F.okX sc_check_things (fun vs H Q E h => ?_) (fun cdv A outer s H vs Q E hr h => ?_)
  . obtain ⟨d, l, o, kvs, ps, xs, cs, rfl, _⟩ := h; rfl
  . obtain ⟨d, l, o, kvs, ps, xs, cs, rfl, hK, hS, hC, hT⟩ := h; have hu := zfe hr; have k_NoThing := Y.kT
    refine ⟨_, (zad (zaT (zfh own_cx) rfl (zax (pv 1)) (zaz (i := 2) sc_check_things.nd rfl (by first | exact .inl rfl | exact .inr rfl))
    (zad (zao (i := 3) sc_check_things.nd rfl (by first | exact .inl rfl | exact .inr rfl) (zai g_thing_of (zaN own_cx) hr rfl (zaa (pv 2) zac)))
    (zae (zaH (zjh (zh9 hu (pv 3) (pv 0)))
    (zae (zds k_NoThing zed rfl rfl (zaa (zdR (.cons zaj (.cons (zel (pv 3)) .nil))) zac) rfl)) zau))))
    (zae (zaT (zfh own_cx) rfl (zax (zaw (zdf rfl) rfl B.sorted_ PyProof.Rows.boot_sorted (zaa (pv 0) zac))) (zaz (i := 3) sc_check_things.nd rfl (by first | exact .inl rfl | exact .inr rfl))
    (zae (zas (zai g_check_calls (zaN own_cx) hr rfl (zaa (zfC hu (pv 0) (pv 3) (fun _ _ => rfl)) (zaa (zai g_own_calls (zaN own_cx) hr rfl (zaa (pv 1) (zaa (pv 3) zac))) zac)))))))), ?_⟩
    refine ⟨_, rfl, l, rfl, ⟨_, hS⟩, zaV (K := K) (a := l) (xs := xs) (fun i σ H2 => ∃ v2 v3, σ = [some (.ref d), some (.ref l), v2, v3] /\ Same H H2 /\ ∀ (j : Nat) c, j < i -> cs[j]? = some c -> zbB kvs (.inr c.nm) ≠ none)
      ⟨none, none, rfl, Same.refl _, fun j c hj => absurd hj (Nat.not_lt_zero _)⟩ (fun i σ H2 _ ⟨_, _, _, s1, _⟩ => s1.seq hS) ?_ ?_⟩
    . rintro i v σ H2 hi ⟨v2, v3, rfl, s1, hok⟩; obtain ⟨c, hci, hc⟩ := hC.at_ i v hi; refine ⟨_, rfl, v, c, rfl, hc.keep s1, ?_⟩; refine ⟨_, rfl, _, rfl, d, _, rfl, .inl ⟨kvs, .inr c.nm, .inr ⟨o, s1 _ _ hK.at_⟩, rfl, rfl⟩, _, rfl, ?_⟩
      cases hv : zbB kvs (.inr c.nm) with
      | some y =>
        refine za4 ⟨_, _, rfl, s1, fun j c' hj hc' => ?_⟩
        rcases Nat.lt_succ_iff_lt_or_eq.mp hj with hj | rfl
        . exact hok j c' hj hc'
        . rw [hci] at hc'; cases hc'; rw [hv]; exact fun z => nomatch z
      | none =>
        have hl := (hC.sh c (List.mem_of_getElem? hci)).2.2; have z0 : (Str.empty ++ Str.ofString "there is no thing ").length = 18 := by rfl
        have z1 : (Str.empty ++ Str.ofString "there is no thing " ++ reprText c.nm).length <= 1018 := by rw [strLen_append, z0]; omega
        refine zbW ⟨_, rfl, by rw [z0]; decide, _, rfl, c.nm, rfl, Nat.le_trans hl (by decide), _, rfl, Nat.le_trans z1 (by decide), Nat.le_trans z1 (by decide), Nat.le_of_ble_eq_true rfl, ?_⟩
        rcases hT with ⟨_, hE⟩ | ⟨hA, _⟩
        . exact hE _ s1
        . have := (hA c (List.mem_of_getElem? hci)).2; rw [hv] at this; cases this
    . rintro σ H2 ⟨v2, v3, rfl, s1, hok⟩
      obtain ⟨hA, hChk⟩ : (∀ c ∈ cs, c.nm = "a" /\ (zbB kvs (.inr c.nm)).isSome = true) /\ Chk b n cs H E (fun H' => Q .non H') ps := by
        rcases hT with ⟨⟨c, hc, hv⟩, _⟩ | h
        . obtain ⟨j, hj⟩ := List.getElem?_of_mem hc; exact absurd hv (hok j c (by rw [hC.len]; exact (List.getElem?_eq_some_iff.mp hj).1) hj)
        . exact h
      obtain ⟨ss, hks, h64, hss⟩ := hK.ss; refine ⟨_, rfl, d, kvs, ss, rfl, .inr ⟨o, s1 _ _ hK.at_⟩, hks, h64, fun lp ss' hlp hpm hsr => ?_⟩; rw [hss ss' hpm hsr]; have s2 : Same H2 (upd H2 lp (.lst ((ps.map (·.1)).map V.str))) := Same.upd hlp; have q2 : (upd H2 lp (.lst ((ps.map (·.1)).map V.str))) lp = some (.lst ((ps.map (·.1)).map V.str)) := zab; generalize upd H2 lp (.lst ((ps.map (·.1)).map V.str)) = H3 at s2 q2 ⊢
      refine ⟨lp, rfl, ⟨_, SqL.of q2⟩, zaV (K := K) (a := lp) (xs := (ps.map (·.1)).map V.str) (fun i σ H4 => ∃ v2 v3, σ = [some (.ref d), some (.ref l), v2, v3] /\ Same H H4 /\ H4 lp = some (.lst ((ps.map (·.1)).map V.str)) /\ Chk b n cs H E (fun H' => Q .non H') (ps.drop i))
        ⟨_, _, rfl, s1.trans s2, q2, hChk⟩ (fun i σ H4 _ ⟨_, _, _, _, h, _⟩ => SqL.of h) ?_ ?_⟩
      . rintro i v σ H4 hi ⟨v2, v3, rfl, s4, q4, hc4⟩; rw [List.getElem?_map, List.getElem?_map] at hi; obtain ⟨x, hx, rfl⟩ := Option.map_eq_some_iff.mp hi; obtain ⟨p, hp, rfl⟩ := Option.map_eq_some_iff.mp hx; have hil : i < ps.length := (List.getElem?_eq_some_iff.mp hp).1
        have edrop : ps.drop i = p :: ps.drop (i + 1) := by
          rw [List.drop_eq_getElem_cons hil]; congr 1; exact Option.some.inj ((List.getElem?_eq_getElem hil).symm.trans hp)
        rw [edrop] at hc4; obtain ⟨hE, hgo⟩ := hc4; obtain ⟨hval, hsh⟩ := hK.val p (List.mem_of_getElem? hp); refine ⟨_, rfl, _, rfl, d, .str p.2, rfl, .inl ⟨kvs, .inr p.1, .inr ⟨o, s4 _ _ hK.at_⟩, rfl, hval.symm⟩, _, rfl, _, rfl, l, p.1, xs, cs, decide (p.1 = "a"), rfl, s4.seq hS, hC.keep s4, fun c hc => ?_, fun D H5 s5 hD => ?_⟩
        . rw [(hA c hc).1]; exact decide_eq_decide.mpr eq_comm
        have s45 := s4.trans s5
        have hcalls : Calls K H5 (if decide (p.1 = "a") = true then xs else []) (zeD p.1 cs) := by
          unfold zeD
          by_cases e : p.1 = "a"
          . rw [if_pos (decide_eq_true e), if_pos e]; exact hC.keep s45
          . rw [if_neg (by rw [decide_eq_true_eq]; exact e), if_neg e]
            exact ⟨rfl, Nat.zero_le _, fun i v h => by simp at h, fun c hc => by cases hc⟩
        have hE5 : zev b n p.2 (zeD p.1 cs) H5 E := ⟨fun hk H' s => hE.kd hk H' (s45.trans s), fun hk ho H' s => hE.bad hk ho H' (s45.trans s)⟩; refine ⟨p.2, D, _, _, rfl, hsh, SqL.of hD, hcalls, zhG hE5 fun hk ho H6 s6 => ?_⟩; exact ⟨_, _, rfl, s45.trans s6, s6 _ _ (s5 _ _ q4), hgo hk ho⟩
      . rintro σ H4 ⟨v2, v3, rfl, s4, q4, hc4⟩; rw [List.length_map, List.length_map, List.drop_length] at hc4; exact hc4 _ s4
def zlM (H : Hp) (kvs : List (Key × V)) (cs : List Cl) (Q : VK) : Hp -> Prop := fun _ => ∃ k : Str, kvs = [(.inr "a", .str k)] /\ Sh k /\ Kd k /\ zaP k cs /\ Lk cs /\ (∀ c ∈ cs, c.nm = "a") /\ ∀ v H', Same H H' -> Q v H'
theorem Chk.imp {b n : Addr} {cs : List Cl} {H : Hp} {E : XK} {R R' : Hp -> Prop} (h : ∀ H', Same H H' -> R H' -> R' H') : ∀ {ps : List (Str × Str)}, Chk b n cs H E R ps -> Chk b n cs H E R' ps
  | [], c => fun H' s => h H' s (c H' s)
  | _ :: _, c => ⟨c.1, fun hk ho => Chk.imp h (c.2 hk ho)⟩
theorem Things.imp {b n th : Addr} {H : Hp} {kvs : List (Key × V)} {ps : List (Str × Str)} {cs : List Cl} {E : XK} {R R' : Hp -> Prop} (h : ∀ H', Same H H' -> R H' -> R' H') (t : Things b n th H kvs ps cs E R) : Things b n th H kvs ps cs E R' :=
  Or.imp id (fun ⟨a, c⟩ => ⟨a, c.imp h⟩) t
def ziV (K : PySem.W.Frag) (b n th : Addr) : Sp := fun vs H Q E => ∃ (d l g : Addr) (o : Obj) (kvs : List (Key × V)) (ps : List (Str × Str)) (xs : List V) (cs : List Cl) (os : List Int), vs = [.ref d, .ref l, .ref g] /\ Kinds H d o kvs ps /\ SqL K H l xs /\ Calls K H xs cs /\ SqL K H g (os.map V.int) /\ os.length <= 1 /\ (∀ i ∈ os, i = 0) /\ Things b n th H kvs ps cs E (zlM H kvs cs Q)
theorem zc6 (F : Fun K "is_order_of_all" "is_order_of_all" za1 f fd) (B : Bl mg) (g_check_things : FnX P w K mg base "check_things" 6 (zjg K b n th)) (g_gives_the_answers : FnX P w K mg base "gives_the_answers" 6 (zhj K)) (g_has_each_once : FnX P w K mg base "has_each_once" 1 (zha K)) (g_keeps_time : FnX P w K mg base "keeps_time" 3 (zg9 K)) (g_thing_of : FnX P w K mg base "thing_of" 1 (zee K)) :
    FnOk P w K mg base (CX1 P w) 7 f fd ["kinds", "calls", "order"] (ziV K b n th) := by
  refine F.okX sc_is_order_of_all (fun vs H Q E h => ?_) (fun cdv A outer s H vs Q E hr h => ?_)
  . obtain ⟨d, l, g, o, kvs, ps, xs, cs, os, rfl, _⟩ := h; rfl
  . obtain ⟨d, l, g, o, kvs, ps, xs, cs, os, rfl, hK, hS, hC, hG, h1, h0, hT⟩ := h; have hu := zfe hr; have hsz : sizeLine = 16777216 := sizeLine_eq; have hx : xs.length <= 6 := by have h1 := hC.len; have h2 := hC.few; omega
    refine ⟨_, (zad (zas (zai g_check_things (zaN own_cx) hr rfl (zaa (pv 0) (zaa (pv 1) zac))))
    (zad (zaH (PW.pt (zi3 (zc1 (zcj (zai g_has_each_once (zaN own_cx) hr rfl (zaa (pv 1) (zaa (pv 2) zac))))) (zhr (zc1 (zcj (zai g_keeps_time (zaN own_cx) hr rfl (zaa (pv 1) (zaa (pv 2) zac))))))))
    (zae (zam zba)) zau)
    (zad (zaT (zfh own_cx) rfl (zmN (pv 0)) (zaz (i := 3) sc_is_order_of_all.nd rfl (by first | exact .inl rfl | exact .inr rfl))
    (zad (zby (i := 4) (zbj (sc := zaf za1) (N0 := zbN) (ns := ["thing", "calls"]) (idx := [3, 1]) (by decide +kernel)) rfl sc_is_order_of_all.nd rfl (by first | exact .inl rfl | exact .inr rfl) (zax (pv 2)) (fun _ _ _ _ => (zbt (zar za7 (zai g_thing_of zaD hr rfl (zaa (zan (zaX K) (pv 2) (pv 0) (fun _ _ => rfl)) zac)) (pv 1) (zat _)))) (fun _ _ _ _ => (pv 0)) rfl)
    (zae (zaH (zc1 (zcj (zai g_gives_the_answers (zaN own_cx) hr rfl (zaa (zfC hu (pv 0) (pv 3) (fun _ _ => rfl)) (zaa (pv 1) (zaa (pv 4) zac))))))
    (zae (zam zba)) zau))))
    (zae (zam zba))))), ?_⟩
    refine ⟨_, rfl, _, rfl, d, l, o, kvs, ps, xs, cs, rfl, hK, hS, hC, hT.imp fun H1 s1 hR => ?_⟩; obtain ⟨k, rfl, hkS, hk, ho, hLk, hA, hQ⟩ := hR; refine ⟨_, rfl, _, rfl, l, g, xs, os, rfl, s1.seq hS, s1.seq hG, h1, hx, fun t1 H2 s2 ht1 => ⟨_, rfl, ?_⟩⟩; have s12 := s1.trans s2
    cases t1 with
    | false => exact zbW (hQ _ _ s12)
    | true =>
      have hlen := ht1 rfl; refine za4 ⟨_, rfl, _, rfl, l, g, os, rfl, s12.seq hG, h1, fun H3 s3 => ⟨_, rfl, za4 ?_⟩⟩; have s13 := s12.trans s3
      have hin : ∀ i : Int, i ∈ os -> 0 <= i /\ i < cs.length := fun i hi => by
        have e := h0 i hi; have h2 := List.length_pos_of_mem hi; have h3 := hC.len; omega
      refine ⟨_, rfl, d, o, _, rfl, s13 _ _ hK.at_, zml (d := d) (o := o) (kvs := [(.inr "a", .str k)]) (fun i σ H4 => ∃ v3 v4, σ = [some (.ref d), some (.ref l), some (.ref g), v3, v4] /\ Same H H4)
        ⟨none, none, rfl, s13⟩ (fun i σ H4 _ ⟨_, _, _, s4⟩ => s4 _ _ hK.at_) ?_ ?_⟩
      . rintro i p σ H4 hi ⟨v3, v4, rfl, s4⟩; have hp : p = (.inr "a", .str k) := List.mem_singleton.mp (List.mem_of_getElem? hi); subst hp; refine ⟨_, rfl, g, rfl, ⟨_, s4.seq hG⟩, za6 (xs := os.map V.int) (fun _ => true) id (s4.seq hG) (by rw [List.length_map]; omega) ?_ ?_ ?_⟩
        . intro v hv D ys R hD hR; obtain ⟨i, hi, rfl⟩ := List.mem_map.mp hv; have s5 := s4.trans (Same.upd (o := .lst ys) hD); obtain ⟨u, hu', hcu⟩ := (hC.keep s5).num (hin i hi).1 (hin i hi).2; refine ⟨_, rfl, _, rfl, l, _, _, _, rfl, rfl, s5.seq hS, hu', u, zcX cs i, rfl, hcu, _, rfl, rfl, _, rfl, ?_⟩; rw [hA _ (zjI (hin i hi).1 (hin i hi).2)]; exact hR
        . intro v hv _ D ys R hD hR; exact ⟨_, rfl, hR⟩
        intro D hD; have e1 : ((os.map V.int).filter fun _ => true).map id = os.map V.int := by rw [List.filter_eq_self.mpr fun _ _ => rfl, List.map_id]
        rw [e1]; have s5 : Same H4 (upd H4 D (.lst (os.map V.int))) := Same.upd hD; have q5 : (upd H4 D (.lst (os.map V.int))) D = some (.lst (os.map V.int)) := zab; generalize upd H4 D (.lst (os.map V.int)) = H5 at s5 q5 ⊢; have s45 := s4.trans s5; refine ⟨_, rfl, _, rfl, d, .str k, rfl, .inl ⟨_, .inr "a", .inr ⟨o, s45 _ _ hK.at_⟩, rfl, rfl⟩, _, rfl, _, rfl, k, l, D, xs, cs, os, rfl, hk, s45.seq hS, hC.keep s45, hLk, SqL.of q5, h1, hin, fun t H6 s6 => ⟨_, rfl, ?_⟩⟩
        cases t with
        | false => exact zbW (hQ _ _ (s45.trans s6))
        | true => exact za4 ⟨_, _, rfl, s45.trans s6⟩
      . rintro σ H4 ⟨v3, v4, rfl, s4⟩; exact hQ _ _ s4
def zgi (K : PySem.W.Frag) : Sp := fun vs H Q _ => ∃ (l og g : Addr) (xs : List V) (cs : List Cl) (gs : List Int), vs = [.ref l, .ref og] /\ SqL K H l xs /\ Calls K H xs cs /\ (∀ c ∈ cs, c.b < c.e) /\ H og = some (.lst [.ref g]) /\ H g = some (.lst (gs.map V.int)) /\ RunP cs gs /\ ∀ v H', Same H H' -> Q v H'
theorem empty_drop {gs : List Int} {i : Nat} : ((gs.drop i).map V.int).isEmpty = true ↔ gs.length <= i := by
  rw [List.isEmpty_iff, List.map_eq_nil_iff, List.drop_eq_nil_iff]
structure MI (H : Hp) (gs : List Int) (wh re : Addr) (H2 : Hp) (i : Nat) : Prop where
  sm : Same H H2
  le : i <= gs.length
  who : H2 wh = some (.lst ((gs.take i).map V.int))
  res : (gs.length <= i /\ H2 re = some (.lst [])) \/ (i < gs.length /\ ∃ r, H2 re = some (.lst [.ref r]) /\ H2 r = some (.lst ((gs.drop i).map V.int)) /\ r ≠ wh /\ H r = none)
theorem ziF (F : Fun K "merged" "merged" zbZ f fd) (B : Bl mg) (g_free_calls : FnX P w K mg base "free_calls" 2 (zfX K)) : FnOk P w K mg base CX0 3 f fd ["calls", "orders"] (zgi K) := by
  refine F.ok sc_merged (fun vs H Q E h => ?_) (fun cdv A outer s H vs Q E hr h => ?_)
  . obtain ⟨l, og, g, xs, cs, gs, rfl, _⟩ := h; rfl
  . obtain ⟨l, og, g, xs, cs, gs, rfl, hS, hC, hbe, hog, hg, hrun, k⟩ := h; have hsz : sizeLine = 16777216 := sizeLine_eq; have hgl := hrun.1; have hfew := hC.few
    refine ⟨_, (zad (zao (i := 2) sc_merged.nd rfl (by first | exact .inl rfl | exact .inr rfl) (zaF zac))
    (zad (zby (i := 3) (zbj (sc := zaf zbZ) (N0 := zcz) (ns := []) (idx := []) (by decide +kernel)) rfl sc_merged.nd rfl (by first | exact .inl rfl | exact .inr rfl) (zax (pv 1)) (fun _ _ _ _ => (zbt (zfa K (pv 0) (fun _ => rfl)))) (fun _ _ _ _ => (zaZ (zcJ K) rfl B.list_ PyProof.Rows.boot_list (zaa (pv 0) zac))) rfl)
    (zad (zeH PassesOwn.never (zct (pv 3) (fun _ => rfl))
    (zad (zao (i := 4) sc_merged.nd rfl (by first | exact .inl rfl | exact .inr rfl) (zai g_free_calls zaD hr rfl (zaa (pv 0) (zaa (pv 2) zac))))
    (zad (zao (i := 5) sc_merged.nd rfl (by first | exact .inl rfl | exact .inr rfl) (zan zbc (zco (zbj (sc := zaf zbZ) (N0 := zcz) (ns := ["free"]) (idx := [4]) (by decide +kernel)) rfl (zax (pv 3)) (fun _ _ _ _ => (zbt (zar (zgU K) (zan (zaX K) (pv 0) zag (fun _ _ => rfl)) (pv 1) rfl))) (fun _ _ _ _ => (pv 0))) zag (fun _ _ => rfl)))
    (zad (zas (zcg PySem.F.plainAttrs_list PySem.F.slot_list_append PySem.F.type_list_append zbo (pv 2) (zaa (zcg PySem.F.plainAttrs_list PySem.F.slot_list_pop PySem.F.type_list_pop zjS (pv 5) (zaa zag zac)) zac)))
    (zae (zby (i := 3) (zbj (sc := zaf zbZ) (N0 := zcz) (ns := []) (idx := []) (by decide +kernel)) rfl sc_merged.nd rfl (by first | exact .inl rfl | exact .inr rfl) (zax (pv 3)) (fun _ _ _ _ => (zbt (zfa K (pv 0) (fun _ => rfl)))) (fun _ _ _ _ => (pv 0)) rfl))))))
    (zae (zam (pv 2)))))), ?_⟩
    refine ⟨Nat.le_of_ble_eq_true rfl, fun wh hwh => ?_⟩; have s1 : Same H (upd H wh (.lst [])) := Same.upd hwh; have q1 : (upd H wh (.lst [])) wh = some (.lst []) := zab; generalize upd H wh (.lst []) = H1 at s1 q1 ⊢
    refine ⟨_, rfl, og, rfl, ⟨_, SqL.of (s1 _ _ hog)⟩, ziI (xs := [.ref g]) (fun _ => !(gs.map V.int).isEmpty) (fun D i ys H' => Same H1 H' /\ H' D = some (.lst ys) /\ ys.length <= i /\ (i = 1 -> (gs = [] /\ ys = []) \/ (gs ≠ [] /\ ∃ r, ys = [.ref r] /\ H' r = some (.lst (gs.map V.int)) /\ H1 r = none)))
      (by simp; omega) (fun D hD => ⟨Same.upd hD, zab, Nat.le_refl _, fun z => by cases z⟩) (fun D i ys H' h => ⟨h.2.1, h.2.2.1, SqL.of (h.1 _ _ (s1 _ _ hog))⟩) ?_ ?_ ?_ ?_⟩
    . rintro D i x ys H' R hD hi ⟨s2, _⟩ hR; have hx : x = .ref g := List.mem_singleton.mp (List.mem_of_getElem? hi); subst hx; exact ⟨_, rfl, _, .inl ⟨_, SqL.of (s2 _ _ (s1 _ _ hg)), rfl⟩, hR⟩
    . rintro D i x ys H' hD hi hp ⟨s2, hD2, hl, _⟩; have hi0 : i = 0 := by have := (List.getElem?_eq_some_iff.mp hi).1; simpa using this
      subst hi0; have hys : ys = [] := List.length_eq_zero_iff.mp (by omega)
      refine ⟨s2, hD2, by omega, fun _ => .inl ⟨?_, hys⟩⟩
      rw [Bool.not_eq_false', List.isEmpty_iff, List.map_eq_nil_iff] at hp; exact hp
    . rintro D i x ys H' R hD hi hp ⟨s2, hD2, hl, _⟩ hR; have hi0 : i = 0 := by have := (List.getElem?_eq_some_iff.mp hi).1; simpa using this
      subst hi0; have hys : ys = [] := List.length_eq_zero_iff.mp (by omega)
      subst hys; have hx : x = .ref g := List.mem_singleton.mp (List.mem_of_getElem? hi); subst hx; have hne : gs ≠ [] := fun z => by rw [z] at hp; cases hp
      refine ⟨_, rfl, g, _, rfl, .inl (SqL.of (s2 _ _ (s1 _ _ hg))), fun r hr' => ?_⟩; have s3 : Same H' (upd H' r (.lst (gs.map V.int))) := Same.upd hr'; have q3 : (upd H' r (.lst (gs.map V.int))) r = some (.lst (gs.map V.int)) := zab; have nr : r ≠ D := fun z => by rw [z, hD2] at hr'; cases hr'
      have hD3 := s3 _ _ hD2; generalize upd H' r (.lst (gs.map V.int)) = H'' at s3 q3 hD3 ⊢; refine hR _ _ hD3 ⟨Same.updN (s2.trans s3) hD, zab, Nat.le_refl _, fun _ => .inr ⟨hne, r, rfl, ?_, zbs s2 hr'⟩⟩; rw [zah nr]; exact q3
    rintro D ys H2 hD ⟨s2, hD2, _, hy⟩; have s02 := s1.trans s2
    have mi0 : MI H gs wh D H2 0 := by
      refine ⟨s02, Nat.zero_le _, ?_, ?_⟩
      . rw [List.take_zero]; exact s2 _ _ q1
      . rcases hy rfl with ⟨h1, rfl⟩ | ⟨h1, r, rfl, h2, h3⟩
        . exact .inl ⟨by rw [h1]; exact Nat.le_refl _, hD2⟩
        . refine .inr ⟨List.length_pos_iff.mpr h1, r, hD2, by rw [List.drop_zero]; exact h2, ?_, zbs s1 h3⟩
          exact fun z => by rw [z, q1] at h3; cases h3
    refine ⟨fun m σ' H6 => ∃ (v4 v5 : Option V) (re : Addr) (i : Nat), m = gs.length - i /\ σ' = [some (.ref l), some (.ref og), some (.ref wh), some (.ref re), v4, v5] /\ MI H gs wh re H6 i, ⟨_, none, none, D, 0, rfl, rfl, mi0⟩, ?_⟩; rintro m σ' H6 ⟨v4, v5, re, i, rfl, rfl, mi⟩
    rcases mi.res with ⟨hi, r6⟩ | ⟨hi, r, r6, rr6, nrw, nr⟩
    . refine ⟨_, rfl, _, .inl ⟨_, SqL.of r6, rfl⟩, za4 ⟨_, rfl, k _ _ mi.sm⟩⟩
    refine ⟨_, rfl, _, .inl ⟨_, SqL.of r6, rfl⟩, zbW ⟨fun σ' H7 => ∃ (v4 v5 : Option V) (re : Addr), σ' = [some (.ref l), some (.ref og), some (.ref wh), some (.ref re), v4, v5] /\ MI H gs wh re H7 (i + 1),
      fun σ' H7 ⟨v4, v5, re, h1, h2⟩ => ⟨gs.length - (i + 1), by omega, v4, v5, re, i + 1, rfl, h1, h2⟩, ?_⟩⟩
    have hz : gs[i]? = some gs[i] := List.getElem?_eq_getElem hi; have hzf := hrun.2 i _ hz; have edrop : gs.drop i = gs[i] :: gs.drop (i + 1) := List.drop_eq_getElem_cons hi; refine ⟨_, rfl, _, rfl, l, wh, xs, cs, gs.take i, rfl, mi.sm.seq hS, hC.keep mi.sm, hbe, .inl (SqL.of mi.who), fun Dg H7 s7 hDg => ?_⟩; have r7 := s7 _ _ r6; have rr7 := s7 _ _ rr6; have w7 := s7 _ _ mi.who; have sm7 := mi.sm.trans s7; rw [edrop] at rr7; refine ⟨_, rfl, re, rfl, ⟨_, SqL.of r7⟩, za6 (xs := [.ref r]) (fun _ => true) id (SqL.of r7) (by simp; omega) ?_ ?_ ?_⟩
    . intro v hv D3 ys R hD3 hR; rw [List.mem_singleton.mp hv]; have s8 := Same.upd (o := .lst ys) hD3; refine ⟨_, rfl, r, _, 0, _, rfl, rfl, SqL.of (s8 _ _ rr7), at0, _, rfl, Dg, _, rfl, .inl (SqL.of (s8 _ _ hDg)), rfl, zcy _, _, rfl, ?_⟩
      have e : inV (.int gs[i]) ((zaG cs (gs.take i)).map V.int) = true := by
        rw [zeM, List.any_eq_true]; exact ⟨_, hzf, beq_self_eq_true _⟩
      show R (inV (.int gs[i]) ((zaG cs (gs.take i)).map V.int)) _; rw [e]; exact hR
    . intro v hv _ D3 ys R hD3 hR; exact ⟨_, rfl, hR⟩
    intro D3 hD3; have s8 : Same H7 (upd H7 D3 (.lst [.ref r])) := Same.upd hD3; have q8 : (upd H7 D3 (.lst [.ref r])) D3 = some (.lst [.ref r]) := zab; have e8 : ([V.ref r].filter fun _ => true).map id = [V.ref r] := rfl; rw [e8]; refine ⟨D3, _, 0, _, rfl, rfl, SqL.of q8, at0, ?_⟩; generalize upd H7 D3 (.lst [.ref r]) = H8 at s8 q8 ⊢; have r8 := s8 _ _ r7; have rr8 := s8 _ _ rr7; have w8 := s8 _ _ w7; have sm8 := sm7.trans s8; rw [List.map_cons] at rr8; refine ⟨_, rfl, .inl ⟨rfl, _, SqL.of w8⟩, _, rfl, .inl ⟨rfl, _, SqL.of rr8⟩, r, _, 0, 0, _, rfl, rfl, rr8, by decide, by decide, by unfold seqIndex?; simp, rfl, ?_⟩
    have sm9 : Same H (upd H8 r (.lst ((V.int gs[i] :: (gs.drop (i + 1)).map V.int).eraseIdx 0))) := Same.updN sm8 nr; have rr9 : (upd H8 r (.lst ((V.int gs[i] :: (gs.drop (i + 1)).map V.int).eraseIdx 0))) r = some (.lst ((gs.drop (i + 1)).map V.int)) := zab; have w9 : (upd H8 r (.lst ((V.int gs[i] :: (gs.drop (i + 1)).map V.int).eraseIdx 0))) wh = some (.lst ((gs.take i).map V.int)) := by rw [zah (Ne.symm nrw)]; exact w8
    have r9 : (upd H8 r (.lst ((V.int gs[i] :: (gs.drop (i + 1)).map V.int).eraseIdx 0))) re = some (.lst [.ref r]) := by
      rw [zah (zbx r8 rr8 fun z => by cases z)]; exact r8
    generalize upd H8 r (.lst ((V.int gs[i] :: (gs.drop (i + 1)).map V.int).eraseIdx 0)) = H9 at sm9 rr9 w9 r9 ⊢; refine ⟨wh, _, _, rfl, rfl, w9, by rw [List.length_map, List.length_take]; omega, ?_⟩
    have e10 : (gs.take i).map V.int ++ [.int gs[i]] = (gs.take (i + 1)).map V.int := by
      rw [List.take_succ, hz, List.map_append]; rfl
    rw [e10]; have sm10 : Same H (upd H9 wh (.lst ((gs.take (i + 1)).map V.int))) := Same.updN sm9 hwh; have w10 : (upd H9 wh (.lst ((gs.take (i + 1)).map V.int))) wh = some (.lst ((gs.take (i + 1)).map V.int)) := zab; have rr10 : (upd H9 wh (.lst ((gs.take (i + 1)).map V.int))) r = some (.lst ((gs.drop (i + 1)).map V.int)) := by rw [zah nrw]; exact rr9
    have nrew : re ≠ wh := fun z => by
      rw [z, w9] at r9; have := HO.lst.inj (Option.some.inj r9)
      cases hgt : gs.take i with
      | nil => rw [hgt] at this; cases this
      | cons y t => rw [hgt] at this; cases this
    have r10 : (upd H9 wh (.lst ((gs.take (i + 1)).map V.int))) re = some (.lst [.ref r]) := by rw [zah nrew]; exact r9
    generalize upd H9 wh (.lst ((gs.take (i + 1)).map V.int)) = H10 at sm10 w10 rr10 r10 ⊢; refine ⟨_, rfl, re, rfl, ⟨_, SqL.of r10⟩, za6 (xs := [.ref r]) (fun _ => !((gs.drop (i + 1)).map V.int).isEmpty) id (SqL.of r10) (by simp; omega) ?_ ?_ ?_⟩
    . intro v hv D4 ys R hD4 hR; rw [List.mem_singleton.mp hv]; exact ⟨_, rfl, _, .inl ⟨_, SqL.of (Same.upd hD4 _ _ rr10), rfl⟩, hR⟩
    . intro v hv _ D4 ys R hD4 hR; exact ⟨_, rfl, hR⟩
    intro D4 hD4; have nrD : r ≠ D4 := zaq rr10 hD4; have nwD : wh ≠ D4 := zaq w10 hD4; refine ⟨_, _, D4, rfl, sm10.trans (Same.upd hD4), by omega, by rw [zah nwD]; exact w10, ?_⟩
    by_cases hlast : gs.length <= i + 1
    . left
      refine ⟨hlast, ?_⟩; rw [zab, empty_drop.mpr hlast]
      rfl
    . right
      refine ⟨by omega, r, ?_, by rw [zah nrD]; exact rr10, nrw, nr⟩
      have e : ((gs.drop (i + 1)).map V.int).isEmpty = false := by
        cases h : ((gs.drop (i + 1)).map V.int).isEmpty with
        | false => rfl
        | true => exact absurd (empty_drop.mp h) hlast
      rw [zab, e]
      rfl
def zgX (K : PySem.W.Frag) (b n th : Addr) : Sp := fun vs H Q E => ∃ (d l : Addr) (o : Obj) (kvs : List (Key × V)) (ps : List (Str × Str)) (xs : List V) (cs : List Cl), vs = [.ref d, .ref l] /\ Kinds H d o kvs ps /\ SqL K H l xs /\ Calls K H xs cs /\ Things b n th H kvs ps cs E (zlM H kvs cs Q)
theorem zk7 (n : Nat) (gs : List Int) (h : ∀ i ∈ gs, 0 <= i /\ i < n) : ((gs.map V.int).filter fun _ => true).map (fun v => match v with | .int i => (atI ((zap 0 n).map V.int) i).getD .non | v => v) = gs.map V.int := by
  rw [List.filter_eq_self.mpr fun _ _ => rfl, List.map_map]; refine List.map_congr_left fun i hi => ?_; have hii := h i hi; show (atI ((zap 0 n).map V.int) i).getD .non = .int i; obtain ⟨v, hv, hv'⟩ := zdT (xs := (zap 0 n).map V.int) hii.1 (by rw [List.length_map]; simp [zap]; omega)
  rw [hv]; unfold zap at hv'; rw [List.getElem?_map, List.getElem?_map, List.getElem?_range (by omega)] at hv'
  cases hv'; show V.int (0 + (i.toNat : Int)) = .int i; congr 1; omega
theorem RunP.in_ {cs : List Cl} {gs : List Int} (h : RunP cs gs) : ∀ i ∈ gs, 0 <= i /\ i < cs.length := fun i hi => by
  obtain ⟨j, hj⟩ := List.getElem?_of_mem hi; exact zfw (h.2 j i hj)
theorem zd2 (F : Fun K "order_of_all" "order_of_all" zaS f fd) (B : Bl mg) (g_check_things : FnX P w K mg base "check_things" 6 (zjg K b n th)) (g_merged : FnX P w K mg base "merged" 3 (zgi K)) (g_numbers_of : FnX P w K mg base "numbers_of" 2 (zhq K)) (g_order_of : FnX P w K mg base "order_of" 6 (zi1 K b n)) (g_own_calls : FnX P w K mg base "own_calls" 3 (zj2 K)) :
    FnOk P w K mg base (CX1 P w) 7 f fd ["kinds", "calls"] (zgX K b n th) := by
  refine F.okX sc_order_of_all (fun vs H Q E h => ?_) (fun cdv A outer s H vs Q E hr h => ?_)
  . obtain ⟨d, l, o, kvs, ps, xs, cs, rfl, _⟩ := h; rfl
  . obtain ⟨d, l, o, kvs, ps, xs, cs, rfl, hK, hS, hC, hT⟩ := h; have hu := zfe hr; have hsz : sizeLine = 16777216 := sizeLine_eq; have hx : xs.length <= 6 := by have h1 := hC.len; have h2 := hC.few; omega
    have hn : xs.length = cs.length := hC.len
    refine ⟨_, (zad (zas (zai g_check_things (zaN own_cx) hr rfl (zaa (pv 0) (zaa (pv 1) zac))))
    (zad (zao (i := 2) sc_order_of_all.nd rfl (by first | exact .inl rfl | exact .inr rfl) (zaF zac))
    (zad (zaT (zfh own_cx) rfl (zax (zaw (zdf rfl) rfl B.sorted_ PyProof.Rows.boot_sorted (zaa (pv 0) zac))) (zaz (i := 3) sc_order_of_all.nd rfl (by first | exact .inl rfl | exact .inr rfl))
    (zad (zao (i := 4) sc_order_of_all.nd rfl (by first | exact .inl rfl | exact .inr rfl) (zai g_numbers_of (zaN own_cx) hr rfl (zaa (pv 1) (zaa (pv 3) zac))))
    (zad (zao (i := 5) sc_order_of_all.nd rfl (by first | exact .inl rfl | exact .inr rfl) (zai g_order_of (zaN own_cx) hr rfl (zaa (zfC hu (pv 0) (pv 3) (fun _ _ => rfl)) (zaa (zai g_own_calls (zaN own_cx) hr rfl (zaa (pv 1) (zaa (pv 3) zac))) zac))))
    (zad (zaH (zar za7 (zan zav (pv 5) zag (fun _ _ => rfl)) zaj (zat _))
    (zae (zam (zay (zaa zaj (zaa (pv 3) (zaa (zco (zbj (sc := zaf zaS) (N0 := zbE) (ns := ["numbers"]) (idx := [4]) (by decide +kernel)) rfl (zax (zan zav (pv 5) zag (fun _ _ => rfl))) (fun _ _ _ _ => zbu) (fun _ _ _ _ => (zay (zaa (zco (zmS (e0 := PyProof.Rows.envOfC "" (zaf zaS) 0 0 .none) (N0 := ["pair", "numbers"]) (ns := ["numbers"]) (idx := [1]) (by rfl) (by decide +kernel)) rfl (zjd K (zan (zbb K) (pv 0) zag (fun _ _ => rfl))) (fun _ _ _ _ => zbu) (fun _ _ _ _ => (zan (zaX K) (pv 1) (pv 0) (fun _ _ => rfl)))) (zaa (zan (zbb K) (pv 0) zag (fun _ _ => rfl)) zac))))) zac)))))) zau)
    (zae (zas (zcg PySem.F.plainAttrs_list PySem.F.slot_list_append PySem.F.type_list_append zbo (pv 2) (zaa (zco (zbj (sc := zaf zaS) (N0 := zbE) (ns := ["numbers"]) (idx := [4]) (by decide +kernel)) rfl (zax (zan zav (pv 5) zag (fun _ _ => rfl))) (fun _ _ _ _ => zbu) (fun _ _ _ _ => (zan (zaX K) (pv 1) (pv 0) (fun _ _ => rfl)))) zac))))))))
    (zae (zam (zay (zaa zaj (zaa (zai g_merged (zaN own_cx) hr rfl (zaa (pv 1) (zaa (pv 2) zac))) zac)))))))), ?_⟩
    refine ⟨_, rfl, _, rfl, d, l, o, kvs, ps, xs, cs, rfl, hK, hS, hC, hT.imp fun H1 s1 hR => ?_⟩; obtain ⟨k, rfl, hkS, hk, ho, hLk, hA, hQ⟩ := hR; refine ⟨Nat.le_of_ble_eq_true rfl, fun og hog => ?_⟩; have s2 : Same H1 (upd H1 og (.lst [])) := Same.upd hog; have q2 : (upd H1 og (.lst [])) og = some (.lst []) := zab; have nog : H og = none := zbs s1 hog; generalize upd H1 og (.lst []) = H2 at s2 q2 ⊢; have s12 := s1.trans s2; refine ⟨_, rfl, d, _, ["a"], rfl, .inr ⟨o, s12 _ _ hK.at_⟩, rfl, by decide, fun lp ss' hlp hpm _ => ?_⟩
    rw [List.perm_singleton.mp hpm]; have s3 : Same H2 (upd H2 lp (.lst ((["a"] : List Str).map V.str))) := Same.upd hlp; have q3 : (upd H2 lp (.lst ((["a"] : List Str).map V.str))) lp = some (.lst [.str "a"]) := zab; generalize upd H2 lp (.lst ((["a"] : List Str).map V.str)) = H3 at s3 q3 ⊢; have nlo : og ≠ lp := zaq q2 hlp
    refine ⟨lp, rfl, ⟨_, SqL.of q3⟩, zaV (K := K) (a := lp) (xs := [.str "a"]) (fun i σ H4 => ∃ v3 v4 v5, σ = [some (.ref d), some (.ref l), some (.ref og), v3, v4, v5] /\ Same H H4 /\ H4 lp = some (.lst [.str "a"]) /\ (i = 0 -> H4 og = some (.lst [])) /\ (i = 1 -> ∃ g2 gs, H4 og = some (.lst [.ref g2]) /\ H4 g2 = some (.lst (gs.map V.int)) /\ RunP cs gs))
      ⟨none, none, none, rfl, s12.trans s3, q3, fun _ => s3 _ _ q2, fun z => by cases z⟩ (fun i σ H4 _ ⟨_, _, _, _, _, h, _⟩ => SqL.of h) ?_ ?_⟩
    . rintro i v σ H4 hi ⟨v3, v4, v5, rfl, s4, q4, o4, _⟩; have hi0 : i = 0 := by have := (List.getElem?_eq_some_iff.mp hi).1; simpa using this
      subst hi0; cases hi; have o4' := o4 rfl; have hall : zje true "a" cs := fun c hc => decide_eq_true (hA c hc); refine ⟨_, rfl, _, rfl, l, "a", xs, cs, true, rfl, s4.seq hS, hC.keep s4, hall, fun Dn H5 s5 hDn => ?_⟩; have hDn' : H5 Dn = some (.lst ((zap 0 xs.length).map V.int)) := hDn; have s45 := s4.trans s5; refine ⟨_, rfl, _, rfl, d, .str k, rfl, .inl ⟨_, .inr "a", .inr ⟨o, s45 _ _ hK.at_⟩, rfl, rfl⟩, _, rfl, _, rfl, l, "a", xs, cs, true, rfl, s45.seq hS, hC.keep s45, hall, fun Do H6 s6 hDo => ?_⟩; have hDo' : H6 Do = some (.lst xs) := hDo; have s46 := s45.trans s6; refine ⟨k, Do, xs, cs, rfl, hkS, SqL.of hDo', hC.keep s46, fun _ _ => hLk, ⟨fun h => absurd hk h, fun _ h => absurd ho h⟩, fun _ _ => ⟨fun H7 p g gs s7 hp hg hrun hfl => ?_, fun H7 p D tp g1 j s7 hp hD htp hg1 => ?_⟩⟩
      . have s47 := s46.trans s7; have n7 := s7 _ _ (s6 _ _ hDn'); have o7 := s7 _ _ (s6 _ _ (s5 _ _ o4')); refine ⟨_, rfl, p, _, 0, _, rfl, rfl, SqT.of hp, at0, rfl, _, rfl, za4 ?_⟩; have hin := hrun.in_; refine ⟨_, rfl, .inl ⟨rfl, _, SqL.of o7⟩, _, rfl, p, _, 1, _, rfl, rfl, SqT.of hp, at1, g, rfl, ⟨_, SqL.of hg⟩, za6 (xs := gs.map V.int) (fun _ => true) (fun v => match v with | .int i => (atI ((zap 0 xs.length).map V.int) i).getD .non | v => v) (SqL.of hg) (by rw [List.length_map]; have := hrun.1; have := hC.few; omega) ?_ ?_ ?_⟩
        . intro v hv D2 ys R hD2 hR; exact hR
        . intro v hv _ D2 ys R hD2 hR; obtain ⟨i, hi, rfl⟩ := List.mem_map.mp hv; have hii := hin i hi; obtain ⟨u, hu', _⟩ := zdT (xs := (zap 0 xs.length).map V.int) hii.1 (by rw [List.length_map]; simp [zap]; omega)
          have hR' : R u (upd H7 D2 (.lst ys)) := by
            have : (atI ((zap 0 xs.length).map V.int) i).getD .non = u := by rw [hu']; rfl
            rw [<- this]; exact hR
          exact ⟨_, rfl, _, rfl, Dn, _, _, _, rfl, rfl, SqL.of (Same.upd hD2 _ _ n7), hu', hR'⟩
        intro D2 hD2; rw [zk7 xs.length gs (by rw [hn]; exact hin)]
        have s8 : Same H7 (upd H7 D2 (.lst (gs.map V.int))) := Same.upd hD2; have q8 : (upd H7 D2 (.lst (gs.map V.int))) D2 = some (.lst (gs.map V.int)) := zab; have nD : D2 ≠ og := fun z => by rw [z, o7] at hD2; cases hD2
        generalize upd H7 D2 (.lst (gs.map V.int)) = H8 at s8 q8 ⊢; have o8 := s8 _ _ o7; refine ⟨og, _, _, rfl, rfl, o8, by show 0 + 1 <= _; omega, ?_⟩
        refine ⟨_, _, _, rfl, Same.updN (s47.trans s8) nog, ?_, (fun z => by cases z), fun _ => ⟨D2, gs, zab, ?_, hrun⟩⟩
        . rw [zah (Ne.symm (fun z => by
            rw [z] at o8; rw [s8 _ _ (s7 _ _ (s6 _ _ (s5 _ _ q4)))] at o8
            cases o8))]
          exact s8 _ _ (s7 _ _ (s6 _ _ (s5 _ _ q4)))
        . rw [zah nD]; exact q8
      . have s47 := s46.trans s7; have n7 := s7 _ _ (s6 _ _ hDn'); refine ⟨_, rfl, p, _, 0, _, rfl, rfl, SqT.of hp, at0, rfl, _, rfl, zbW ?_⟩; refine ⟨_, rfl, _, rfl, p, _, 1, _, rfl, rfl, SqT.of hp, at1, D, rfl, ⟨_, SqL.of hD⟩, zji (xs := [.ref tp]) (fun D2 i ys H8 => Same H7 H8 /\ H8 D2 = some (.lst ys) /\ ys.length = i) (by simp; omega) (fun D2 hD2 => ⟨Same.upd hD2, zab, rfl⟩) (fun D2 i ys H8 h => ⟨h.2.1, h.2.2, SqL.of (h.1 _ _ hD)⟩) ?_ ?_⟩
        . rintro D2 i v ys H8 R hD2 hi ⟨s8, hD8, hyl⟩ hR; have hv : v = .ref tp := List.mem_singleton.mp (List.mem_of_getElem? hi); subst hv; refine ⟨_, rfl, tp, _, 0, _, rfl, rfl, SqT.of (s8 _ _ htp), at0, g1, rfl, ⟨_, SqL.of (s8 _ _ hg1)⟩, za6 (xs := []) (fun _ => true) id (SqL.of (s8 _ _ hg1)) (Nat.zero_le _) ?_ ?_ ?_⟩
          . intro x hx; cases hx
          . intro x hx; cases hx
          intro D3 hD3; have s9 := Same.upd (o := .lst ((([] : List V).filter fun _ => true).map id)) hD3; generalize upd H8 D3 (.lst ((([] : List V).filter fun _ => true).map id)) = H9 at s9 ⊢; refine ⟨_, rfl, tp, _, 1, _, rfl, rfl, SqT.of (s9 _ _ (s8 _ _ htp)), at1, Nat.le_of_ble_eq_true rfl, fun t3 ht3 => ?_⟩; have s10 := Same.upd (o := .tup [.ref D3, .int j]) ht3; refine hR _ _ (s10 _ _ (s9 _ _ hD8)) ⟨Same.updN ((s8.trans s9).trans s10) hD2, zab, by rw [List.length_append, List.length_singleton, hyl]⟩
        . rintro D2 ys H8 hD2 ⟨s8, _⟩; exact ⟨Nat.le_of_ble_eq_true rfl, fun t3 ht3 => hQ _ _ ((s47.trans s8).trans (Same.upd ht3))⟩
    . rintro σ H4 ⟨v3, v4, v5, rfl, s4, q4, _, h1⟩; obtain ⟨g2, gs, o4, hg2, hrun⟩ := h1 rfl; refine ⟨_, rfl, _, rfl, l, og, g2, xs, cs, gs, rfl, s4.seq hS, hC.keep s4, fun c hc => (hLk c hc).1, o4, hg2, hrun, fun v H5 s5 => ?_⟩; exact ⟨Nat.le_of_ble_eq_true rfl, fun t3 ht3 => hQ _ _ ((s4.trans s5).trans (Same.upd ht3))⟩
def zbf (wh : Int) (k : Str) (cs : List Cl) : Nat := if 2 < wh /\ ¬ (∀ c ∈ cs, c.nm = "a") then 3 else if Kd k then (if zaP k cs then 0 else 1) else 2
def zjB (b n th : Addr) (c : Nat) (R : Prop) (E : XK) (H : Hp) : Prop := if c = 0 then R else if c = 1 then E (.ref b) none H else if c = 2 then E (.ref n) none H else E (.ref th) none H
def zjl (K : PySem.W.Frag) (b n th : Addr) : Sp := fun vs H Q E => ∃ (wh : Int) (k : Str) (l : Addr) (xs : List V) (cs : List Cl), vs = [.int wh, .str k, .ref l] /\ 0 <= wh /\ Sh k /\ SqL K H l xs /\ Calls K H xs cs /\ (Kd k -> zaP k cs -> Lk cs) /\ ∀ H', Same H H' -> zjB b n th (zbf wh k cs) (Q .non H') E H'
theorem zjq {wh : Int} {k : Str} {cs : List Cl} (h : 2 < wh -> ∀ c ∈ cs, c.nm = "a") (hk : ¬ Kd k) : zbf wh k cs = 2 := by
  unfold zbf; rw [if_neg (fun z => z.2 (h z.1)), if_neg hk]
theorem zhC {wh : Int} {k : Str} {cs : List Cl} (h : 2 < wh -> ∀ c ∈ cs, c.nm = "a") (hk : Kd k) (ho : ¬ zaP k cs) : zbf wh k cs = 1 := by
  unfold zbf; rw [if_neg (fun z => z.2 (h z.1)), if_pos hk, if_neg ho]
theorem zfK {wh : Int} {k : Str} {cs : List Cl} (h : 2 < wh -> ∀ c ∈ cs, c.nm = "a") (hk : Kd k) (ho : zaP k cs) : zbf wh k cs = 0 := by
  unfold zbf; rw [if_neg (fun z => z.2 (h z.1)), if_pos hk, if_pos ho]
theorem zeb {b n th : Addr} {wh : Int} {k : Str} {cs : List Cl} {H H1 : Hp} {R : Hp -> Prop} {E : XK} (s : Same H H1) (h : 2 < wh -> ∀ c ∈ cs, c.nm = "a") (hO : ∀ H', Same H H' -> zjB b n th (zbf wh k cs) (R H') E H') : zev b n k cs H1 E :=
  ⟨fun hk H' s' => by have := hO H' (s.trans s'); rw [zjq h hk] at this; exact this, fun hk ho H' s' => by have := hO H' (s.trans s'); rw [zhC h hk ho] at this; exact this⟩
theorem zjH {H : Hp} {d : Addr} {o : Obj} {k : Str} (h : H d = some (.frz o (.dK [(.inr "a", .str k)]))) (hk : Sh k) : Kinds H d o [(.inr "a", .str k)] [("a", k)] :=
  ⟨h, ⟨["a"], rfl, by decide, fun ss' hp _ => List.perm_singleton.mp hp⟩, fun p hp => by rw [List.mem_singleton.mp hp]; exact ⟨rfl, hk⟩⟩
theorem zhI {b n th : Addr} {wh : Int} {k : Str} {cs : List Cl} {H H1 : Hp} {R : VK} {E : XK} (s : Same H H1) (hw : 2 < wh) (hkS : Sh k) (hLk : Kd k -> zaP k cs -> Lk cs) (hO : ∀ v H', Same H H' -> zjB b n th (zbf wh k cs) (R v H') E H') :
    Things b n th H1 [(.inr "a", .str k)] [("a", k)] cs E (zlM H1 [(.inr "a", .str k)] cs R) := by
  by_cases ha : ∀ c ∈ cs, c.nm = "a"
  . right
    have eo : zeD "a" cs = cs := if_pos rfl; refine ⟨fun c hc => ⟨ha c hc, by rw [ha c hc]; rfl⟩, ?_⟩
    refine ⟨?_, fun hk ho H' s' => ⟨k, rfl, hkS, hk, ?_, ?_, ha, fun v H'' s'' => ?_⟩⟩
    . show zev b n k (zeD "a" cs) H1 E; rw [eo]; exact zeb s (fun _ => ha) (hO .non)
    . have ho' : zaP k (zeD "a" cs) := ho; rw [eo] at ho'; exact ho'
    . have ho' : zaP k (zeD "a" cs) := ho; rw [eo] at ho'; exact hLk hk ho'
    . have ho' : zaP k (zeD "a" cs) := ho; rw [eo] at ho'; have := hO v H'' (s.trans s''); rw [zfK (fun _ => ha) hk ho'] at this; exact this
  . left
    have hex : ∃ c ∈ cs, ¬ c.nm = "a" := Classical.byContradiction fun z => ha fun c hc => Classical.byContradiction fun e => z ⟨c, hc, e⟩; obtain ⟨c, hc, e⟩ := hex; refine ⟨⟨c, hc, ?_⟩, fun H' s' => ?_⟩
    . rw [za9 (fun h => e (Sum.inr.inj h).symm), zgv]
    . have := hO .non H' (s.trans s'); unfold zbf at this; rw [if_pos ⟨hw, ha⟩] at this; exact this
theorem zgI (F : Fun K "_law_one" "_law_one" zcY f fd) (B : Bl mg) (g_is_order : FnX P w K mg base "is_order" 7 (zkz K b n)) (g_is_order_of_all : FnX P w K mg base "is_order_of_all" 7 (ziV K b n th)) (g_order_of : FnX P w K mg base "order_of" 6 (zi1 K b n)) (g_order_of_all : FnX P w K mg base "order_of_all" 7 (zgX K b n th)) (g_shows_none : FnX P w K mg base "shows_none" 6 (zkz K b n)) :
    FnOk P w K mg base (CX1 P w) 8 f fd ["_law_which", "_law_kind", "_law_calls"] (zjl K b n th) := by
  refine F.okX zf3 (fun vs H Q E h => ?_) (fun cdv A outer s H vs Q E hr h => ?_)
  . obtain ⟨wh, k, l, xs, cs, rfl, _⟩ := h; rfl
  . obtain ⟨wh, k, l, xs, cs, rfl, hw0, hkS, hS, hC, hLk, hO⟩ := h
    have hgo : ∀ {H1 : Hp}, Same H H1 -> (2 < wh -> ∀ c ∈ cs, c.nm = "a") -> Kd k -> zaP k cs -> Q .non H1 := fun s1 h hk ho => by
      have := hO _ s1; rw [zfK h hk ho] at this; exact this
    refine ⟨_, (zae (zaH (zar za7 (pv 0) zag (zat _))
    (zae (zas (zai g_order_of (zaN own_cx) hr rfl (zaa (pv 1) (zaa (pv 2) zac))))) (zae (zaH (zar za7 (pv 0) zag (zat _))
    (zae (zas (zai g_is_order (zaN own_cx) hr rfl (zaa (pv 1) (zaa (pv 2) (zaa (zaF zac) zac)))))) (zae (zaH (zar za7 (pv 0) zag (zat _))
    (zae (zas (zai g_shows_none (zaN own_cx) hr rfl (zaa (pv 1) (zaa (pv 2) (zaa (zaF zac) zac)))))) (zae (zaH (zar za7 (pv 0) zag (zat _))
    (zae (zas (zai g_order_of_all (zaN own_cx) hr rfl (zaa (zeJ (zdo (zbw zaj (pv 1) zdi) rfl rfl (by intro z; cases z) (Nat.le_of_ble_eq_true rfl))) (zaa (pv 2) zac))))) (zae (zas (zai g_is_order_of_all (zaN own_cx) hr rfl (zaa (zeJ (zdo (zbw zaj (pv 1) zdi) rfl rfl (by intro z; cases z) (Nat.le_of_ble_eq_true rfl))) (zaa (pv 2) (zaa (zaF (zaa zag zac)) zac)))))))))))))), ?_⟩
    refine ⟨_, rfl, rfl, _, rfl, ?_⟩; rw [zbG]
    by_cases h0 : wh = 0
    . have hw : ¬ 2 < wh := by omega
      refine zdE (by simp; omega) ?_
      refine ⟨_, rfl, _, rfl, k, l, xs, cs, rfl, hkS, hS, hC, hLk, zeb (Same.refl _) (fun z => absurd z hw) hO, fun hk ho => ⟨fun H' p g gs s1 _ _ _ _ => ?_, fun H' p D tp g1 i s1 _ _ _ _ => ?_⟩⟩
      . exact hgo s1 (fun z => absurd z hw) hk ho
      . exact hgo s1 (fun z => absurd z hw) hk ho
    refine zeN (by simp; omega) ?_
    refine ⟨_, rfl, rfl, _, rfl, ?_⟩; rw [zbG]
    by_cases h1 : wh = 1
    . have hw : ¬ 2 < wh := by omega
      refine zdE (by simp; omega) ?_
      refine ⟨_, rfl, _, rfl, Nat.zero_le _, fun p hp => ?_⟩; have s1 : Same H (upd H p (.lst [])) := Same.upd hp; refine ⟨k, l, p, xs, cs, rfl, hkS, s1.seq hS, hC.keep s1, SqL.of zab, hLk, zeb s1 (fun z => absurd z hw) hO, fun hk ho v H' s2 => ?_⟩; exact hgo (s1.trans s2) (fun z => absurd z hw) hk ho
    refine zeN (by simp; omega) ?_
    refine ⟨_, rfl, rfl, _, rfl, ?_⟩; rw [zbG]
    by_cases h2 : wh = 2
    . have hw : ¬ 2 < wh := by omega
      refine zdE (by simp; omega) ?_
      refine ⟨_, rfl, _, rfl, Nat.zero_le _, fun p hp => ?_⟩; have s1 : Same H (upd H p (.lst [])) := Same.upd hp; refine ⟨k, l, p, xs, cs, rfl, hkS, s1.seq hS, hC.keep s1, SqL.of zab, hLk, zeb s1 (fun z => absurd z hw) hO, fun hk ho v H' s2 => ?_⟩; exact hgo (s1.trans s2) (fun z => absurd z hw) hk ho
    refine zeN (by simp; omega) ?_
    have hw : 2 < wh := by omega
    refine ⟨_, rfl, rfl, _, rfl, ?_⟩; rw [zbG]; have fin : ∀ (p : Addr) (o : Obj), H p = none -> Same H (upd (upd (upd H p (.dK [])) p (.dK (za2 [] [(.inr "a", .str k)]))) p (.frz o (.dK (za2 [] [(.inr "a", .str k)])))) := fun p o hp => Same.updN (Same.updN (Same.upd hp) hp) hp
    by_cases h3 : wh = 3
    . refine zdE (by simp; omega) ?_
      refine fun p hp => ⟨_, rfl, zab, [(.inr "a", .str k)], rfl, Nat.le_of_ble_eq_true rfl, p, _, rfl, zab, fun o => ?_⟩; have s1 := fin p o hp; have q1 : (upd (upd (upd H p (.dK [])) p (.dK (za2 [] [(.inr "a", .str k)]))) p (.frz o (.dK (za2 [] [(.inr "a", .str k)])))) p = some (.frz o (.dK [(.inr "a", .str k)])) := zab; generalize upd (upd (upd H p (.dK [])) p (.dK (za2 [] [(.inr "a", .str k)]))) p (.frz o (.dK (za2 [] [(.inr "a", .str k)]))) = H1 at s1 q1 ⊢; exact ⟨_, rfl, p, l, o, _, _, xs, cs, rfl, zjH q1 hkS, s1.seq hS, hC.keep s1, zhI s1 hw hkS hLk fun _ => hO⟩
    . refine zeN (by simp; omega) ?_
      refine fun p hp => ⟨_, rfl, zab, [(.inr "a", .str k)], rfl, Nat.le_of_ble_eq_true rfl, p, _, rfl, zab, fun o => ?_⟩; have s1 := fin p o hp; have q1 : (upd (upd (upd H p (.dK [])) p (.dK (za2 [] [(.inr "a", .str k)]))) p (.frz o (.dK (za2 [] [(.inr "a", .str k)])))) p = some (.frz o (.dK [(.inr "a", .str k)])) := zab; generalize upd (upd (upd H p (.dK [])) p (.dK (za2 [] [(.inr "a", .str k)]))) p (.frz o (.dK (za2 [] [(.inr "a", .str k)]))) = H1 at s1 q1 ⊢; refine ⟨_, rfl, Nat.le_of_ble_eq_true rfl, fun g hg => ?_⟩; have s2 : Same H1 (upd H1 g (.lst [.int 0])) := Same.upd hg; have q2 : (upd H1 g (.lst [.int 0])) g = some (.lst [.int 0]) := zab; generalize upd H1 g (.lst [.int 0]) = H2 at s2 q2 ⊢; have s12 := s1.trans s2; exact ⟨p, l, g, o, _, _, xs, cs, [0], rfl, zjH (s2 _ _ q1) hkS, s12.seq hS, hC.keep s12, SqL.of q2, Nat.le_refl _, (fun i hi => List.mem_singleton.mp hi), zhI s12 hw hkS hLk fun _ => hO⟩
def zfF (c : Nat) : Str := if c = 0 then "none" else if c = 1 then "bad" else if c = 2 then "no kind" else "no thing"
def zg2 (K : PySem.W.Frag) : Sp := fun vs H Q _ => ∃ (wh : Int) (k : Str) (l : Addr) (xs : List V) (cs : List Cl), vs = [.int wh, .str k, .ref l] /\ 0 <= wh /\ Sh k /\ SqL K H l xs /\ Calls K H xs cs /\ (Kd k -> zaP k cs -> Lk cs) /\ ∃ c : Nat, zbf wh k cs = c /\ ∀ H', Same H H' -> Q (.str (zfF c)) H'
theorem zdN (F : Fun K "_law_word_for" "_law_word_for" zbD f fd) (B : Bl mg) (T : Tp P w K mg st pt r b n) (Y : Tx K mg b n th oe nl) (g__law_one : FnX P w K mg base "_law_one" 8 (zjl K b n th)) :
    FnOk P w K mg base CX0 9 f fd ["_law_which", "_law_kind", "_law_calls"] (zg2 K) := by
  refine F.ok sc__law_word_for (fun vs H Q E h => ?_) (fun cdv A outer s H vs Q E hr h => ?_)
  . obtain ⟨wh, k, l, xs, cs, rfl, _⟩ := h; rfl
  . obtain ⟨wh, k, l, xs, cs, rfl, hw0, hkS, hS, hC, hLk, _, rfl, hO⟩ := h; have m_BadCall := T.kB.bound; have m_NoKind := T.kN.bound; have m_NoThing := Y.kT.bound
    refine ⟨_, (zad (zao (i := 3) sc__law_word_for.nd rfl (by first | exact .inl rfl | exact .inr rfl) zaj)
    (zad (ziN own_cx.wish rfl (fun pn E' => (zae (zas (zai g__law_one (zd8 own_cx.wish) hr rfl (zaa (pv 0) (zaa (pv 1) (zaa (pv 2) zac)))))))
    (.cons rfl m_BadCall (by decide) (fun e => (zae (zao (i := 3) sc__law_word_for.nd rfl (by first | exact .inl rfl | exact .inr rfl) zaj))) (.cons rfl m_NoKind (by decide) (fun e => (zae (zao (i := 3) sc__law_word_for.nd rfl (by first | exact .inl rfl | exact .inr rfl) zaj))) (.cons rfl m_NoThing (by decide) (fun e => (zae (zao (i := 3) sc__law_word_for.nd rfl (by first | exact .inl rfl | exact .inr rfl) zaj))) .nil))))
    (zae (zam (pv 3))))), ?_⟩
    refine ⟨_, rfl, _, rfl, _, rfl, wh, k, l, xs, cs, rfl, hw0, hkS, hS, hC, hLk, fun H' s1 => ?_⟩; have h := hO H' s1; unfold zjB; unfold zfF at h
    by_cases c0 : zbf wh k cs = 0
    . rw [if_pos c0] at h ⊢; exact ⟨_, rfl, h⟩
    rw [if_neg c0] at h ⊢
    by_cases c1 : zbf wh k cs = 1
    . rw [if_pos c1] at h ⊢; exact .inl ⟨T.e1, _, rfl, h⟩
    rw [if_neg c1] at h ⊢
    by_cases c2 : zbf wh k cs = 2
    . rw [if_pos c2] at h ⊢; exact .inr ⟨T.e2, .inl ⟨T.e3, _, rfl, h⟩⟩
    rw [if_neg c2] at h ⊢; exact .inr ⟨Y.e4, .inr ⟨Y.e5, .inl ⟨Y.e6, _, rfl, h⟩⟩⟩
def zhg (K : PySem.W.Frag) : Sp := fun vs H Q _ => ∃ (wh : Int) (k : Str) (l : Addr) (xs : List V) (cs : List Cl), vs = [.int wh, .str k, .ref l] /\ 0 <= wh /\ Sh k /\ SqL K H l xs /\ Calls K H xs cs /\ zbf wh k cs = 1 /\ ∀ H', Same H H' -> Q (.bl true) H'
theorem zcR (F : Fun K "_law_under_base" "_law_under_base" zbi f fd) (B : Bl mg) (T : Tp P w K mg st pt r b n) (Y : Tx K mg b n th oe nl) (g__law_one : FnX P w K mg base "_law_one" 8 (zjl K b n th)) :
    FnOk P w K mg base CX0 9 f fd ["_law_which", "_law_kind", "_law_calls"] (zhg K) := by
  refine F.ok sc__law_under_base (fun vs H Q E h => ?_) (fun cdv A outer s H vs Q E hr h => ?_)
  . obtain ⟨wh, k, l, xs, cs, rfl, _⟩ := h; rfl
  . obtain ⟨wh, k, l, xs, cs, rfl, hw0, hkS, hS, hC, hres, hO⟩ := h; have m_OrderError := Y.mO; have hsz : sizeLine = 16777216 := sizeLine_eq
    refine ⟨_, (zad (zjk (i := 3) own_cx.wish rfl (fun pn E' => (zae (zas (zai g__law_one (zd8 own_cx.wish) hr rfl (zaa (pv 0) (zaa (pv 1) (zaa (pv 2) zac)))))))
    rfl m_OrderError (by decide) (fun e => (zad (zao (i := 4) sc__law_under_base.nd rfl (by first | exact .inl rfl | exact .inr rfl) (zaF (zaa (zaw (zbM K) rfl B.isinstance_ PyProof.Rows.boot_isinstance (zaa (pv 3) (zaa (zbP (v := .ref n) rfl T.kN.bound rfl) zac))) (zaa (zaw (zbM K) rfl B.isinstance_ PyProof.Rows.boot_isinstance (zaa (pv 3) (zaa (zbP (v := .ref th) rfl Y.kT.bound rfl) zac))) (zaa (zaw (zbM K) rfl B.isinstance_ PyProof.Rows.boot_isinstance (zaa (pv 3) (zaa (zbP (v := .ref b) rfl T.kB.bound rfl) zac))) zac)))))
    (zad (zao (i := 4) sc__law_under_base.nd rfl (by first | exact .inl rfl | exact .inr rfl) (zaW zc3 (pv 4) (zaF (zaa (zaw (zbM K) rfl B.isinstance_ PyProof.Rows.boot_isinstance (zaa (pv 3) (zaa (zbP (v := .ref nl) rfl Y.mL rfl) zac))) zac))))
    (zae (zam (zdF (zaw (zbM K) rfl B.isinstance_ PyProof.Rows.boot_isinstance (zaa (pv 3) (zaa (zd9 (v := .ty "ValueError") rfl Y.mV zkC rfl) zac))) (zdy (zbR za7 (zlT K PySem.F.plainAttrs_list PySem.F.slot_list_count PySem.F.type_list_count zjw (pv 4) (zaa zba zac)) zag (zat _))))))))) sc__law_under_base.nd rfl rfl (by first | exact .inl rfl | exact .inr rfl))
    (zae (zam zba))), ?_⟩
    have hk1 : Kd k -> zaP k cs -> Lk cs := fun hk ho => by
      unfold zbf at hres; rw [if_pos hk, if_pos ho] at hres
      split at hres <;> cases hres
    refine ⟨_, rfl, _, rfl, _, rfl, wh, k, l, xs, cs, rfl, hw0, hkS, hS, hC, hk1, fun H' s1 => ?_⟩; unfold zjB; rw [hres]; refine ⟨b, rfl, Y.e7, fun e he => ?_⟩; have s2 : Same H' (upd H' e (.ext (zch e b))) := Same.upd he; have q2 : (upd H' e (.ext (zch e b))) e = some (.ext (zch e b)) := zab; generalize upd H' e (.ext (zch e b)) = H2 at s2 q2 ⊢; have s12 := s1.trans s2; refine ⟨_, rfl, e, b, _, false, rfl, q2, Y.xb, .inr ⟨n, rfl, Y.k1⟩, _, rfl, e, b, _, false, rfl, q2, Y.xb, .inr ⟨th, rfl, Y.k2⟩, _, rfl, e, b, _, true, rfl, q2, Y.xb, .inr ⟨b, rfl, Y.k3⟩, Nat.le_of_ble_eq_true rfl, fun p hp => ?_⟩; have s3 : Same H2 (upd H2 p (.lst [.bl false, .bl false, .bl true])) := Same.upd hp; have q3 : (upd H2 p (.lst [.bl false, .bl false, .bl true])) p = some (.lst [.bl false, .bl false, .bl true]) := zab; generalize upd H2 p (.lst [.bl false, .bl false, .bl true]) = H3 at s3 q3 ⊢; refine ⟨_, rfl, _, rfl, e, b, _, false, rfl, s3 _ _ q2, Y.xb, .inr ⟨nl, rfl, Y.k4⟩, Nat.le_of_ble_eq_true rfl, fun p1 hp1 => ?_⟩; have s4 : Same H3 (upd H3 p1 (.lst [.bl false])) := Same.upd hp1; have q4 : (upd H3 p1 (.lst [.bl false])) p1 = some (.lst [.bl false]) := zab; generalize upd H3 p1 (.lst [.bl false]) = H4 at s4 q4 ⊢; refine ⟨p, p1, _, _, rfl, rfl, s4 _ _ q3, q4, by show 3 + 1 <= _; omega, fun p2 hp2 => ?_⟩
    have s5 := Same.upd (o := .lst ([.bl false, .bl false, .bl true] ++ [.bl false])) hp2; have q5 : (upd H4 p2 (.lst ([.bl false, .bl false, .bl true] ++ [.bl false]))) p2 = some (.lst ([false, false, true, false].map V.bl)) := zab; generalize upd H4 p2 (.lst ([.bl false, .bl false, .bl true] ++ [.bl false])) = H5 at s5 q5 ⊢; have s35 := (s3.trans s4).trans s5; refine ⟨_, rfl, e, b, _, true, rfl, s35 _ _ q2, Y.xb, .inl ⟨"ValueError", rfl, Y.k5⟩, _, rfl, zbW ?_⟩; refine ⟨_, rfl, .inl ⟨rfl, _, SqL.of q5⟩, p2, _, true, rfl, rfl, q5, rfl, ?_⟩; exact hO _ (s12.trans s35)
def zhJ (K : PySem.W.Frag) (b n : Addr) : Sp := fun vs H Q _ => ∃ (wh : Int) (d l : Addr) (o : Obj) (kvs : List (Key × V)) (ps : List (Str × Str)) (xs : List V) (cs : List Cl) (c : Nat), vs = [.int wh, .ref d, .ref l] /\ Kinds H d o kvs ps /\ SqL K H l xs /\ Calls K H xs cs /\ (∀ c ∈ cs, c.nm = "a" /\ (zbB kvs (.inr c.nm)).isSome = true) /\ (c = 1 \/ c = 2) ∧
  (∀ (H1 : Hp) (E : XK) (R : Hp -> Prop), (∀ H', Same H1 H' -> E (.ref (if c = 1 then b else n)) none H') -> Chk b n cs H1 E R ps) /\ ∀ H', Same H H' -> Q (.str (zfF c)) H'
theorem zcG (F : Fun K "_law_among_kinds" "_law_among_kinds" zbe f fd) (B : Bl mg) (T : Tp P w K mg st pt r b n) (g_is_order_of_all : FnX P w K mg base "is_order_of_all" 7 (ziV K b n th)) (g_order_of_all : FnX P w K mg base "order_of_all" 7 (zgX K b n th)) :
    FnOk P w K mg base CX0 9 f fd ["_law_which", "_law_kinds", "_law_calls"] (zhJ K b n) := by
  refine F.ok sc__law_among_kinds (fun vs H Q E h => ?_) (fun cdv A outer s H vs Q E hr h => ?_)
  . obtain ⟨wh, d, l, o, kvs, ps, xs, cs, c, rfl, _⟩ := h; rfl
  . obtain ⟨wh, d, l, o, kvs, ps, xs, cs, c, rfl, hK, hS, hC, hA, hc, hR, hO⟩ := h; have m_BadCall := T.kB.bound; have m_NoKind := T.kN.bound
    refine ⟨_, (zad (zao (i := 3) sc__law_among_kinds.nd rfl (by first | exact .inl rfl | exact .inr rfl) zaj)
    (zad (ziN own_cx.wish rfl (fun pn E' => (zae (zaH (zar za7 (pv 0) zag (zat _))
    (zae (zas (zai g_order_of_all (zd8 own_cx.wish) hr rfl (zaa (pv 1) (zaa (pv 2) zac))))) (zae (zas (zai g_is_order_of_all (zd8 own_cx.wish) hr rfl (zaa (pv 1) (zaa (pv 2) (zaa (zaF zac) zac)))))))))
    (.cons rfl m_BadCall (by decide) (fun e => (zae (zao (i := 3) sc__law_among_kinds.nd rfl (by first | exact .inl rfl | exact .inr rfl) zaj))) (.cons rfl m_NoKind (by decide) (fun e => (zae (zao (i := 3) sc__law_among_kinds.nd rfl (by first | exact .inl rfl | exact .inr rfl) zaj))) .nil)))
    (zae (zam (pv 3))))), ?_⟩
    refine ⟨_, rfl, rfl, _, rfl, ?_⟩; rw [zbG]
    by_cases h3 : wh = 3
    . refine zdE (by simp; omega) ?_
      refine ⟨_, rfl, _, rfl, d, l, o, kvs, ps, xs, cs, rfl, hK, hS, hC, .inr ⟨hA, hR _ _ _ fun H' s1 => ?_⟩⟩; have h := hO H' s1
      rcases hc with rfl | rfl
      . exact .inl ⟨T.e1, _, rfl, h⟩
      . exact .inr ⟨T.e2, .inl ⟨T.e3, _, rfl, h⟩⟩
    . refine zeN (by simp; omega) ?_
      refine ⟨_, rfl, _, rfl, Nat.zero_le _, fun p hp => ?_⟩; have s0 : Same H (upd H p (.lst [])) := Same.upd hp; refine ⟨d, l, p, o, kvs, ps, xs, cs, [], rfl, hK.keep s0, s0.seq hS, hC.keep s0, SqL.of zab, Nat.zero_le _, (fun i hi => by cases hi), .inr ⟨hA, hR _ _ _ fun H' s1 => ?_⟩⟩
      have h := hO H' (s0.trans s1)
      rcases hc with rfl | rfl
      . exact .inl ⟨T.e1, _, rfl, h⟩
      . exact .inr ⟨T.e2, .inl ⟨T.e3, _, rfl, h⟩⟩
theorem zgd {x y : Str} {l : List Str} (h : l.Perm [x, y]) : l = [x, y] \/ l = [y, x] := by
  have hl := h.length_eq
  match l, hl with
  | [a, b], _ =>
    have ha : a ∈ [x, y] := h.mem_iff.mp (by simp)
    rcases List.mem_cons.mp ha with rfl | ha
    . left
      have := List.perm_singleton.mp h.cons_inv; rw [List.cons_eq_cons.mp this |>.1]
    . right
      rw [List.mem_singleton.mp ha] at h ⊢; have := List.perm_singleton.mp (h.trans (List.Perm.swap y x [])).cons_inv; rw [List.cons_eq_cons.mp this |>.1]
theorem zfB : Sh "pile" := ⟨by decide, by decide +kernel⟩
theorem zb2 : ¬ Kd "pile" := by decide
theorem Calls.snoc {K : PySem.W.Frag} {H : Hp} {xs : List V} {cs : List Cl} {v : V} {c : Cl} (h : Calls K H xs cs) (hl : cs.length < 6) (hv : CallT K H v c) (hs : Sh c.wd /\ Sh c.nm) : Calls K H (xs ++ [v]) (cs ++ [c]) := by
  have hn := h.len; refine ⟨by rw [List.length_append, List.length_append, hn]; rfl, by rw [List.length_append]; show _ + 1 <= 6; omega, fun i u e => ?_, fun x hx => ?_⟩
  . by_cases hi : i < xs.length
    . rw [List.getElem?_append_left hi] at e; rw [List.getElem?_append_left (by omega)]
      exact h.at_ i u e
    . have hi2 := (List.getElem?_eq_some_iff.mp e).1; rw [List.length_append, List.length_singleton] at hi2; have hii : i = xs.length := by omega
      subst hii; rw [List.getElem?_concat_length] at e; cases e; rw [hn, List.getElem?_concat_length]; exact ⟨c, rfl, hv⟩
  . rcases List.mem_append.mp hx with hx | hx
    . exact h.sh x hx
    . rw [List.mem_singleton.mp hx]; exact hs
theorem zdK {x y : Str} {u v : V} (h : ¬ x = y) : za2 [] [((.inr x : Key), u), (.inr y, v)] = [(.inr x, u), (.inr y, v)] := by
  have : ¬ (Sum.inr x : Key) = Sum.inr y := fun z => h (Sum.inr.inj z); simp [za2, zfS, this]
def zjZ (K : PySem.W.Frag) : Sp := fun vs H Q _ => ∃ (k : Str) (gl bl : Addr) (xs ys : List V) (cs bs : List Cl), vs = [.str k, .ref gl, .ref bl] /\ Kd k /\ H gl = some (.lst xs) /\ Calls K H xs cs /\ cs.length < 6 /\ (∀ c ∈ cs, c.nm = "a") /\ zaP k cs /\ SqL K H bl ys /\ Calls K H ys bs /\ (∀ c ∈ bs, c.nm = "a" /\ okC k c = false) /\ ∀ H', Same H H' -> Q (.bl true) H'
theorem zf1 : ¬ ("zz" : Str) = "a" := by decide
theorem zmO : ¬ ("a" : Str) = "Z" := by decide
abbrev zb6 (k : Str) : List (Key × V) := [(.inr "zz", .str "pile"), (.inr "a", .str k)]
abbrev kvZ (k : Str) : List (Key × V) := [(.inr "a", .str k), (.inr "Z", .str "pile")]
theorem zgO {H : Hp} {d : Addr} {o : Obj} {k : Str} (h : H d = some (.frz o (.dK (zb6 k)))) (hk : Sh k) : Kinds H d o (zb6 k) [("a", k), ("zz", "pile")] := by
  refine ⟨h, ⟨["zz", "a"], rfl, by decide, fun ss' hp hs => ?_⟩, fun p hp => ?_⟩
  . rcases zgd hp with rfl | rfl
    . exact absurd hs (by decide +kernel)
    . rfl
  . rcases List.mem_cons.mp hp with rfl | hp
    . exact ⟨by rw [za9 (fun z => zf1 (Sum.inr.inj z)), za8 rfl], hk⟩
    . rw [List.mem_singleton.mp hp]; exact ⟨za8 rfl, zfB⟩
theorem zj7 {H : Hp} {d : Addr} {o : Obj} {k : Str} (h : H d = some (.frz o (.dK (kvZ k)))) (hk : Sh k) : Kinds H d o (kvZ k) [("Z", "pile"), ("a", k)] := by
  refine ⟨h, ⟨["a", "Z"], rfl, by decide, fun ss' hp hs => ?_⟩, fun p hp => ?_⟩
  . rcases zgd hp with rfl | rfl
    . exact absurd hs (by decide +kernel)
    . rfl
  . rcases List.mem_cons.mp hp with rfl | hp
    . exact ⟨by rw [za9 (fun z => zmO (Sum.inr.inj z)), za8 rfl], zfB⟩
    . rw [List.mem_singleton.mp hp]; exact ⟨za8 rfl, hk⟩
theorem zi6 {b n : Addr} {k : Str} {cs : List Cl} (hk : Kd k) (ho : zaP k cs) (H1 : Hp) (E : XK) (R : Hp -> Prop) (h : ∀ H', Same H1 H' -> E (.ref (if (2 : Nat) = 1 then b else n)) none H') : Chk b n cs H1 E R [("a", k), ("zz", "pile")] :=
  ⟨⟨fun z => absurd hk z, fun _ z => absurd (show zaP k (zeD "a" cs) from ho) z⟩, fun _ _ => ⟨⟨fun _ => h, fun z => absurd z zb2⟩, fun z => absurd z zb2⟩⟩
theorem zkP {b n : Addr} {k : Str} {cs : List Cl} (hk : Kd k) (ho : ¬ zaP k cs) (H1 : Hp) (E : XK) (R : Hp -> Prop) (h : ∀ H', Same H1 H' -> E (.ref (if (1 : Nat) = 1 then b else n)) none H') : Chk b n cs H1 E R [("a", k), ("zz", "pile")] :=
  ⟨⟨fun z => absurd hk z, fun _ _ => h⟩, fun _ z => absurd (show zaP k cs from z) ho⟩
theorem zmz {b n : Addr} {k : Str} {cs : List Cl} (H1 : Hp) (E : XK) (R : Hp -> Prop) (h : ∀ H', Same H1 H' -> E (.ref (if (2 : Nat) = 1 then b else n)) none H') : Chk b n cs H1 E R [("Z", "pile"), ("a", k)] :=
  ⟨⟨fun _ => h, fun z => absurd z zb2⟩, fun z => absurd z zb2⟩
theorem zfx {k : Str} {cs : List Cl} {c : Cl} (hc : c ∈ cs) (h : okC k c = false) : ¬ zaP k cs := fun z => by
  have := List.all_eq_true.mp z c hc; rw [h] at this; cases this
theorem zcf (F : Fun K "_law_thing_by_thing" "_law_thing_by_thing" za0 f fd) (B : Bl mg) (g__law_among_kinds : FnX P w K mg base "_law_among_kinds" 9 (zhJ K b n)) :
    FnOk P w K mg base CX0 10 f fd ["_law_kind", "_law_good", "_law_bad"] (zjZ K) := by
  refine F.ok sc__law_thing_by_thing (fun vs H Q E h => ?_) (fun cdv A outer s H vs Q E hr h => ?_)
  . obtain ⟨k, gl, bl, xs, ys, cs, bs, rfl, _⟩ := h; rfl
  . obtain ⟨k, gl, bl, xs, ys, cs, bs, rfl, hk, hgl, hC, hl6, hA, ho, hB, hCb, hbad, hQ⟩ := h; have hS : SqL K H gl xs := SqL.of hgl; have hsz : sizeLine = 16777216 := sizeLine_eq; have hkS := zjo hk; have hx : xs.length < 6 := by rw [hC.len]; exact hl6
    have fin : ∀ {H0 H1 : Hp} {p : Addr} {a b c : HO}, Same H0 H1 -> H0 p = none -> Same H0 (upd (upd (upd H1 p a) p b) p c) := fun s hp => Same.updN (Same.updN (Same.updN s hp) hp) hp
    refine ⟨_, (zad (zaT PassesOwn.never rfl (zax (zaF (zaa zag (zaa zag zac)))) (zaz (i := 3) sc__law_thing_by_thing.nd rfl (by first | exact .inl rfl | exact .inr rfl))
    (zad (zaH (zar zcI (zai g__law_among_kinds zaD hr rfl (zaa (pv 3) (zaa (zeJ (zdo (zbw zaj zaj (zbw zaj (pv 0) zdi)) rfl rfl (by intro z; cases z) (Nat.le_of_ble_eq_true rfl))) (zaa (zaZ zbI rfl B.list_ PyProof.Rows.boot_list (zaa (pv 1) zac)) zac)))) zaj (zat _))
    (zae (zam zba)) zau)
    (zae (zaT PassesOwn.never rfl (zax (pv 2)) (zaz (i := 4) sc__law_thing_by_thing.nd rfl (by first | exact .inl rfl | exact .inr rfl))
    (zad (zao (i := 5) sc__law_thing_by_thing.nd rfl (by first | exact .inl rfl | exact .inr rfl) (zaW zc3 (pv 1) (zaF (zaa (pv 4) zac))))
    (zad (zaH (zar zcI (zai g__law_among_kinds zaD hr rfl (zaa (pv 3) (zaa (zeJ (zdo (zbw zaj zaj (zbw zaj (pv 0) zdi)) rfl rfl (by intro z; cases z) (Nat.le_of_ble_eq_true rfl))) (zaa (pv 5) zac)))) zaj (zat _))
    (zae (zam zba)) zau)
    (zae (zaH (zar zcI (zai g__law_among_kinds zaD hr rfl (zaa (pv 3) (zaa (zeJ (zdo (zbw zaj (pv 0) (zbw zaj zaj zdi)) rfl rfl (by intro z; cases z) (Nat.le_of_ble_eq_true rfl))) (zaa (pv 5) zac)))) zaj (zat _))
    (zae (zam zba)) zau))))))))
    (zae (zam zba))), ?_⟩
    refine ⟨Nat.le_of_ble_eq_true rfl, fun lw hlw => ?_⟩; have s0 : Same H (upd H lw (.lst [.int 3, .int 4])) := Same.upd hlw; have q0 : (upd H lw (.lst [.int 3, .int 4])) lw = some (.lst [.int 3, .int 4]) := zab; generalize upd H lw (.lst [.int 3, .int 4]) = H0 at s0 q0 ⊢
    refine ⟨lw, rfl, ⟨_, SqL.of q0⟩, zaV (K := K) (a := lw) (xs := [.int 3, .int 4]) (fun i σ H2 => ∃ v3 v4 v5, σ = [some (.str k), some (.ref gl), some (.ref bl), v3, v4, v5] /\ Same H0 H2)
      ⟨none, none, none, rfl, Same.refl _⟩ (fun i σ H2 _ ⟨_, _, _, _, s2⟩ => SqL.of (s2 _ _ q0)) ?_ ?_⟩
    . rintro i v σ H2 hi ⟨v3, v4, v5, rfl, s2⟩
      obtain ⟨wh, rfl⟩ : ∃ wh : Int, v = .int wh := by
        have := List.mem_of_getElem? hi
        rcases List.mem_cons.mp this with rfl | this
        . exact ⟨3, rfl⟩
        . exact ⟨4, List.mem_singleton.mp this⟩
      have s02 := s0.trans s2; refine ⟨_, rfl, fun p hp => ⟨_, rfl, zab, zb6 k, rfl, Nat.le_of_ble_eq_true rfl, p, _, rfl, zab, fun o => ?_⟩⟩; rw [zdK zf1]; have s3 : Same H2 (upd (upd (upd H2 p (.dK [])) p (.dK (zb6 k))) p (.frz o (.dK (zb6 k)))) := fin (Same.refl _) hp; have q3 : (upd (upd (upd H2 p (.dK [])) p (.dK (zb6 k))) p (.frz o (.dK (zb6 k)))) p = some (.frz o (.dK (zb6 k))) := zab; generalize upd (upd (upd H2 p (.dK [])) p (.dK (zb6 k))) p (.frz o (.dK (zb6 k))) = H3 at s3 q3 ⊢; have s03 := s02.trans s3; refine ⟨_, rfl, gl, _, rfl, .inl (s03.seq hS), fun g hg => ?_⟩; have s4 : Same H3 (upd H3 g (.lst xs)) := Same.upd hg; have q4 : (upd H3 g (.lst xs)) g = some (.lst xs) := zab; generalize upd H3 g (.lst xs) = H4 at s4 q4 ⊢; have s04 := s03.trans s4; have hin : ∀ c ∈ cs, c.nm = "a" /\ (zbB (zb6 k) (.inr c.nm)).isSome = true := fun c hc => ⟨hA c hc, by rw [hA c hc, za9 (fun z => zf1 (Sum.inr.inj z)), za8 rfl]; rfl⟩
      refine ⟨wh, p, g, o, _, _, xs, cs, 2, rfl, zgO (s4 _ _ q3) hkS, SqL.of q4, hC.keep s04, hin, .inr rfl, zi6 hk ho, fun H5 s5 => ⟨rfl, _, rfl, za4 ?_⟩⟩; have s05 := s04.trans s5; have t5 : Same H0 H5 := ((s2.trans s3).trans s4).trans s5
      refine ⟨_, rfl, bl, rfl, ⟨_, s05.seq hB⟩, zaV (K := K) (a := bl) (xs := ys) (fun i σ H6 => ∃ v4 v5, σ = [some (.str k), some (.ref gl), some (.ref bl), some (.int wh), v4, v5] /\ Same H0 H6)
        ⟨_, _, rfl, t5⟩ (fun i σ H6 _ ⟨_, _, _, s6⟩ => (s0.trans s6).seq hB) ?_ ?_⟩
      . rintro j v σ H6 hj ⟨v4, v5, rfl, s6⟩; obtain ⟨c, hcj, hc⟩ := hCb.at_ j v hj; have hcm := List.mem_of_getElem? hcj; obtain ⟨hcn, hco⟩ := hbad c hcm; have s06 := s0.trans s6; refine ⟨_, rfl, _, rfl, Nat.le_of_ble_eq_true rfl, fun p1 hp1 => ?_⟩; have a1 : Same H6 (upd H6 p1 (.lst [v])) := Same.upd hp1; have b1 : (upd H6 p1 (.lst [v])) p1 = some (.lst [v]) := zab; generalize upd H6 p1 (.lst [v]) = H7 at a1 b1 ⊢; have s07 := s06.trans a1; refine ⟨gl, p1, xs, [v], rfl, rfl, s07 _ _ hgl, b1, by show _ + 1 <= _; omega, fun p2 hp2 => ?_⟩
        have a2 : Same H7 (upd H7 p2 (.lst (xs ++ [v]))) := Same.upd hp2; have b2 : (upd H7 p2 (.lst (xs ++ [v]))) p2 = some (.lst (xs ++ [v])) := zab; generalize upd H7 p2 (.lst (xs ++ [v])) = H8 at a2 b2 ⊢; have s08 := s07.trans a2; have hC8 : Calls K H8 (xs ++ [v]) (cs ++ [c]) := (hC.keep s08).snoc hl6 (hc.keep s08) (hCb.sh c hcm)
        have hA8 : ∀ x ∈ cs ++ [c], x.nm = "a" := fun x hx => by
          rcases List.mem_append.mp hx with hx | hx
          . exact hA x hx
          . rw [List.mem_singleton.mp hx]; exact hcn
        have hno : ¬ zaP k (cs ++ [c]) := zfx (List.mem_append_right _ (List.mem_singleton.mpr rfl)) hco; refine ⟨_, rfl, fun p hp => ⟨_, rfl, zab, zb6 k, rfl, Nat.le_of_ble_eq_true rfl, p, _, rfl, zab, fun o => ?_⟩⟩; rw [zdK zf1]; have a3 : Same H8 (upd (upd (upd H8 p (.dK [])) p (.dK (zb6 k))) p (.frz o (.dK (zb6 k)))) := fin (Same.refl _) hp; have b3 : (upd (upd (upd H8 p (.dK [])) p (.dK (zb6 k))) p (.frz o (.dK (zb6 k)))) p = some (.frz o (.dK (zb6 k))) := zab; generalize upd (upd (upd H8 p (.dK [])) p (.dK (zb6 k))) p (.frz o (.dK (zb6 k))) = H9 at a3 b3 ⊢; have hin8 : ∀ x ∈ cs ++ [c], x.nm = "a" /\ (zbB (zb6 k) (.inr x.nm)).isSome = true := fun x hx => ⟨hA8 x hx, by rw [hA8 x hx, za9 (fun z => zf1 (Sum.inr.inj z)), za8 rfl]; rfl⟩
        refine ⟨_, rfl, wh, p, p2, o, _, _, _, _, 1, rfl, zgO b3 hkS, SqL.of (a3 _ _ b2), hC8.keep a3, hin8, .inl rfl, zkP hk hno, fun H10 a4 => ⟨rfl, _, rfl, za4 ?_⟩⟩; have a34 := a3.trans a4; refine ⟨_, rfl, fun p' hp' => ⟨_, rfl, zab, kvZ k, rfl, Nat.le_of_ble_eq_true rfl, p', _, rfl, zab, fun o' => ?_⟩⟩; rw [zdK zmO]; have a5 : Same H10 (upd (upd (upd H10 p' (.dK [])) p' (.dK (kvZ k))) p' (.frz o' (.dK (kvZ k)))) := fin (Same.refl _) hp'; have b5 : (upd (upd (upd H10 p' (.dK [])) p' (.dK (kvZ k))) p' (.frz o' (.dK (kvZ k)))) p' = some (.frz o' (.dK (kvZ k))) := zab; generalize upd (upd (upd H10 p' (.dK [])) p' (.dK (kvZ k))) p' (.frz o' (.dK (kvZ k))) = H11 at a5 b5 ⊢; have hinZ : ∀ x ∈ cs ++ [c], x.nm = "a" /\ (zbB (kvZ k) (.inr x.nm)).isSome = true := fun x hx => ⟨hA8 x hx, by rw [hA8 x hx, za8 rfl]; rfl⟩
        have a35 := a34.trans a5; refine ⟨_, rfl, wh, p', p2, o', _, _, _, _, 2, rfl, zj7 b5 hkS, SqL.of (a35 _ _ b2), hC8.keep a35, hinZ, .inr rfl, zmz, fun H12 a6 => ⟨rfl, _, rfl, za4 ?_⟩⟩; exact ⟨_, _, rfl, (((s6.trans a1).trans a2).trans a35).trans a6⟩
      . rintro σ H6 ⟨v4, v5, rfl, s6⟩; exact ⟨_, _, _, rfl, s6⟩
    . rintro σ H2 ⟨v3, v4, v5, rfl, s2⟩; exact hQ _ (s0.trans s2)
theorem zbr {K : PySem.W.Frag} {H : Hp} {zs : List (V × Cl)} (hl : zs.length <= 6) (h : ∀ z ∈ zs, CallT K H z.1 z.2 /\ Sh z.2.wd /\ Sh z.2.nm) : Calls K H (zs.map (·.1)) (zs.map (·.2)) := by
  refine ⟨by rw [List.length_map, List.length_map], by rw [List.length_map]; exact hl, fun i v e => ?_, fun c hc => ?_⟩
  . rw [List.getElem?_map] at e; obtain ⟨z, hz, rfl⟩ := Option.map_eq_some_iff.mp e; exact ⟨z.2, by rw [List.getElem?_map, hz]; rfl, (h z (List.mem_of_getElem? hz)).1⟩
  . obtain ⟨z, hz, rfl⟩ := List.mem_map.mp hc; exact (h z hz).2
def Zs (K : PySem.W.Frag) (H : Hp) (zs : List (V × Cl)) : Prop := ∀ z ∈ zs, CallT K H z.1 z.2 /\ Sh z.2.wd /\ Sh z.2.nm
theorem Zs.keep {K : PySem.W.Frag} {H H' : Hp} {zs : List (V × Cl)} (s : Same H H') (h : Zs K H zs) : Zs K H' zs := fun z hz => ⟨(h z hz).1.keep s, (h z hz).2⟩
theorem Zs.updL {K : PySem.W.Frag} {H : Hp} {a : Addr} {us : List V} {o : HO} {zs : List (V × Cl)} (ha : H a = some (.lst us)) (h : Zs K H zs) : Zs K (upd H a o) zs := fun z hz => by
  obtain ⟨⟨t, q, h1, h2, h3⟩, h4⟩ := h z hz; exact ⟨⟨t, q, h1, SqT.updL ha h2, SqT.updL ha h3⟩, h4⟩
theorem Zs.app {K : PySem.W.Frag} {H : Hp} {zs ys : List (V × Cl)} (h : Zs K H zs) (h' : Zs K H ys) : Zs K H (zs ++ ys) := fun z hz => (List.mem_append.mp hz).elim (h z) (h' z)
theorem Zs.one {K : PySem.W.Frag} {H : Hp} {v : V} {c : Cl} (h : CallT K H v c) (hs : Sh c.wd /\ Sh c.nm) : Zs K H [(v, c)] := fun z hz => by rw [List.mem_singleton.mp hz]; exact ⟨h, hs⟩
theorem Zs.sub {K : PySem.W.Frag} {H : Hp} {zs ys : List (V × Cl)} (h : Zs K H zs) (hs : ∀ z ∈ ys, z ∈ zs) : Zs K H ys := fun z hz => h z (hs z hz)
def ins (zs : List (V × Cl)) (n : Nat) (z : V × Cl) : List (V × Cl) := zs.take n ++ [z] ++ zs.drop n
theorem zhZ (zs : List (V × Cl)) (n : Nat) (z : V × Cl) : (ins zs n z).map (·.1) = (zs.map (·.1)).take n ++ [z.1] ++ (zs.map (·.1)).drop n := by
  unfold ins; rw [List.map_append, List.map_append, List.map_take, List.map_drop]
  rfl
theorem mem_ins {zs : List (V × Cl)} {n : Nat} {z x : V × Cl} : x ∈ ins zs n z ↔ x = z \/ x ∈ zs := by
  unfold ins; rw [List.mem_append, List.mem_append, List.mem_singleton]; constructor
  . rintro ((h | h) | h)
    . exact .inr (List.mem_of_mem_take h)
    . exact .inl h
    . exact .inr (List.mem_of_mem_drop h)
  . rintro (h | h)
    . exact .inl (.inr h)
    . rw [<- List.take_append_drop n zs] at h
      rcases List.mem_append.mp h with h | h
      . exact .inl (.inl h)
      . exact .inr h
theorem zhY (zs : List (V × Cl)) (n : Nat) (z : V × Cl) : (ins zs n z).length = zs.length + 1 := by
  unfold ins; have := congrArg List.length (List.take_append_drop n zs); rw [List.length_append] at this; rw [List.length_append, List.length_append, List.length_singleton]; omega
theorem Zs.ins {K : PySem.W.Frag} {H : Hp} {zs : List (V × Cl)} {n : Nat} {z : V × Cl} (h : Zs K H zs) (hz : Zs K H [z]) : Zs K H (ins zs n z) := fun x hx => (mem_ins.mp hx).elim (fun e => e ▸ hz z (List.mem_singleton.mpr rfl)) (h x)
def zep (c : Cl) : Prop := c.b < c.e /\ c.wd = "look" /\ c.p = none
theorem zjj {k : Str} (hk : Kd k) {c : Cl} (h : zep c) : okC k c = true := by
  unfold okC tlV; rw [h.2.1, h.2.2, decide_eq_true h.1, Bool.true_and]; exact zgw hk
theorem zh1 {k : Str} (hk : Kd k) {cs : List Cl} (h : ∀ c ∈ cs, zep c) : zaP k cs := List.all_eq_true.mpr fun c hc => zjj hk (h c hc)
theorem zgA (k : Str) {c : Cl} (h : ¬ c.b < c.e) : okC k c = false := by unfold okC; rw [decide_eq_false h, Bool.false_and]
theorem zll {k : Str} (hk : Kd k) : zcU k (if k = "number" then "put" else "set") 2 = false /\ zcU k "look" 2 = false /\ zcU k "pull" 1 = false := by rcases hk with rfl | rfl <;> decide
theorem zgL (xs : List V) (n : Nat) : zdS xs none (some (n : Int)) = xs.take n := by
  unfold zdS; rw [HT.sIx_none, HT.sIx_nat, List.drop_zero, Nat.sub_zero]
  by_cases h : n <= xs.length
  . rw [Nat.min_eq_left h]
  . rw [Nat.min_eq_right (by omega), List.take_of_length_le (Nat.le_refl _), List.take_of_length_le (by omega)]
theorem zgq (xs : List V) (n : Nat) : zdS xs (some (n : Int)) none = xs.drop n := by
  unfold zdS; rw [HT.sIx_none, HT.sIx_nat]
  by_cases h : n <= xs.length
  . rw [Nat.min_eq_left h, List.take_of_length_le (by rw [List.length_drop]; exact Nat.le_refl _)]
  . rw [Nat.min_eq_right (by omega), List.drop_of_length_le (Nat.le_refl _), List.drop_of_length_le (by omega), List.take_nil]
theorem zid : Sh "a" := ⟨by decide, by decide +kernel⟩
theorem zmT : Sh "ab" := ⟨by decide, by decide +kernel⟩
theorem zky : Sh "pull" := ⟨by decide, by decide +kernel⟩
theorem zlf {k : Str} : Sh (if k = "number" then "put" else "set") := by
  by_cases h : k = "number"
  . rw [if_pos h]; exact ⟨by decide, by decide +kernel⟩
  . rw [if_neg h]; exact ⟨by decide, by decide +kernel⟩
theorem zkq {wh : Int} {k : Str} {zs : List (V × Cl)} {n : Nat} {z : V × Cl} (hk : Kd k) (hA : ∀ x ∈ zs, x.2.nm = "a") (hb : z.2.nm = "a" /\ okC k z.2 = false) : zbf wh k ((ins zs n z).map (·.2)) = 1 := by
  refine zhC (fun _ c hc => ?_) hk (zfx (List.mem_map.mpr ⟨z, mem_ins.mpr (.inl rfl), rfl⟩) hb.2); obtain ⟨x, hx, rfl⟩ := List.mem_map.mp hc
  rcases mem_ins.mp hx with rfl | hx
  . exact hb.1
  . exact hA x hx
theorem zlV {wh : Int} {k : Str} {zs : List (V × Cl)} {n : Nat} {z : V × Cl} (hk : Kd k) (hL : ∀ x ∈ zs, zep x.2) (hz : zep z.2) (hn : ¬ z.2.nm = "a") : zbf wh k ((ins zs n z).map (·.2)) = if 2 < wh then 3 else 0 := by
  by_cases h : 2 < wh
  . rw [if_pos h]; unfold zbf; rw [if_pos ⟨h, fun a => hn (a z.2 (List.mem_map.mpr ⟨z, mem_ins.mpr (.inl rfl), rfl⟩))⟩]
  . rw [if_neg h]; refine zfK (fun h' => absurd h' h) hk (zh1 hk fun c hc => ?_); obtain ⟨x, hx, rfl⟩ := List.mem_map.mp hc
    rcases mem_ins.mp hx with rfl | hx
    . exact hz
    . exact hL x hx
def zhB (K : PySem.W.Frag) : Sp := fun vs H Q _ => ∃ (a : Addr) (ns : List Int), vs = [.ref a] /\ SqL K H a (ns.map V.int) /\ ns.length <= 63 /\ ∀ H', Q (.bl true) H'
def zlG (K : PySem.W.Frag) : Sp := fun vs H Q _ => ∃ (a : Addr) (ns : List Int) (k : Int), vs = [.ref a, .int k] /\ SqL K H a (ns.map V.int) /\ 0 <= k /\ Q (.int (ns.getD k.toNat 0)) H
theorem zhn (F : Fun K "_law_at" "_law_at" zdU f fd) (B : Bl mg) : FnOk P w K mg base CX0 1 f fd ["_law_script", "_law_k"] (zlG K) := by
  refine F.ok zg6 (fun vs H Q E h => ?_) (fun cdv A outer s H vs Q E hr h => ?_)
  . obtain ⟨a, ns, i, rfl, _⟩ := h; rfl
  . obtain ⟨a, ns, i, rfl, ha, h0, k⟩ := h
    refine ⟨_, (zad (zaH (zar zmu (pv 1) (zaw zaK rfl B.len_ PySem.boot_len (zaa (pv 0) zac)) (zat _))
    (zae (zam (zan zbc (pv 0) (pv 1) (fun _ _ => rfl)))) zau)
    (zae (zam zag))), ?_⟩
    refine ⟨_, rfl, _, rfl, a, _, rfl, .inl ha, _, _, rfl, rfl, _, rfl, ?_⟩; refine znE (fun h => ?_) (fun h => ?_)
    . rw [List.length_map] at h; obtain ⟨v, hv, hv'⟩ := zdT (xs := ns.map V.int) h0 (by rw [List.length_map]; exact h)
      rw [List.getElem?_map] at hv'; obtain ⟨z, hz, rfl⟩ := Option.map_eq_some_iff.mp hv'; have e : ns.getD i.toNat 0 = z := by rw [List.getD_eq_getElem?_getD, hz]; rfl
      rw [e] at k; exact ⟨_, rfl, _, rfl, a, _, i, _, rfl, rfl, ha, hv, k⟩
    . rw [List.length_map] at h; have e : ns.getD i.toNat 0 = 0 := by rw [List.getD_eq_getElem?_getD, List.getElem?_eq_none (by omega)]; rfl
      rw [e] at k; exact k
def zl1 {cdv : Value} {A : Around} {outer : List Env} {s : Shared} {H : Hp} {E : XK} (B : Bl mg) (hr : Room 10 (A.deeper (PyProof.Rows.envOfC "law" (zaf zes) s.heap.objs.size f cdv))) (g__law_at : FnX P w K mg base "_law_at" 1 (zlG K)) (g__law_thing_by_thing : FnX P w K mg base "_law_thing_by_thing" 10 (zjZ K)) (g__law_under_base : FnX P w K mg base "_law_under_base" 9 (zhg K)) (g__law_word_for : FnX P w K mg base "_law_word_for" 9 (zg2 K)) :
    { t : TS // PSs (zdu CX0 P w K mg base zht "law" (zaf zes) f cdv A outer s H E).nox (zaU zes) t } :=
  ⟨_, (zad (zao (i := 1) sc_law.nd rfl (by first | exact .inl rfl | exact .inr rfl) (zan zbc (zaF (zaa zaj (zaa zaj zac))) (zaW zcw (zaW zcw (zaW zfv (zai g__law_at zaD hr rfl (zaa (pv 0) (zaa zag zac))) zag) zag) zag) (fun _ _ => rfl)))
    (zad (zao (i := 2) sc_law.nd rfl (by first | exact .inl rfl | exact .inr rfl) (zaW zcw (zaW zcw (zaW zfv (zai g__law_at zaD hr rfl (zaa (pv 0) (zaa zag zac))) zag) zag) zag))
    (zad (zby (i := 3) (zbj (sc := zaf zes) (N0 := zht) (ns := []) (idx := []) (by decide +kernel)) rfl sc_law.nd rfl (by first | exact .inl rfl | exact .inr rfl) (zcC rfl B.range_ (zaa (pv 2) zac)) (fun _ _ _ _ => zbu) (fun _ _ _ _ => (zay (zaa (pv 0) (zaa (zaW zfL (pv 0) zag) (zaa (zay (zaa zaj (zaa zaj zac))) (zaa zbp zac)))))) rfl)
    (zad (zao (i := 4) sc_law.nd rfl (by first | exact .inl rfl | exact .inr rfl) (zaW zcw (zaW zcw (zaW zfv (zai g__law_at zaD hr rfl (zaa (pv 0) (zaa zag zac))) zag) zag) (zaW zfL (zaw zaK rfl B.len_ PySem.boot_len (zaa (pv 3) zac)) zag)))
    (zad (zao (i := 5) sc_law.nd rfl (by first | exact .inl rfl | exact .inr rfl) (zaW zcw (zaW zcw (zaW zfv (zai g__law_at zaD hr rfl (zaa (pv 0) (zaa zag zac))) zag) zag) zag))
    (zad (zao (i := 6) sc_law.nd rfl (by first | exact .inl rfl | exact .inr rfl) (zaF (zaa (zay (zaa (pv 5) (zaa (pv 5) (zaa (zay (zaa zaj (zaa zaj zac))) (zaa zbp zac))))) zac)))
    (zad (zas (zcg PySem.F.plainAttrs_list PySem.F.slot_list_append PySem.F.type_list_append zbo (pv 6) (zaa (zay (zaa (pv 5) (zaa (zaW zlP (pv 5) zag) (zaa (zay (zaa zaj (zaa zaj zac))) (zaa zbp zac))))) zac)))
    (zad (zas (zcg PySem.F.plainAttrs_list PySem.F.slot_list_append PySem.F.type_list_append zbo (pv 6) (zaa (zay (zaa zag (zaa zag (zaa (zay (zaa (zan zbc (zaF (zaa zaj (zaa zaj zac))) (zaZ zfd rfl B.int_ PyProof.Rows.boot_int (zaa (zbR za7 (pv 1) zaj (zat _)) zac)) (fun _ _ => rfl)) (zaa zaj (zaa zag zac)))) (zaa zbp zac))))) zac)))
    (zad (zas (zcg PySem.F.plainAttrs_list PySem.F.slot_list_extend PySem.F.type_list_extend zdP (pv 6) (zaa (zaF (zaa (zay (zaa zag (zaa zag (zaa (zay (zaa zaj (zaa zaj (zaa zag zac)))) (zaa zbp zac))))) (zaa (zay (zaa zag (zaa zag (zaa (zay (zaa zaj (zaa zaj zac))) (zaa zbp zac))))) zac))) zac)))
    (zad (zaT PassesOwn.never rfl (zcC rfl B.range_ (zaa zag zac)) (zaz (i := 7) sc_law.nd rfl (by first | exact .inl rfl | exact .inr rfl))
    (zad (zaH (zar zcI (zai g__law_word_for zaD hr rfl (zaa (pv 7) (zaa (pv 1) (zaa (zaZ zbI rfl B.list_ PyProof.Rows.boot_list (zaa (pv 3) zac)) zac)))) zaj (zat _))
    (zae (zam zba)) zau)
    (zad (zaH (zar zcI (zai g__law_word_for zaD hr rfl (zaa (pv 7) (zaa zaj (zaa (zaZ zbI rfl B.list_ PyProof.Rows.boot_list (zaa (pv 3) zac)) zac)))) zaj (zat _))
    (zae (zam zba)) zau)
    (zad (zaT PassesOwn.never rfl (zax (pv 6)) (zaz (i := 8) sc_law.nd rfl (by first | exact .inl rfl | exact .inr rfl))
    (zad (zao (i := 9) sc_law.nd rfl (by first | exact .inl rfl | exact .inr rfl) (zaW zc3 (zaW zc3 (zb4 zdh (pv 3) zcD (zcF (pv 4))) (zaF (zaa (pv 8) zac))) (zb4 zdh (pv 3) (zcF (pv 4)) zcD)))
    (zad (zaH (zar zcI (zai g__law_word_for zaD hr rfl (zaa (pv 7) (zaa (pv 1) (zaa (pv 9) zac)))) zaj (zat _))
    (zae (zam zba)) zau)
    (zae (zaH (zc1 (zcj (zai g__law_under_base zaD hr rfl (zaa (pv 7) (zaa (pv 1) (zaa (pv 9) zac))))))
    (zae (zam zba)) zau)))))
    (zad (zao (i := 9) sc_law.nd rfl (by first | exact .inl rfl | exact .inr rfl) (zaW zc3 (zaW zc3 (zb4 zdh (pv 3) zcD (zcF (pv 4))) (zaF (zaa (zay (zaa zag (zaa zag (zaa (zay (zaa zaj (zaa zaj zac))) (zaa zbp zac))))) zac))) (zb4 zdh (pv 3) (zcF (pv 4)) zcD)))
    (zad (zao (i := 10) sc_law.nd rfl (by first | exact .inl rfl | exact .inr rfl) (zan zbc (zaF (zaa zaj (zaa zaj zac))) (zaZ zfd rfl B.int_ PyProof.Rows.boot_int (zaa (zbR zk2 (pv 7) zag (zat _)) zac)) (fun _ _ => rfl)))
    (zae (zaH (zar zcI (zai g__law_word_for zaD hr rfl (zaa (pv 7) (zaa (pv 1) (zaa (pv 9) zac)))) (pv 10) (zat _))
    (zae (zam zba)) zau))))))))
    (zae (zam (zai g__law_thing_by_thing zaD hr rfl (zaa (pv 1) (zaa (pv 3) (zaa (pv 6) zac))))))))))))))))⟩
theorem zfR {k : Str} {c : Cl} (h : zcU k c.wd (tlV c).length = false) : okC k c = false := by unfold okC; rw [h, Bool.and_false]
theorem zlk (F : Fun K "law" "law" zes f fd) (B : Bl mg) (g__law_at : FnX P w K mg base "_law_at" 1 (zlG K)) (g__law_thing_by_thing : FnX P w K mg base "_law_thing_by_thing" 10 (zjZ K)) (g__law_under_base : FnX P w K mg base "_law_under_base" 9 (zhg K)) (g__law_word_for : FnX P w K mg base "_law_word_for" 9 (zg2 K)) :
    FnOk P w K mg base CX0 11 f fd ["_law_script"] (zhB K) := by
  refine F.ok sc_law (fun vs H Q E h => ?_) (fun cdv A outer s H vs Q E hr h => ?_)
  . obtain ⟨a, ns, rfl, _⟩ := h; rfl
  . obtain ⟨a, ns, rfl, hS, hlen, k⟩ := h; have hsz : sizeLine = 16777216 := sizeLine_eq; refine ⟨_, (zl1 B hr g__law_at g__law_thing_by_thing g__law_under_base g__law_word_for).2, ?_⟩; refine ⟨Nat.le_of_ble_eq_true rfl, fun p0 hp0 => ?_⟩; have s0 : Same H (upd H p0 (.lst [.str "row", .str "number"])) := Same.upd hp0
    obtain ⟨kd, hk, hkd⟩ : ∃ kd : Str, Kd kd /\ atI [V.str "row", .str "number"] (ns.getD (0 : Int).toNat 0 * 48271 % 1009 % 2) = some (.str kd) := by
      have : ns.getD (0 : Int).toNat 0 * 48271 % 1009 % 2 = 0 \/ ns.getD (0 : Int).toNat 0 * 48271 % 1009 % 2 = 1 := by omega
      rcases this with e | e <;> rw [e]
      . exact ⟨_, .inl rfl, at0⟩
      . exact ⟨_, .inr rfl, at1⟩
    refine ⟨_, rfl, a, ns, 0, rfl, s0.seq hS, by decide, _, _, rfl, rfl, .inr ⟨by decide, by decide⟩, _, _, rfl, rfl, (by show (0 : Int) < _; first | decide | omega), _, _, rfl, rfl, (by show (0 : Int) < _; first | decide | omega), p0, _, _, _, rfl, rfl, SqL.of zab, hkd, ?_⟩
    generalize upd H p0 (.lst [.str "row", .str "number"]) = H0 at s0 ⊢; have hkS := zjo hk; have hm : 0 <= ns.getD (1 : Int).toNat 0 * 48271 % 1013 % 5 /\ ns.getD (1 : Int).toNat 0 * 48271 % 1013 % 5 < 5 := by omega
    refine ⟨_, rfl, a, ns, 1, rfl, s0.seq hS, by decide, _, _, rfl, rfl, .inr ⟨by decide, by decide⟩, _, _, rfl, rfl, (by show (0 : Int) < _; first | decide | omega), _, _, rfl, rfl, (by show (0 : Int) < _; first | decide | omega), ?_⟩
    refine ⟨_, rfl, ns.getD (1 : Int).toNat 0 * 48271 % 1013 % 5, rfl, by omega, by omega, zin (lo := 0) (n := (ns.getD (1 : Int).toNat 0 * 48271 % 1013 % 5).toNat) (fun D i ys H' => Same H0 H' /\ H' D = some (.lst ys) /\ ∃ zs : List (V × Cl), ys = zs.map (·.1) /\ zs.length = i /\ Zs K H' zs /\ ∀ z ∈ zs, zep z.2 /\ z.2.nm = "a") (by omega) (fun D hD => ⟨Same.upd hD, zab, [], rfl, rfl, (fun z hz => by cases hz), fun z hz => by cases hz⟩) (fun D i ys H' ⟨_, h1, zs, h2, h3, _⟩ => ⟨h1, by rw [h2, List.length_map, h3]⟩) ?_ ?_⟩
    . rintro D i ys H' R hD hi ⟨s1, hDy, zs, rfl, hzl, hZ, hL⟩ hR; refine ⟨_, rfl, _, rfl, _, _, rfl, rfl, Nat.le_of_ble_eq_true rfl, fun q hq => ?_⟩; have a1 : Same H' (upd H' q (.tup [.str "look", .str "a"])) := Same.upd hq; have b1 : (upd H' q (.tup [.str "look", .str "a"])) q = some (.tup [.str "look", .str "a"]) := zab; generalize upd H' q (.tup [.str "look", .str "a"]) = H1 at a1 b1 ⊢; refine ⟨Nat.le_of_ble_eq_true rfl, fun t ht => ?_⟩; have a2 := Same.upd (o := .tup [.int (0 + (i : Nat)), .int (0 + (i : Nat) + 2), .ref q, .non]) ht; have b2 := zab (H := H1) (a := t) (o := .tup [.int (0 + (i : Nat)), .int (0 + (i : Nat) + 2), .ref q, .non]); generalize upd H1 t (.tup [.int (0 + (i : Nat)), .int (0 + (i : Nat) + 2), .ref q, .non]) = H2 at a2 b2 ⊢; have a12 := a1.trans a2; have d2 := a12 _ _ hDy; have hc : CallT K H2 (.ref t) ⟨0 + (i : Nat), 0 + (i : Nat) + 2, "look", "a", none⟩ := ⟨t, q, rfl, SqT.of b2, SqT.of (a2 _ _ b1)⟩; refine hR _ _ d2 ⟨Same.updN (s1.trans a12) hD, zab, zs ++ [(.ref t, ⟨0 + (i : Nat), 0 + (i : Nat) + 2, "look", "a", none⟩)], by rw [List.map_append]; rfl, by rw [List.length_append, hzl]; rfl, Zs.updL d2 ((hZ.keep a12).app (Zs.one hc ⟨zcE, zid⟩)), fun z hz => ?_⟩
      rcases List.mem_append.mp hz with hz | hz
      . exact hL z hz
      . rw [List.mem_singleton.mp hz]; exact ⟨⟨(show (0 : Int) + (i : Nat) < 0 + (i : Nat) + 2 by omega), rfl, rfl⟩, rfl⟩
    rintro gl ys H3 hgl ⟨s3, hgl3, zs, rfl, hzl, hZ, hL⟩; have hzm : zs.length < 5 := by rw [hzl]; omega
    have s03 := s0.trans s3; refine ⟨_, rfl, a, ns, 1, rfl, s03.seq hS, by decide, _, _, rfl, rfl, .inr ⟨by decide, by decide⟩, _, _, rfl, rfl, (by show (0 : Int) < _; first | decide | omega), _, rfl, gl, _, rfl, .inl (SqL.of hgl3), _, _, rfl, rfl, _, _, rfl, rfl, (by show (0 : Int) < _; first | decide | omega), ?_⟩
    obtain ⟨sp, hsp, hSP⟩ : ∃ sp : Nat, sp <= zs.length /\ (ns.getD (1 : Int).toNat 0 * 48271 % 1019 % (((zs.map (·.1)).length : Int) + 1)) = (sp : Int) := by
      have h1 : (zs.map (·.1)).length = zs.length := List.length_map ..; have h2 : 0 <= (ns.getD (1 : Int).toNat 0 * 48271 % 1019 % (((zs.map (·.1)).length : Int) + 1)) /\ (ns.getD (1 : Int).toNat 0 * 48271 % 1019 % (((zs.map (·.1)).length : Int) + 1)) < ((zs.map (·.1)).length : Int) + 1 := ⟨Int.emod_nonneg _ (by omega), Int.emod_lt_of_pos _ (by omega)⟩
      exact ⟨((ns.getD (1 : Int).toNat 0 * 48271 % 1019 % (((zs.map (·.1)).length : Int) + 1))).toNat, by omega, by omega⟩
    refine ⟨_, rfl, a, ns, 2, rfl, s03.seq hS, by decide, _, _, rfl, rfl, .inr ⟨by decide, by decide⟩, _, _, rfl, rfl, (by show (0 : Int) < _; first | decide | omega), _, _, rfl, rfl, (by show (0 : Int) < _; first | decide | omega), ?_⟩
    have step : ∀ {Hx Hy : Hp} {t q : Addr} {c : Cl}, Hy t = some (.tup [.int c.b, .int c.e, .ref q, .non]) -> Hx q = some (.tup (.str c.wd :: tlV c)) -> Same Hx Hy -> CallT K Hy (.ref t) c := fun h1 h2 s => ⟨_, _, rfl, SqT.of h1, SqT.of (s _ _ h2)⟩; refine ⟨_, rfl, _, rfl, Nat.le_of_ble_eq_true rfl, fun q1 hq1 => ?_⟩; have a1 : Same H3 (upd H3 q1 (.tup [.str "look", .str "a"])) := Same.upd hq1; have b1 : (upd H3 q1 (.tup [.str "look", .str "a"])) q1 = some (.tup [.str "look", .str "a"]) := zab; generalize upd H3 q1 (.tup [.str "look", .str "a"]) = G1 at a1 b1 ⊢; refine ⟨Nat.le_of_ble_eq_true rfl, fun t1 ht1 => ?_⟩; have a2 : Same G1 (upd G1 t1 (.tup [.int (ns.getD (2 : Int).toNat 0 * 48271 % 1021 % 50), .int (ns.getD (2 : Int).toNat 0 * 48271 % 1021 % 50), .ref q1, .non])) := Same.upd ht1; have c1 : CallT K (upd G1 t1 (.tup [.int (ns.getD (2 : Int).toNat 0 * 48271 % 1021 % 50), .int (ns.getD (2 : Int).toNat 0 * 48271 % 1021 % 50), .ref q1, .non])) (.ref t1) ⟨(ns.getD (2 : Int).toNat 0 * 48271 % 1021 % 50), (ns.getD (2 : Int).toNat 0 * 48271 % 1021 % 50), "look", "a", none⟩ := step zab b1 a2; generalize upd G1 t1 (.tup [.int (ns.getD (2 : Int).toNat 0 * 48271 % 1021 % 50), .int (ns.getD (2 : Int).toNat 0 * 48271 % 1021 % 50), .ref q1, .non]) = G2 at a2 c1 ⊢; refine ⟨Nat.le_of_ble_eq_true rfl, fun bl hbl => ?_⟩; have a3 : Same G2 (upd G2 bl (.lst [.ref t1])) := Same.upd hbl; have b3 : (upd G2 bl (.lst [.ref t1])) bl = some (.lst [.ref t1]) := zab; generalize upd G2 bl (.lst [.ref t1]) = G3 at a3 b3 ⊢; have r3 := (a1.trans a2).trans a3; have nbl : H3 bl = none := zbs (a1.trans a2) hbl; have z3 : Zs K G3 [(.ref t1, ⟨(ns.getD (2 : Int).toNat 0 * 48271 % 1021 % 50), (ns.getD (2 : Int).toNat 0 * 48271 % 1021 % 50), "look", "a", none⟩)] := Zs.one (c1.keep a3) ⟨zcE, zid⟩; refine ⟨_, rfl, .inl ⟨rfl, _, SqL.of b3⟩, _, rfl, _, rfl, _, _, rfl, rfl, Nat.le_of_ble_eq_true rfl, fun q2 hq2 => ?_⟩; have a4 : Same G3 (upd G3 q2 (.tup [.str "look", .str "a"])) := Same.upd hq2; have b4 : (upd G3 q2 (.tup [.str "look", .str "a"])) q2 = some (.tup [.str "look", .str "a"]) := zab; generalize upd G3 q2 (.tup [.str "look", .str "a"]) = G4 at a4 b4 ⊢; refine ⟨Nat.le_of_ble_eq_true rfl, fun t2 ht2 => ?_⟩; have a5 : Same G4 (upd G4 t2 (.tup [.int (ns.getD (2 : Int).toNat 0 * 48271 % 1021 % 50), .int ((ns.getD (2 : Int).toNat 0 * 48271 % 1021 % 50) - 1), .ref q2, .non])) := Same.upd ht2; have c5 : CallT K (upd G4 t2 (.tup [.int (ns.getD (2 : Int).toNat 0 * 48271 % 1021 % 50), .int ((ns.getD (2 : Int).toNat 0 * 48271 % 1021 % 50) - 1), .ref q2, .non])) (.ref t2) ⟨(ns.getD (2 : Int).toNat 0 * 48271 % 1021 % 50), (ns.getD (2 : Int).toNat 0 * 48271 % 1021 % 50) - 1, "look", "a", none⟩ := step zab b4 a5; generalize upd G4 t2 (.tup [.int (ns.getD (2 : Int).toNat 0 * 48271 % 1021 % 50), .int ((ns.getD (2 : Int).toNat 0 * 48271 % 1021 % 50) - 1), .ref q2, .non]) = G5 at a5 c5 ⊢; have a45 := a4.trans a5; have b5 := a45 _ _ b3
    refine ⟨bl, _, _, rfl, rfl, b5, by show 1 + 1 <= _; omega, ?_⟩
    have r6 : Same H3 (upd G5 bl (.lst ([.ref t1] ++ [.ref t2]))) := Same.updN (r3.trans a45) nbl; have z6 : Zs K (upd G5 bl (.lst ([.ref t1] ++ [.ref t2]))) ([(.ref t1, ⟨(ns.getD (2 : Int).toNat 0 * 48271 % 1021 % 50), (ns.getD (2 : Int).toNat 0 * 48271 % 1021 % 50), "look", "a", none⟩)] ++ [(.ref t2, ⟨(ns.getD (2 : Int).toNat 0 * 48271 % 1021 % 50), (ns.getD (2 : Int).toNat 0 * 48271 % 1021 % 50) - 1, "look", "a", none⟩)]) := Zs.updL b5 ((z3.keep a45).app (Zs.one c5 ⟨zcE, zid⟩)); have b6 : (upd G5 bl (.lst ([.ref t1] ++ [.ref t2]))) bl = some (.lst [.ref t1, .ref t2]) := zab; generalize upd G5 bl (.lst ([.ref t1] ++ [.ref t2])) = G6 at r6 z6 b6 ⊢; refine ⟨_, rfl, .inl ⟨rfl, _, SqL.of b6⟩, Nat.le_of_ble_eq_true rfl, fun pl hpl => ?_⟩; have a7 : Same G6 (upd G6 pl (.lst [.str "set", .str "put"])) := Same.upd hpl; have b7 : (upd G6 pl (.lst [.str "set", .str "put"])) pl = some (.lst [.str "set", .str "put"]) := zab; generalize upd G6 pl (.lst [.str "set", .str "put"]) = G7 at a7 b7 ⊢
    have hodd : atI [V.str "set", .str "put"] (if decide (V.str kd = V.str "number") = true then (1 : Int) else 0) = some (.str (if kd = "number" then "put" else "set")) := by
      by_cases e : kd = "number"
      . rw [if_pos e, if_pos (decide_eq_true (by rw [e]))]; exact at1
      . rw [if_neg e, if_neg (by rw [decide_eq_true_eq]; exact fun z => e (V.str.inj z))]; exact at0
    refine ⟨_, rfl, rfl, .inr ⟨_, rfl, pl, _, _, _, rfl, rfl, SqL.of b7, hodd, Nat.le_of_ble_eq_true rfl, fun q3 hq3 => ?_⟩⟩; have a8 : Same G7 (upd G7 q3 (.tup [.str (if kd = "number" then "put" else "set"), .str "a", .int 1])) := Same.upd hq3; have b8 : (upd G7 q3 (.tup [.str (if kd = "number" then "put" else "set"), .str "a", .int 1])) q3 = some (.tup [.str (if kd = "number" then "put" else "set"), .str "a", .int 1]) := zab; generalize upd G7 q3 (.tup [.str (if kd = "number" then "put" else "set"), .str "a", .int 1]) = G8 at a8 b8 ⊢; refine ⟨Nat.le_of_ble_eq_true rfl, fun t3 ht3 => ?_⟩; have a9 : Same G8 (upd G8 t3 (.tup [.int 0, .int 1, .ref q3, .non])) := Same.upd ht3; have c9 : CallT K (upd G8 t3 (.tup [.int 0, .int 1, .ref q3, .non])) (.ref t3) ⟨0, 1, if kd = "number" then "put" else "set", "a", some 1⟩ := step zab b8 a9; generalize upd G8 t3 (.tup [.int 0, .int 1, .ref q3, .non]) = G9 at a9 c9 ⊢; have a79 := (a7.trans a8).trans a9; have b9 := a79 _ _ b6; refine ⟨bl, _, _, rfl, rfl, b9, by show 2 + 1 <= _; omega, ?_⟩
    have z9 := (z6.keep a79).app (Zs.one c9 ⟨zlf, zid⟩); have r10 : Same H3 (upd G9 bl (.lst ([.ref t1, .ref t2] ++ [.ref t3]))) := Same.updN (r6.trans a79) nbl; have z10 := Zs.updL (o := .lst ([.ref t1, .ref t2] ++ [.ref t3])) b9 z9; have b10 : (upd G9 bl (.lst ([.ref t1, .ref t2] ++ [.ref t3]))) bl = some (.lst [.ref t1, .ref t2, .ref t3]) := zab; generalize upd G9 bl (.lst ([.ref t1, .ref t2] ++ [.ref t3])) = G10 at r10 z10 b10 ⊢; refine ⟨_, rfl, .inl ⟨rfl, _, SqL.of b10⟩, Nat.le_of_ble_eq_true rfl, fun q4 hq4 => ?_⟩; have a11 : Same G10 (upd G10 q4 (.tup [.str "look", .str "a", .int 1])) := Same.upd hq4; have b11 : (upd G10 q4 (.tup [.str "look", .str "a", .int 1])) q4 = some (.tup [.str "look", .str "a", .int 1]) := zab; generalize upd G10 q4 (.tup [.str "look", .str "a", .int 1]) = G11 at a11 b11 ⊢; refine ⟨Nat.le_of_ble_eq_true rfl, fun t4 ht4 => ?_⟩; have a12 : Same G11 (upd G11 t4 (.tup [.int 0, .int 1, .ref q4, .non])) := Same.upd ht4; have c12 : CallT K (upd G11 t4 (.tup [.int 0, .int 1, .ref q4, .non])) (.ref t4) ⟨0, 1, "look", "a", some 1⟩ := step zab b11 a12; generalize upd G11 t4 (.tup [.int 0, .int 1, .ref q4, .non]) = G12 at a12 c12 ⊢; refine ⟨Nat.le_of_ble_eq_true rfl, fun q5 hq5 => ?_⟩; have a13 : Same G12 (upd G12 q5 (.tup [.str "pull", .str "a"])) := Same.upd hq5; have b13 : (upd G12 q5 (.tup [.str "pull", .str "a"])) q5 = some (.tup [.str "pull", .str "a"]) := zab; generalize upd G12 q5 (.tup [.str "pull", .str "a"]) = G13 at a13 b13 ⊢; refine ⟨Nat.le_of_ble_eq_true rfl, fun t5 ht5 => ?_⟩; have a14 : Same G13 (upd G13 t5 (.tup [.int 0, .int 1, .ref q5, .non])) := Same.upd ht5; have c14 : CallT K (upd G13 t5 (.tup [.int 0, .int 1, .ref q5, .non])) (.ref t5) ⟨0, 1, "pull", "a", none⟩ := step zab b13 a14; generalize upd G13 t5 (.tup [.int 0, .int 1, .ref q5, .non]) = G14 at a14 c14 ⊢; refine ⟨Nat.le_of_ble_eq_true rfl, fun el hel => ?_⟩; have a15 : Same G14 (upd G14 el (.lst [.ref t4, .ref t5])) := Same.upd hel; have b15 : (upd G14 el (.lst [.ref t4, .ref t5])) el = some (.lst [.ref t4, .ref t5]) := zab; generalize upd G14 el (.lst [.ref t4, .ref t5]) = G15 at a15 b15 ⊢; have a1115 := (((a11.trans a12).trans a13).trans a14).trans a15; have bb := a1115 _ _ b10; have z15 := ((z10.keep a1115).app (Zs.one (c12.keep ((a13.trans a14).trans a15)) ⟨zcE, zid⟩)).app (Zs.one (c14.keep a15) ⟨zky, zid⟩); refine ⟨bl, el, _, _, rfl, rfl, bb, b15, by show 3 + 2 <= _; omega, ?_⟩
    have r16 : Same H3 (upd G15 bl (.lst ([.ref t1, .ref t2, .ref t3] ++ [.ref t4, .ref t5]))) := Same.updN (r10.trans a1115) nbl; have z16 := Zs.updL (o := .lst ([.ref t1, .ref t2, .ref t3] ++ [.ref t4, .ref t5])) bb z15; have b16 : (upd G15 bl (.lst ([.ref t1, .ref t2, .ref t3] ++ [.ref t4, .ref t5]))) bl = some (.lst [.ref t1, .ref t2, .ref t3, .ref t4, .ref t5]) := zab; generalize upd G15 bl (.lst ([.ref t1, .ref t2, .ref t3] ++ [.ref t4, .ref t5])) = G at r16 z16 b16 ⊢
    obtain ⟨zb, hzb, hzbl, hZb, hbad⟩ : ∃ zb : List (V × Cl), [V.ref t1, .ref t2, .ref t3, .ref t4, .ref t5] = zb.map (·.1) /\ zb.length = 5 /\ Zs K G zb /\ ∀ z ∈ zb, z.2.nm = "a" /\ okC kd z.2 = false := by
      refine ⟨_, ?_, ?_, z16, ?_⟩
      . rfl
      . rfl
      . have hno := zll hk; intro z hz; simp only [List.cons_append, List.nil_append, List.mem_cons, List.not_mem_nil, or_false] at hz
        rcases hz with rfl | rfl | rfl | rfl | rfl
        . exact ⟨rfl, zgA kd (Int.lt_irrefl _)⟩
        . exact ⟨rfl, zgA kd (by show ¬ (ns.getD (2 : Int).toNat 0 * 48271 % 1021 % 50) < (ns.getD (2 : Int).toNat 0 * 48271 % 1021 % 50) - 1; omega)⟩
        . exact ⟨rfl, zfR (show zcU kd _ _ = false from hno.1)⟩
        . exact ⟨rfl, zfR (show zcU kd _ _ = false from hno.2.1)⟩
        . exact ⟨rfl, zfR (show zcU kd _ _ = false from hno.2.2)⟩
    rw [hzb] at b16; clear z16 z15 z10 z9 z6 z3; have gG := r16 _ _ hgl3; have zG : Zs K G zs := hZ.keep r16; have sG : Same H G := s03.trans r16; have hA : ∀ x ∈ zs, x.2.nm = "a" := fun x hx => (hL x hx).2; have hLL : ∀ x ∈ zs, zep x.2 := fun x hx => (hL x hx).1; have hLk : Lk (zs.map (·.2)) := fun c hc => by obtain ⟨x, hx, rfl⟩ := List.mem_map.mp hc; exact hLL x hx
    have hAc : ∀ c : Cl, c ∈ zs.map (·.2) -> c.nm = "a" := fun c hc => by obtain ⟨x, hx, rfl⟩ := List.mem_map.mp hc; exact hA x hx
    have hokG : zaP kd (zs.map (·.2)) := zh1 hk fun c hc => hLk c hc; have hzl4 : zs.length <= 4 := by omega
    refine ⟨5, rfl, by decide, by decide, ziD (lo := 0) (n := (5 : Int).toNat) (fun i σ H4 => ∃ v7 v8 v9 v10, σ = [some (.ref a), some (.str kd), some (.int (ns.getD (1 : Int).toNat 0 * 48271 % 1013 % 5)), some (.ref gl), some (.int (ns.getD (1 : Int).toNat 0 * 48271 % 1019 % (((zs.map (·.1)).length : Int) + 1))), some (.int (ns.getD (2 : Int).toNat 0 * 48271 % 1021 % 50)), some (.ref bl), v7, v8, v9, v10] /\ Same G H4) ⟨none, none, none, none, rfl, Same.refl _⟩ ?_ ?_⟩
    . rintro i σ H4 hi ⟨v7, v8, v9, v10, rfl, s4⟩; have hwh : (0 : Int) <= 0 + (i : Int) := by omega
      generalize (0 : Int) + (i : Int) = wh at hwh ⊢; have g4 := s4 _ _ gG; refine ⟨_, rfl, _, rfl, _, rfl, gl, _, rfl, .inl (SqL.of g4), fun g1 hg1 => ?_⟩; have e1 : Same H4 (upd H4 g1 (.lst (zs.map (·.1)))) := Same.upd hg1; have f1 : (upd H4 g1 (.lst (zs.map (·.1)))) g1 = some (.lst (zs.map (·.1))) := zab; generalize upd H4 g1 (.lst (zs.map (·.1))) = F1 at e1 f1 ⊢; refine ⟨wh, kd, g1, _, _, rfl, hwh, hkS, SqL.of f1, zbr (by omega) (zG.keep (s4.trans e1)), fun _ _ => hLk, 0, zfK (fun _ => hAc) hk hokG, fun F2 e2 => ⟨rfl, _, rfl, za4 ?_⟩⟩
      have s5 := (s4.trans e1).trans e2; refine ⟨_, rfl, _, rfl, gl, _, rfl, .inl (SqL.of (s5 _ _ gG)), fun g3 hg3 => ?_⟩; have e3 : Same F2 (upd F2 g3 (.lst (zs.map (·.1)))) := Same.upd hg3; have f3 : (upd F2 g3 (.lst (zs.map (·.1)))) g3 = some (.lst (zs.map (·.1))) := zab; generalize upd F2 g3 (.lst (zs.map (·.1))) = F3 at e3 f3 ⊢; refine ⟨wh, "pile", g3, _, _, rfl, hwh, zfB, SqL.of f3, zbr (by omega) (zG.keep (s5.trans e3)), fun z => absurd z zb2, 2, zjq (fun _ => hAc) zb2, fun F4 e4 => ⟨rfl, _, rfl, za4 ?_⟩⟩
      have s6 := (s5.trans e3).trans e4
      refine ⟨_, rfl, bl, rfl, ⟨_, SqL.of (s6 _ _ b16)⟩, zaV (K := K) (a := bl) (xs := zb.map (·.1)) (fun j σ H5 => ∃ v8 v9 v10, σ = [some (.ref a), some (.str kd), some (.int (ns.getD (1 : Int).toNat 0 * 48271 % 1013 % 5)), some (.ref gl), some (.int (ns.getD (1 : Int).toNat 0 * 48271 % 1019 % (((zs.map (·.1)).length : Int) + 1))), some (.int (ns.getD (2 : Int).toNat 0 * 48271 % 1021 % 50)), some (.ref bl), some (.int wh), v8, v9, v10] /\ Same G H5)
        ⟨_, _, _, rfl, s6⟩ (fun j σ H5 _ ⟨_, _, _, _, s7⟩ => SqL.of (s7 _ _ b16)) ?_ ?_⟩
      . rintro j v σ H5 hj ⟨v8, v9, v10, rfl, s7⟩; rw [List.getElem?_map] at hj; obtain ⟨z, hz, rfl⟩ := Option.map_eq_some_iff.mp hj; have hzm' := List.mem_of_getElem? hz; refine ⟨_, rfl, _, rfl, (sp : Int), congrArg V.int hSP, gl, _, rfl, SqL.of (s7 _ _ gG), fun p1 hp1 => ?_⟩; rw [zgL]; have x1 : Same H5 (upd H5 p1 (.lst ((zs.map (·.1)).take sp))) := Same.upd hp1; have y1 : (upd H5 p1 (.lst ((zs.map (·.1)).take sp))) p1 = some (.lst ((zs.map (·.1)).take sp)) := zab; generalize upd H5 p1 (.lst ((zs.map (·.1)).take sp)) = E1 at x1 y1 ⊢; refine ⟨_, rfl, Nat.le_of_ble_eq_true rfl, fun p2 hp2 => ?_⟩; have x2 : Same E1 (upd E1 p2 (.lst [z.1])) := Same.upd hp2; have y2 : (upd E1 p2 (.lst [z.1])) p2 = some (.lst [z.1]) := zab; generalize upd E1 p2 (.lst [z.1]) = E2 at x2 y2 ⊢; have ltk : ((zs.map (·.1)).take sp).length <= 4 := by rw [List.length_take, List.length_map]; omega
        refine ⟨p1, p2, _, _, rfl, rfl, x2 _ _ y1, y2, by show _ + 1 <= _; omega, fun p3 hp3 => ?_⟩
        have x3 : Same E2 (upd E2 p3 (.lst ((zs.map (·.1)).take sp ++ [z.1]))) := Same.upd hp3; have y3 : (upd E2 p3 (.lst ((zs.map (·.1)).take sp ++ [z.1]))) p3 = some (.lst ((zs.map (·.1)).take sp ++ [z.1])) := zab; generalize upd E2 p3 (.lst ((zs.map (·.1)).take sp ++ [z.1])) = E3 at x3 y3 ⊢; have x13 := (x1.trans x2).trans x3; refine ⟨_, rfl, _, rfl, (sp : Int), congrArg V.int hSP, gl, _, rfl, SqL.of ((s7.trans x13) _ _ gG), fun p4 hp4 => ?_⟩; rw [zgq]; have x4 : Same E3 (upd E3 p4 (.lst ((zs.map (·.1)).drop sp))) := Same.upd hp4; have y4 : (upd E3 p4 (.lst ((zs.map (·.1)).drop sp))) p4 = some (.lst ((zs.map (·.1)).drop sp)) := zab; generalize upd E3 p4 (.lst ((zs.map (·.1)).drop sp)) = E4 at x4 y4 ⊢; have ldr : ((zs.map (·.1)).drop sp).length <= 4 := by rw [List.length_drop, List.length_map]; omega
        refine ⟨p3, p4, _, _, rfl, rfl, x4 _ _ y3, y4, by rw [List.length_append, List.length_singleton]; omega, fun p5 hp5 => ?_⟩
        rw [<- zhZ]; have x5 : Same E4 (upd E4 p5 (.lst ((ins zs sp z).map (·.1)))) := Same.upd hp5; have y5 : (upd E4 p5 (.lst ((ins zs sp z).map (·.1)))) p5 = some (.lst ((ins zs sp z).map (·.1))) := zab; generalize upd E4 p5 (.lst ((ins zs sp z).map (·.1))) = E5 at x5 y5 ⊢; have x15 := s7.trans ((x13.trans x4).trans x5); have hli : (ins zs sp z).length <= 6 := by rw [zhY]; omega
        have hzi : Zs K E5 (ins zs sp z) := (zG.keep x15).ins (Zs.sub (hZb.keep x15) fun y hy => by rw [List.mem_singleton.mp hy]; exact hzm')
        have hres : ∀ wh, zbf wh kd ((ins zs sp z).map (·.2)) = 1 := fun wh => zkq hk hA (hbad z hzm'); refine ⟨_, rfl, _, rfl, _, rfl, wh, kd, p5, _, _, rfl, hwh, hkS, SqL.of y5, zbr hli hzi, fun _ ho => absurd ho (zfx (List.mem_map.mpr ⟨z, mem_ins.mpr (.inl rfl), rfl⟩) (hbad z hzm').2), 1, hres wh, fun E6 x6 => ⟨rfl, _, rfl, za4 ?_⟩⟩; refine ⟨_, rfl, _, rfl, _, rfl, wh, kd, p5, _, _, rfl, hwh, hkS, SqL.of (x6 _ _ y5), zbr hli (hzi.keep x6), hres wh, fun E7 x7 => ⟨_, rfl, za4 ?_⟩⟩; exact ⟨_, _, _, rfl, (x15.trans x6).trans x7⟩
      . rintro σ H5 ⟨v8, v9, v10, rfl, s7⟩; refine ⟨_, rfl, _, rfl, (sp : Int), congrArg V.int hSP, gl, _, rfl, SqL.of (s7 _ _ gG), fun p1 hp1 => ?_⟩; rw [zgL]; have x1 : Same H5 (upd H5 p1 (.lst ((zs.map (·.1)).take sp))) := Same.upd hp1; have y1 : (upd H5 p1 (.lst ((zs.map (·.1)).take sp))) p1 = some (.lst ((zs.map (·.1)).take sp)) := zab; generalize upd H5 p1 (.lst ((zs.map (·.1)).take sp)) = E1 at x1 y1 ⊢; refine ⟨Nat.le_of_ble_eq_true rfl, fun q6 hq6 => ?_⟩; have x0 : Same E1 (upd E1 q6 (.tup [.str "look", .str "ab"])) := Same.upd hq6; have y0 : (upd E1 q6 (.tup [.str "look", .str "ab"])) q6 = some (.tup [.str "look", .str "ab"]) := zab; generalize upd E1 q6 (.tup [.str "look", .str "ab"]) = D1 at x0 y0 ⊢; refine ⟨Nat.le_of_ble_eq_true rfl, fun t6 ht6 => ?_⟩; have x0' : Same D1 (upd D1 t6 (.tup [.int 0, .int 1, .ref q6, .non])) := Same.upd ht6; have cab : CallT K (upd D1 t6 (.tup [.int 0, .int 1, .ref q6, .non])) (.ref t6) ⟨0, 1, "look", "ab", none⟩ := step zab y0 x0'; generalize upd D1 t6 (.tup [.int 0, .int 1, .ref q6, .non]) = D2 at x0' cab ⊢; obtain ⟨z, hz1, hz2⟩ : ∃ z : V × Cl, z.1 = .ref t6 /\ z.2 = ⟨0, 1, "look", "ab", none⟩ := ⟨(_, _), rfl, rfl⟩; rw [<- hz1] at cab ⊢; rw [<- hz2] at cab; have x00 := x0.trans x0'; refine ⟨Nat.le_of_ble_eq_true rfl, fun p2 hp2 => ?_⟩; have x2' : Same D2 (upd D2 p2 (.lst [z.1])) := Same.upd hp2; have y2 : (upd D2 p2 (.lst [z.1])) p2 = some (.lst [z.1]) := zab; generalize upd D2 p2 (.lst [z.1]) = E2 at x2' y2 ⊢; have x2 := x00.trans x2'; have ltk : ((zs.map (·.1)).take sp).length <= 4 := by rw [List.length_take, List.length_map]; omega
        refine ⟨p1, p2, _, _, rfl, rfl, x2 _ _ y1, y2, by show _ + 1 <= _; omega, fun p3 hp3 => ?_⟩
        have x3 : Same E2 (upd E2 p3 (.lst ((zs.map (·.1)).take sp ++ [z.1]))) := Same.upd hp3; have y3 : (upd E2 p3 (.lst ((zs.map (·.1)).take sp ++ [z.1]))) p3 = some (.lst ((zs.map (·.1)).take sp ++ [z.1])) := zab; generalize upd E2 p3 (.lst ((zs.map (·.1)).take sp ++ [z.1])) = E3 at x3 y3 ⊢; have x13 := (x1.trans x2).trans x3; refine ⟨_, rfl, _, rfl, (sp : Int), congrArg V.int hSP, gl, _, rfl, SqL.of ((s7.trans x13) _ _ gG), fun p4 hp4 => ?_⟩; rw [zgq]; have x4 : Same E3 (upd E3 p4 (.lst ((zs.map (·.1)).drop sp))) := Same.upd hp4; have y4 : (upd E3 p4 (.lst ((zs.map (·.1)).drop sp))) p4 = some (.lst ((zs.map (·.1)).drop sp)) := zab; generalize upd E3 p4 (.lst ((zs.map (·.1)).drop sp)) = E4 at x4 y4 ⊢; have ldr : ((zs.map (·.1)).drop sp).length <= 4 := by rw [List.length_drop, List.length_map]; omega
        refine ⟨p3, p4, _, _, rfl, rfl, x4 _ _ y3, y4, by rw [List.length_append, List.length_singleton]; omega, fun p5 hp5 => ?_⟩
        rw [<- zhZ]; have x5 : Same E4 (upd E4 p5 (.lst ((ins zs sp z).map (·.1)))) := Same.upd hp5; have y5 : (upd E4 p5 (.lst ((ins zs sp z).map (·.1)))) p5 = some (.lst ((ins zs sp z).map (·.1))) := zab; generalize upd E4 p5 (.lst ((ins zs sp z).map (·.1))) = E5 at x5 y5 ⊢; have x15 := s7.trans ((x13.trans x4).trans x5); have hli : (ins zs sp z).length <= 6 := by rw [zhY]; omega
        have hlook : zep z.2 := by rw [hz2]; exact ⟨by show (0 : Int) < 1; decide, rfl, rfl⟩
        have hna : ¬ z.2.nm = "a" := by rw [hz2]; show ¬ ("ab" : Str) = "a"; decide
        have hzi : Zs K E5 (ins zs sp z) := (zG.keep x15).ins (Zs.one (cab.keep (((x2'.trans x3).trans x4).trans x5)) (by rw [hz2]; exact ⟨zcE, zmT⟩))
        have hres := zlV (wh := wh) (n := sp) hk hLL hlook hna
        have hLk2 : Lk ((ins zs sp z).map (·.2)) := fun c hc => by
          obtain ⟨x, hx, rfl⟩ := List.mem_map.mp hc
          rcases mem_ins.mp hx with rfl | hx
          . exact hlook
          . exact hLL x hx
        refine ⟨Nat.le_of_ble_eq_true rfl, fun pd hpd => ?_⟩; have x6 : Same E5 (upd E5 pd (.lst [.str "none", .str "no thing"])) := Same.upd hpd; have y6 : (upd E5 pd (.lst [.str "none", .str "no thing"])) pd = some (.lst [.str "none", .str "no thing"]) := zab; generalize upd E5 pd (.lst [.str "none", .str "no thing"]) = E6 at x6 y6 ⊢
        have hdue : atI [V.str "none", .str "no thing"] (if decide (2 < wh) = true then (1 : Int) else 0) = some (.str (zfF (if 2 < wh then 3 else 0))) := by
          by_cases e : 2 < wh
          . rw [if_pos e, if_pos (decide_eq_true e)]; exact at1
          . rw [if_neg e, if_neg (by rw [decide_eq_true_eq]; exact e)]; exact at0
        refine ⟨_, rfl, _, _, rfl, rfl, .inr ⟨_, rfl, pd, _, _, _, rfl, rfl, SqL.of y6, hdue, ?_⟩⟩; refine ⟨_, rfl, _, rfl, _, rfl, wh, kd, p5, _, _, rfl, hwh, hkS, SqL.of (x6 _ _ y5), zbr hli (hzi.keep x6), fun _ _ => hLk2, _, hres, fun E7 x7 => ⟨_, rfl, rfl, _, rfl, zeN (by simp) ?_⟩⟩
        exact ⟨_, _, _, _, rfl, (x15.trans x6).trans x7⟩
    . rintro σ H4 ⟨v7, v8, v9, v10, rfl, s4⟩; refine ⟨_, rfl, _, rfl, _, rfl, kd, gl, bl, _, _, zs.map (·.2), zb.map (·.2), rfl, hk, s4 _ _ gG, zbr (by omega) (zG.keep s4), by rw [List.length_map]; omega, hAc, hokG, SqL.of (s4 _ _ b16), zbr (by omega) (hZb.keep s4), fun c hc => ?_, fun H5 s5 => k _⟩
      obtain ⟨x, hx, rfl⟩ := List.mem_map.mp hc; exact hbad x hx
end
theorem tp_mk {P : Program} {w : World} {K : PySem.W.Frag} {h : Heap} {mg : Str -> Option Value} (X : K.In h) (G : h.Ns mainGlobals mg) {st pt r b n : Addr} {t1 t2 t3 ne : Nat} {its : List ((Str × Nat) × (Str × Nat) × Addr × Value)} {np : Nat}
    (aS : PySem.W.nsIn K mainGlobals "STARTS" = some (some (.ref st))) (aP : PySem.W.nsIn K mainGlobals "PARTS" = some (some (.ref pt))) (aN : PySem.W.nsIn K mainGlobals "NoKind" = some (some (.ref n))) (aB : PySem.W.nsIn K mainGlobals "BadCall" = some (some (.ref b)))
    (lS : K.lookup st = some ⟨.type "dict", none, .dict #[⟨PyData.keyHash w.params "row", .str "row" t1, .ref r⟩, ⟨PyData.keyHash w.params "number", .str "number" t2, .int 0 t3⟩] ne, #[]⟩)
    (lr : K.lookup r = some ⟨.type "tuple", none, .seq #[] 0, #[]⟩) (hS : (st == sysModules) = false) (hP : (pt == sysModules) = false)
    (lP : K.lookup pt = some ⟨.type "dict", none, .dict (its.map fun x => (⟨reduceHash (Builtin.Tuple.tupleHashOf [PyData.keyHash w.params x.1.1, PyData.keyHash w.params x.2.1.1]), .ref x.2.2.1, x.2.2.2⟩ : DictEntry)).toArray np, #[]⟩)
    (hit : ∀ x ∈ its, K.lookup x.2.2.1 = some ⟨.type "tuple", none, .seq #[.str x.1.1 x.1.2, .str x.2.1.1 x.2.1.2] 0, #[]⟩)
    (hk : Paired (fun (p : List Key × V) (q : List Key × Addr × Value) => p.1 = q.1 /\ RelV p.2 q.2.2) zdA (its.map fun x => ([(Sum.inr x.1.1 : Key), Sum.inr x.2.1.1], x.2.2.1, x.2.2.2))) (nd : (its.map fun x => (x.1.1, x.2.1.1)).Nodup)
    (xN : PySem.W.excIn K n [.type "ValueError", .type "Exception", .type "BaseException", .type "object"] "ValueError.__new__" = true) (xB : PySem.W.excIn K b [.type "ValueError", .type "Exception", .type "BaseException", .type "object"] "ValueError.__new__" = true)
    (e1 : PySem.W.exmOne K (.ref b) (.ref b) = some true) (e2 : PySem.W.exmOne K (.ref n) (.ref b) = some false) (e3 : PySem.W.exmOne K (.ref n) (.ref n) = some true) : Tp P w K mg st pt r b n where
  mST := PySem.W.mg_of X G aS
  mPT := PySem.W.mg_of X G aP
  tST := zhA (xs := [("row", t1, .ref r), ("number", t2, .int 0 t3)]) lS hS (.cons ⟨rfl, rfl⟩ (.cons ⟨rfl, _, rfl⟩ .nil)) (by show (["row", "number"] : List Str).Nodup; decide)
  tPT := zhf lP hit hP hk nd
  em := fun _ => .inr ⟨_, #[], 0, lr, rfl, rfl, Nat.zero_le _, .nil⟩
  kN := ⟨PySem.W.mg_of X G aN, xN⟩
  kB := ⟨PySem.W.mg_of X G aB, xB⟩
  e1 := e1
  e2 := e2
  e3 := e3
theorem tx_mk {K : PySem.W.Frag} {h : Heap} {mg : Str -> Option Value} (X : K.In h) (G : h.Ns mainGlobals mg) {b n th oe nl : Addr} (aB : PySem.W.nsIn K mainGlobals "BadCall" = some (some (.ref b))) (aN : PySem.W.nsIn K mainGlobals "NoKind" = some (some (.ref n))) (aT : PySem.W.nsIn K mainGlobals "NoThing" = some (some (.ref th))) (aO : PySem.W.nsIn K mainGlobals "OrderError" = some (some (.ref oe))) (aL : PySem.W.nsIn K mainGlobals "NoLine" = some (some (.ref nl)))
    (aV : PySem.W.nsIn K mainGlobals "ValueError" = some none) (xT : PySem.W.excIn K th [.type "ValueError", .type "Exception", .type "BaseException", .type "object"] "ValueError.__new__" = true)
    (e4 : PySem.W.exmOne K (.ref th) (.ref b) = some false) (e5 : PySem.W.exmOne K (.ref th) (.ref n) = some false) (e6 : PySem.W.exmOne K (.ref th) (.ref th) = some true) (e7 : PySem.W.exmOne K (.ref b) (.ref oe) = some true) (xb : HT.excCls K b = true)
    (k1 : PySem.W.kitOne K (.ref b) (.ref n) = some false) (k2 : PySem.W.kitOne K (.ref b) (.ref th) = some false) (k3 : PySem.W.kitOne K (.ref b) (.ref b) = some true) (k4 : PySem.W.kitOne K (.ref b) (.ref nl) = some false) (k5 : PySem.W.kitOne K (.ref b) (.type "ValueError") = some true) : Tx K mg b n th oe nl :=
  ⟨⟨PySem.W.mg_of X G aT, xT⟩, PySem.W.mg_of X G aO, PySem.W.mg_of X G aL, PySem.W.mg_none_of X G aV, e4, e5, e6, e7, xb, k1, k2, k3, k4, k5⟩
theorem all_mk {l : PySem.W.OpenLaw} {w : World} {K : PySem.W.Frag} {h : Heap} {mg : Str -> Option Value} {fa : Addr} (X : K.In h) (G : h.Ns mainGlobals mg) (hfa : mg "law" = some (.ref fa)) {st pt r b n : Addr} (T : Tp l.prog w K mg st pt r b n) {th oe nl : Addr} (Y : Tx K mg b n th oe nl)
    {f0 f1 f2 f3 f4 f5 f6 f7 f8 f9 f10 f11 f12 f13 f14 f15 f16 f17 f18 f19 f20 f21 f22 f23 f24 f25 f26 f27 f28 f29 f30 f31 f32 f33 f34 f35 f36 f37 f38 f39 : Addr} {d0 d1 d2 d3 d4 d5 d6 d7 d8 d9 d10 d11 d12 d13 d14 d15 d16 d17 d18 d19 d20 d21 d22 d23 d24 d25 d26 d27 d28 d29 d30 d31 d32 d33 d34 d35 d36 d37 d38 d39 : FuncData}
    (a0 : FnAt K "check_kind" zca f0 d0)
    (a1 : FnAt K "start" zfy f1 d1)
    (a2 : FnAt K "is_whole_number" zbh f2 d2)
    (a3 : FnAt K "has_parts" zcl f3 d3)
    (a4 : FnAt K "can_do" zeu f4 d4)
    (a5 : FnAt K "check_deed" zcc f5 d5)
    (a6 : FnAt K "do_row" zeG f6 d6)
    (a7 : FnAt K "do_number" zcr f7 d7)
    (a8 : FnAt K "do_deed" zdw f8 d8)
    (a9 : FnAt K "answers" zdz f9 d9)
    (a10 : FnAt K "check_times" zbU f10 d10)
    (a11 : FnAt K "ahead" zfz f11 d11)
    (a12 : FnAt K "free_calls" za5 f12 d12)
    (a13 : FnAt K "check_calls" zbV f13 d13)
    (a14 : FnAt K "has_each_once" zbC f14 d14)
    (a15 : FnAt K "keeps_time" zbJ f15 d15)
    (a16 : FnAt K "gives_the_answers" zaJ f16 d16)
    (a17 : FnAt K "is_order" zcT f17 d17)
    (a18 : FnAt K "shows_none" zce f18 d18)
    (a19 : FnAt K "can_come_out" zaR f19 d19)
    (a20 : FnAt K "ways_on" zdL f20 d20)
    (a21 : FnAt K "search_order" zbL f21 d21)
    (a22 : FnAt K "things_behind" zbA f22 d22)
    (a23 : FnAt K "next_level" zcd f23 d23)
    (a24 : FnAt K "dead_ends" zbS f24 d24)
    (a25 : FnAt K "order_of" zcQ f25 d25)
    (a26 : FnAt K "thing_of" zcS f26 d26)
    (a27 : FnAt K "numbers_of" zbH f27 d27)
    (a28 : FnAt K "own_calls" zbQ f28 d28)
    (a29 : FnAt K "check_things" zbK f29 d29)
    (a30 : FnAt K "is_order_of_all" za1 f30 d30)
    (a31 : FnAt K "merged" zbZ f31 d31)
    (a32 : FnAt K "order_of_all" zaS f32 d32)
    (a33 : FnAt K "_law_at" zdU f33 d33)
    (a34 : FnAt K "_law_one" zcY f34 d34)
    (a35 : FnAt K "_law_word_for" zbD f35 d35)
    (a36 : FnAt K "_law_under_base" zbi f36 d36)
    (a37 : FnAt K "_law_among_kinds" zbe f37 d37)
    (a38 : FnAt K "_law_thing_by_thing" za0 f38 d38)
    (a39 : FnAt K "law" zes f39 d39)
    (z_any : PySem.W.nsIn K mainGlobals "any" = some none)
    (z_bool : PySem.W.nsIn K mainGlobals "bool" = some none)
    (z_enumerate : PySem.W.nsIn K mainGlobals "enumerate" = some none)
    (z_int : PySem.W.nsIn K mainGlobals "int" = some none)
    (z_isinstance : PySem.W.nsIn K mainGlobals "isinstance" = some none)
    (z_len : PySem.W.nsIn K mainGlobals "len" = some none)
    (z_list : PySem.W.nsIn K mainGlobals "list" = some none)
    (z_min : PySem.W.nsIn K mainGlobals "min" = some none)
    (z_range : PySem.W.nsIn K mainGlobals "range" = some none)
    (z_reversed : PySem.W.nsIn K mainGlobals "reversed" = some none)
    (z_sorted : PySem.W.nsIn K mainGlobals "sorted" = some none)
    (z_str : PySem.W.nsIn K mainGlobals "str" = some none)
    (z_tuple : PySem.W.nsIn K mainGlobals "tuple" = some none)
    : ∃ fd : FuncData, (∀ (s : Shared) (v : Value), BindsTo s fd ⟨[v], []⟩ [("_law_script", v)]) /\ ∀ base : Heap, K.In base -> base.Ns mainGlobals mg -> FnOk l.prog w K mg base CX0 40 fa fd ["_law_script"] (zhB K) := by
  have e := hfa.symm.trans (PySem.W.mg_of X G a39.ns); cases e; have B : Bl mg := ⟨PySem.W.mg_none_of X G z_any, PySem.W.mg_none_of X G z_bool, PySem.W.mg_none_of X G z_enumerate, PySem.W.mg_none_of X G z_int, PySem.W.mg_none_of X G z_isinstance, PySem.W.mg_none_of X G z_len, PySem.W.mg_none_of X G z_list, PySem.W.mg_none_of X G z_min, PySem.W.mg_none_of X G z_range, PySem.W.mg_none_of X G z_reversed, PySem.W.mg_none_of X G z_sorted, PySem.W.mg_none_of X G z_str, PySem.W.mg_none_of X G z_tuple⟩; obtain ⟨oc2, od2, kV2, doc2, pm2, an2, cdv2, ct2, osl2, e2, lk2, hcd2⟩ := a39.fn.ex; refine ⟨d39, fun s v => by subst e2; exact .of_eq rfl, fun base _ _ => ?_⟩
  have g_check_kind := a0.gX X G (ze9 (P := l.prog) (w := w) (base := base) a0.fn B T ) (bt1 fun _ _ _ _ _ _ _ => rfl); have g_start := a1.g X G (zi7 (P := l.prog) (w := w) (base := base) a1.fn B T g_check_kind) (bt1 fun _ _ _ _ _ _ _ => rfl); have g_is_whole_number := a2.g X G (zcZ (P := l.prog) (w := w) (base := base) a2.fn B ) (bt1 fun _ _ _ _ _ _ _ => rfl); have g_has_parts := a3.g X G (zfV (P := l.prog) (w := w) (base := base) a3.fn B g_is_whole_number) (bt2 fun _ _ _ _ _ _ _ _ => rfl); have g_can_do := a4.g X G (ziA (P := l.prog) (w := w) (base := base) a4.fn B T g_has_parts) (bt2 fun _ _ _ _ _ _ _ _ => rfl); have g_check_deed := a5.gX X G (ze7 (P := l.prog) (w := w) (base := base) a5.fn B T g_can_do g_check_kind) (bt2 fun _ _ _ _ _ _ _ _ => rfl); have g_do_row := a6.g X G (zib (P := l.prog) (w := w) (base := base) a6.fn B ) (bt2 fun _ _ _ _ _ _ _ _ => rfl); have g_do_number := a7.g X G (zfI (P := l.prog) (w := w) (base := base) a7.fn B ) (bt2 fun _ _ _ _ _ _ _ _ => rfl); have g_do_deed := a8.g X G (zgY (P := l.prog) (w := w) (base := base) a8.fn B g_do_number g_do_row) (bt3 fun _ _ _ _ _ _ _ _ _ => rfl); have g_answers := a9.g X G (zgS (P := l.prog) (w := w) (base := base) a9.fn B T g_check_deed g_do_deed g_start) (bt2 fun _ _ _ _ _ _ _ _ => rfl); have g_check_times := a10.gX X G (zeC (P := l.prog) (w := w) (base := base) a10.fn B T ) (bt1 fun _ _ _ _ _ _ _ => rfl); have g_ahead := a11.g X G (zjO (P := l.prog) (w := w) (base := base) a11.fn B ) (bt2 fun _ _ _ _ _ _ _ _ => rfl); have g_free_calls := a12.g X G (ze1 (P := l.prog) (w := w) (base := base) a12.fn B g_check_times) (bt2 fun _ _ _ _ _ _ _ _ => rfl); have g_check_calls := a13.gX X G (zeI (P := l.prog) (w := w) (base := base) a13.fn B T g_check_deed g_check_kind g_check_times) (bt2 fun _ _ _ _ _ _ _ _ => rfl); have g_has_each_once := a14.g X G (zdv (P := l.prog) (w := w) (base := base) a14.fn B ) (bt2 fun _ _ _ _ _ _ _ _ => rfl); have g_keeps_time := a15.g X G (zeX (P := l.prog) (w := w) (base := base) a15.fn B g_ahead) (bt2 fun _ _ _ _ _ _ _ _ => rfl); have g_gives_the_answers := a16.g X G (zcv (P := l.prog) (w := w) (base := base) a16.fn B g_answers) (bt3 fun _ _ _ _ _ _ _ _ _ => rfl); have g_is_order := a17.gX X G (zgr (P := l.prog) (w := w) (base := base) a17.fn B g_check_calls g_gives_the_answers g_has_each_once g_keeps_time) (bt3 fun _ _ _ _ _ _ _ _ _ => rfl); have g_shows_none := a18.gX X G (ze8 (P := l.prog) (w := w) (base := base) a18.fn B g_check_calls g_start) (bt3 fun _ _ _ _ _ _ _ _ _ => rfl); have g_can_come_out := a19.g X G (zd6 (P := l.prog) (w := w) (base := base) a19.fn B ) (bt3 fun _ _ _ _ _ _ _ _ _ => rfl); have g_ways_on := a20.g X G (zhz (P := l.prog) (w := w) (base := base) a20.fn B g_do_deed g_free_calls) (bt4 fun _ _ _ _ _ _ _ _ _ _ => rfl)
  have g_search_order := a21.g X G (zd3 (P := l.prog) (w := w) (base := base) a21.fn B T g_can_come_out g_start g_ways_on) (bt2 fun _ _ _ _ _ _ _ _ => rfl); have g_things_behind := a22.g X G (zdO (P := l.prog) (w := w) (base := base) a22.fn B g_do_deed) (bt3 fun _ _ _ _ _ _ _ _ _ => rfl); have g_next_level := a23.g X G (ze4 (P := l.prog) (w := w) (base := base) a23.fn B g_free_calls g_things_behind) (bt3 fun _ _ _ _ _ _ _ _ _ => rfl); have g_dead_ends := a24.g X G (zfZ (P := l.prog) (w := w) (base := base) a24.fn B T g_next_level g_start) (bt2 fun _ _ _ _ _ _ _ _ => rfl); have g_order_of := a25.gX X G (zgB (P := l.prog) (w := w) (base := base) a25.fn B g_check_calls g_dead_ends g_search_order) (bt2 fun _ _ _ _ _ _ _ _ => rfl); have g_thing_of := a26.g X G (zgp (P := l.prog) (w := w) (base := base) a26.fn B ) (bt1 fun _ _ _ _ _ _ _ => rfl); have g_numbers_of := a27.g X G (ze5 (P := l.prog) (w := w) (base := base) a27.fn B g_thing_of) (bt2 fun _ _ _ _ _ _ _ _ => rfl); have g_own_calls := a28.g X G (zfM (P := l.prog) (w := w) (base := base) a28.fn B g_numbers_of) (bt2 fun _ _ _ _ _ _ _ _ => rfl); have g_check_things := a29.gX X G (zd5 (P := l.prog) (w := w) (base := base) a29.fn B Y g_check_calls g_own_calls g_thing_of) (bt2 fun _ _ _ _ _ _ _ _ => rfl); have g_is_order_of_all := a30.gX X G (zc6 (P := l.prog) (w := w) (base := base) a30.fn B g_check_things g_gives_the_answers g_has_each_once g_keeps_time g_thing_of) (bt3 fun _ _ _ _ _ _ _ _ _ => rfl); have g_merged := a31.g X G (ziF (P := l.prog) (w := w) (base := base) a31.fn B g_free_calls) (bt2 fun _ _ _ _ _ _ _ _ => rfl); have g_order_of_all := a32.gX X G (zd2 (P := l.prog) (w := w) (base := base) a32.fn B g_check_things g_merged g_numbers_of g_order_of g_own_calls) (bt2 fun _ _ _ _ _ _ _ _ => rfl); have g__law_at := a33.g X G (zhn (P := l.prog) (w := w) (base := base) a33.fn B ) (bt2 fun _ _ _ _ _ _ _ _ => rfl); have g__law_one := a34.gX X G (zgI (P := l.prog) (w := w) (base := base) a34.fn B g_is_order g_is_order_of_all g_order_of g_order_of_all g_shows_none) (bt3 fun _ _ _ _ _ _ _ _ _ => rfl); have g__law_word_for := a35.g X G (zdN (P := l.prog) (w := w) (base := base) a35.fn B T Y g__law_one) (bt3 fun _ _ _ _ _ _ _ _ _ => rfl); have g__law_under_base := a36.g X G (zcR (P := l.prog) (w := w) (base := base) a36.fn B T Y g__law_one) (bt3 fun _ _ _ _ _ _ _ _ _ => rfl); have g__law_among_kinds := a37.g X G (zcG (P := l.prog) (w := w) (base := base) a37.fn B T g_is_order_of_all g_order_of_all) (bt3 fun _ _ _ _ _ _ _ _ _ => rfl); have g__law_thing_by_thing := a38.g X G (zcf (P := l.prog) (w := w) (base := base) a38.fn B g__law_among_kinds) (bt3 fun _ _ _ _ _ _ _ _ _ => rfl); exact (zlk a39.fn B g__law_at g__law_thing_by_thing g__law_under_base g__law_word_for).mono (by decide)
theorem walk {l : PySem.W.OpenLaw} {q : Program} {loose : List Str} {XP : (Str -> Option Value) -> Heap -> Prop} {YP : World -> Heap -> Prop} {d : DefRec} {K : Params -> PySem.W.Frag} (hn : l.most = some 63) (hdf : d.params.defaults = [])
    (hY : ∀ (w : World) (h : Heap), YP w h -> (K w.params).In h)
    (F : ∀ (w : World) (mg : Str -> Option Value) (fa : Addr) (h : Heap), (K w.params).In h -> h.Ns mainGlobals mg -> mg d.name = some (.ref fa) →
      ∃ fd : FuncData, (∀ (s : Shared) (u : Value), BindsTo s fd ⟨[u], []⟩ [("_law_script", u)]) /\ ∀ base : Heap, (K w.params).In base -> base.Ns mainGlobals mg -> FnOk l.prog w (K w.params) mg base CX0 40 fa fd ["_law_script"] (zhB (K w.params))) :
    PySem.W.WalkO q loose XP YP l.row.toRowW d [] (fun f vs => PySem.call f vs) :=
  L2.walk_of (n := 63) (k := 40) (x := "_law_script") (CX := fun _ => CX0) (sp := fun w => zhB (K w.params)) hn (by decide) hdf ⟨rfl, by decide, by decide⟩ hY F (fun _ _ a ns hl _ hS => ⟨a, ns, rfl, hS, hl, fun _ => rfl⟩) fun _ _ _ _ _ z => z
end My
open PySem PySem.W PyProof.Rows
set_option maxRecDepth 100000 in
set_option maxHeartbeats 0 in
theorem PySem.Challenge.cw_callorder_k11_refused_holds : PySem.Challenge.rw_callorder_k11_refused.Holds := by
  w_on; o_law
  refine holds_open (q := HD.q0) (loose := HD.loose0) (Xt := HD.Xt0) (XP := XL HD.q0 []) (Yf := Hook.obs HD.hk) (Ya := Hook.val HD.hk) (YP := Hook.says HD.hk) HD.left0 (Hook.of HD.hk) (Hook.keeps HD.hk) (fun s e => xl_of s (Bool.and_eq_true_iff.mp e).1) XL.keeps (by rfl) (by rfl) (by rfl) (fun s e => recFacts_of (Bool.and_eq_true_iff.mp e).2) (by rfl) (by first | assumption | decide +kernel) (by decide +kernel) ⟨rfl, rfl, rfl, rfl, rfl, by decide +kernel⟩ ?hw ?hc
  (case hw => w_witness2)
  k_fill
  refine My.walk (l := PySem.Challenge.rw_callorder_k11_refused) rfl rfl (fun w h Y => PySem.W.kIn_of Y) ?F
  case F =>
    intro w mg fa h KX G hmg
    have T := My.tp_mk (P := PySem.Challenge.rw_callorder_k11_refused.prog) (w := w) KX G (st := 76) (pt := 78) (r := 77) (its := [(("row", 279), ("put", 280), 79, .int 3 281), (("row", 282), ("take", 283), 80, .int 2 284), (("row", 285), ("look", 286), 81, .int 2 287), (("number", 288), ("set", 289), 82, .int 3 290), (("number", 291), ("add", 292), 83, .int 3 293), (("number", 294), ("look", 295), 84, .int 2 296)])
      rfl rfl rfl rfl rfl rfl (by decide) (by decide) rfl
      (fun x hx => by
        simp only [List.mem_cons, List.not_mem_nil, or_false] at hx
        rcases hx with rfl | rfl | rfl | rfl | rfl | rfl <;> rfl)
      (.cons ⟨rfl, _, rfl⟩ (.cons ⟨rfl, _, rfl⟩ (.cons ⟨rfl, _, rfl⟩ (.cons ⟨rfl, _, rfl⟩ (.cons ⟨rfl, _, rfl⟩ (.cons ⟨rfl, _, rfl⟩ .nil)))))) (by decide) (by kernel_rfl) (by kernel_rfl) (by kernel_rfl) (by kernel_rfl) (by kernel_rfl)
    have Y := My.tx_mk KX G rfl rfl rfl rfl rfl rfl (by kernel_rfl) (by kernel_rfl) (by kernel_rfl) (by kernel_rfl) (by kernel_rfl) (by kernel_rfl) (by kernel_rfl) (by kernel_rfl) (by kernel_rfl) (by kernel_rfl) (by kernel_rfl)
    refine' My.all_mk KX G hmg T Y ?a0 ?a1 ?a2 ?a3 ?a4 ?a5 ?a6 ?a7 ?a8 ?a9 ?a10 ?a11 ?a12 ?a13 ?a14 ?a15 ?a16 ?a17 ?a18 ?a19 ?a20 ?a21 ?a22 ?a23 ?a24 ?a25 ?a26 ?a27 ?a28 ?a29 ?a30 ?a31 ?a32 ?a33 ?a34 ?a35 ?a36 ?a37 ?a38 ?a39 ?z_any ?z_bool ?z_enumerate ?z_int ?z_isinstance ?z_len ?z_list ?z_min ?z_range ?z_reversed ?z_sorted ?z_str ?z_tuple
    (case a0 => exact L2.fnAt rfl rfl rfl rfl)
    (case a1 => exact L2.fnAt rfl rfl rfl rfl)
    (case a2 => exact L2.fnAt rfl rfl rfl rfl)
    (case a3 => exact L2.fnAt rfl rfl rfl rfl)
    (case a4 => exact L2.fnAt rfl rfl rfl rfl)
    (case a5 => exact L2.fnAt rfl rfl rfl rfl)
    (case a6 => exact L2.fnAt rfl rfl rfl rfl)
    (case a7 => exact L2.fnAt rfl rfl rfl rfl)
    (case a8 => exact L2.fnAt rfl rfl rfl rfl)
    (case a9 => exact L2.fnAt rfl rfl rfl rfl)
    (case a10 => exact L2.fnAt rfl rfl rfl rfl)
    (case a11 => exact L2.fnAt rfl rfl rfl rfl)
    (case a12 => exact L2.fnAt rfl rfl rfl rfl)
    (case a13 => exact L2.fnAt rfl rfl rfl rfl)
    (case a14 => exact L2.fnAt rfl rfl rfl rfl)
    (case a15 => exact L2.fnAt rfl rfl rfl rfl)
    (case a16 => exact L2.fnAt rfl rfl rfl rfl)
    (case a17 => exact L2.fnAt rfl rfl rfl rfl)
    (case a18 => exact L2.fnAt rfl rfl rfl rfl)
    (case a19 => exact L2.fnAt rfl rfl rfl rfl)
    (case a20 => exact L2.fnAt rfl rfl rfl rfl)
    (case a21 => exact L2.fnAt rfl rfl rfl rfl)
    (case a22 => exact L2.fnAt rfl rfl rfl rfl)
    (case a23 => exact L2.fnAt rfl rfl rfl rfl)
    (case a24 => exact L2.fnAt rfl rfl rfl rfl)
    (case a25 => exact L2.fnAt rfl rfl rfl rfl)
    (case a26 => exact L2.fnAt rfl rfl rfl rfl)
    (case a27 => exact L2.fnAt rfl rfl rfl rfl)
    (case a28 => exact L2.fnAt rfl rfl rfl rfl)
    (case a29 => exact L2.fnAt rfl rfl rfl rfl)
    (case a30 => exact L2.fnAt rfl rfl rfl rfl)
    (case a31 => exact L2.fnAt rfl rfl rfl rfl)
    (case a32 => exact L2.fnAt rfl rfl rfl rfl)
    (case a33 => exact L2.fnAt rfl rfl rfl rfl)
    (case a34 => exact L2.fnAt rfl rfl rfl rfl)
    (case a35 => exact L2.fnAt rfl rfl rfl rfl)
    (case a36 => exact L2.fnAt rfl rfl rfl rfl)
    (case a37 => exact L2.fnAt rfl rfl rfl rfl)
    (case a38 => exact L2.fnAt rfl rfl rfl rfl)
    (case a39 => exact L2.fnAt rfl rfl rfl rfl)
    (case z_any => exact rfl)
    (case z_bool => exact rfl)
    (case z_enumerate => exact rfl)
    (case z_int => exact rfl)
    (case z_isinstance => exact rfl)
    (case z_len => exact rfl)
    (case z_list => exact rfl)
    (case z_min => exact rfl)
    (case z_range => exact rfl)
    (case z_reversed => exact rfl)
    (case z_sorted => exact rfl)
    (case z_str => exact rfl)
    (case z_tuple => exact rfl)
