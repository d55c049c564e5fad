import PyProof.Rows.All
import Wide.All
import OpenK.AllK
import Wide.FinOn
import Lean
import PyProof.EqAt
import PyProof.EqKinds
import PyProof.TupleCall
import KE.KLam
import KE.KNestM
import KE.KMinKey
import Open.Tops
import PySem.Challenge.RW_callorder_k10_whole_one_after_the_other
set_option Elab.async false
set_option linter.all false
set_option maxRecDepth 100000
theorem nlb {a b : Nat} (h : Nat.ble a b = true) : a <= b := Nat.le_of_ble_eq_true h
theorem fnt : ¬ false = true := Bool.false_ne_true
abbrev Fg := PySem.W.Frag
namespace L2
open PySem PySem.Spec PyProof.Rows
abbrev Key := Sum Int Str
def zgX : Key -> Value -> Bool
  | .inl k,v => Value.isInt k v
  | .inr x,v => Value.isStrOf x v
def zqv (w : World) : Key -> Int
  | .inl k => hashInt k
  | .inr x => hashStr w x
theorem za0 : ∀ {k : Key} {v : Value},zgX k v = true -> (∃ i t,k = Sum.inl i /\ v = Value.int i t) \/ (∃ x t,k = Sum.inr x /\ v = Value.str x t)
  | .inl i,v,h => by
    obtain ⟨t,e⟩ := Value.isInt_shape (k := i) (v := v) h; exact .inl ⟨i,t,rfl,e⟩
  | .inr x,v,h => by
    obtain ⟨t,e⟩ := Value.isStrOf_shape (x := x) (v := v) h; exact .inr ⟨x,t,rfl,e⟩
theorem zkT (i : Int) (t : Tok) : zgX (.inl i) (.int i t) = true := by simp [zgX,Value.isInt]
theorem zcH (x : Str) (t : Tok) : zgX (.inr x) (.str x t) = true := by simp [zgX,Value.isStrOf]
theorem zo0 (a b : Int) : decide ((Sum.inl a : Key) = Sum.inl b) = (a == b) := by
  by_cases e : a = b
  . subst e; simp
  . have h : ¬ (Sum.inl a : Key) = Sum.inl b := fun q => e (Sum.inl.inj q); rw [decide_eq_false h]; exact (beq_eq_false_iff_ne.mpr e).symm
theorem zn1 (a b : Str) : decide ((Sum.inr a : Key) = Sum.inr b) = decide (a = b) := by
  by_cases e : a = b
  . subst e; simp
  . have h : ¬ (Sum.inr a : Key) = Sum.inr b := fun q => e (Sum.inr.inj q); rw [decide_eq_false h,decide_eq_false e]
theorem zpd (a : Int) (b : Str) : decide ((Sum.inl a : Key) = Sum.inr b) = false := decide_eq_false (fun q => nomatch q)
theorem zom (a : Str) (b : Int) : decide ((Sum.inr a : Key) = Sum.inl b) = false := decide_eq_false (fun q => nomatch q)
def zbN (prog : Program) (w : World) : PySem.KeyKind prog w Key where
  is := zgX
  hash := zqv w
  inj := fun v a b ha hb => by
    rcases za0 ha with ⟨i,t,rfl,rfl⟩ | ⟨x,t,rfl,rfl⟩
    . rcases za0 hb with ⟨j,u,rfl,e⟩ | ⟨y,u,rfl,e⟩
      . injection e with e1 _; rw [e1]
      . exact nomatch e
    . rcases za0 hb with ⟨j,u,rfl,e⟩ | ⟨y,u,rfl,e⟩
      . exact nomatch e
      . injection e with e1 _; rw [e1]
  byValue := fun k v h => by
    rcases za0 h with ⟨i,t,rfl,rfl⟩ | ⟨x,t,rfl,rfl⟩ <;> rfl
  pyHash := fun hv h => by
    rcases za0 hv with ⟨i,t,rfl,rfl⟩ | ⟨x,t,rfl,rfl⟩
    . exact wpAny_pyHash_int h
    . exact wpAny_pyHash_str h
  eqBool := fun hu hv h => by
    rcases za0 hu with ⟨i,t,rfl,rfl⟩ | ⟨x,t,rfl,rfl⟩
    . rcases za0 hv with ⟨j,u,rfl,rfl⟩ | ⟨y,u,rfl,rfl⟩
      . rw [zo0] at h; exact wpAny_eqBool_int h
      . rw [zpd] at h; exact SeqAt.EqAt.int_str i t y u _ _ _ _ h
    . rcases za0 hv with ⟨j,u,rfl,rfl⟩ | ⟨y,u,rfl,rfl⟩
      . rw [zom] at h; exact SeqAt.EqAt.str_int x t j u _ _ _ _ h
      . rw [zn1] at h; exact wpAny_eqBool_str h
  «strs» := fun k x t v h => by
    rcases za0 h with ⟨i,u,rfl,e⟩ | ⟨y,u,rfl,e⟩
    . exact nomatch e
    . injection e with e1 _
      subst e1
      cases v <;> rfl
theorem ziz (prog : Program) (w : World) (i : Int) (t : Tok) : (zbN prog w).is (.inl i) (.int i t) = true := zkT i t
theorem ziK (prog : Program) (w : World) (x : Str) (t : Tok) : (zbN prog w).is (.inr x) (.str x t) = true := zcH x t
inductive V where
  | non | bl (b : Bool) | int (i : Int) | str (x : Str) | byt (b : Array UInt8) | flt (b : UInt64) | ref (a : Addr) | ty (n : String)
  deriving DecidableEq
def RelV : V -> Value -> Prop
  | .non,u => u = Value.none
  | .bl b,u => u = Value.bool b
  | .int i,u => ∃ t,u = Value.int i t
  | .str x,u => ∃ t,u = Value.str x t
  | .byt b,u => ∃ t,u = Value.bytes b t
  | .flt b,u => ∃ t,u = Value.float b t
  | .ref a,u => u = Value.ref a
  | .ty n,u => u = Value.type n
abbrev Vals : List V -> List Value -> Prop := Paired RelV
theorem Vals.length {xs : List V} {us : List Value} (r : Vals xs us) : xs.length = us.length := Paired.length r
theorem Vals.get : ∀ {xs : List V} {us : List Value} {i : Nat} {x : V},Vals xs us -> xs[i]? = some x -> ∃ u,us[i]? = some u /\ RelV x u
  | _,_,_,_,.nil,e => by simp at e
  | _,_,0,_,.cons r _,e => by simp at e; subst e; exact ⟨_,rfl,r⟩
  | _,_,i + 1,x,.cons _ t,e => by
    obtain ⟨u,h1,h2⟩ := Vals.get (i := i) (x := x) t (by simpa using e)
    exact ⟨u,by simpa using h1,h2⟩
theorem Vals.set {x : V} {u : Value} (r : RelV x u) : ∀ {xs : List V} {us : List Value} (i : Nat),Vals xs us -> Vals (xs.set i x) (us.set i u)
  | _,_,_,.nil => .nil
  | _,_,0,.cons _ t => .cons r t
  | _,_,i + 1,.cons q t => .cons q (Vals.set r i t)
theorem Vals.append : ∀ {xs ys : List V} {us ws : List Value},Vals xs us -> Vals ys ws -> Vals (xs ++ ys) (us ++ ws)
  | _,_,_,_,.nil,s => s
  | _,_,_,_,.cons r t,s => .cons r (Vals.append t s)
theorem Vals.take : ∀ {xs : List V} {us : List Value} (n : Nat),Vals xs us -> Vals (xs.take n) (us.take n)
  | _,_,0,_ => .nil
  | _,_,_ + 1,.nil => .nil
  | _,_,n + 1,.cons r t => .cons r (Vals.take n t)
theorem Vals.drop : ∀ {xs : List V} {us : List Value} (n : Nat),Vals xs us -> Vals (xs.drop n) (us.drop n)
  | _,_,0,r => r
  | _,_,_ + 1,.nil => .nil
  | _,_,n + 1,.cons _ t => Vals.drop n t
def RelO : Option V -> Option Value -> Prop
  | some v,some u => RelV v u
  | none,none => True
  | _,_ => False
def KV {κ : Type} : List (κ × V) -> List (κ × Value) -> Prop := Paired fun (p : κ × V) (q : κ × Value) => p.1 = q.1 /\ RelV p.2 q.2
def kV : Key -> V
  | .inl i => .int i
  | .inr x => .str x
inductive HO where
  /-- a list -/
  | lst (xs : List V)
  /-- a tuple (never changes) -/
  | tup (xs : List V)
  /-- a dict whose keys are ints and texts; one whose keys are tuples of ints and texts (the empty one is both) -/
  | dK (kvs : List (Key × V)) | dT (kvs : List (List Key × V))
  /-- a set of ints: its members,its size -/
  | set (S : Int -> Bool) (n : Nat)
  /-- an instance of the class at C,its dict at dx,its attributes -/
  | ins (C dx : Addr) (fs : List (Str × V))
  /-- the dict of the instance at x -/
  | own (x : Addr)
  /-- the dict of an exception -/
  | xd (fs : List (Str × V))
  /-- a bound method,f of x -/
  | met (f x : Addr)
  /-- a range object lo,lo + 1,.. below hi -/
  | rng (lo hi : Int)
  /-- a thing that is known to the object (the script; a dict while a loop walks it): read,never written while it is so -/
  | frz (o : Obj) (u : HO)
  /-- a code object's table -/
  | tbl (ps : Array Value)
  /-- any other thing,by what is true of its one object (a def of one's own: SetO a S n := HO.ext fun h => ..) -/
  | ext (φ : Heap -> Prop)
abbrev Hp := Addr -> Option HO
def upd (H : Hp) (a : Addr) (o : HO) : Hp := fun b => if b = a then some o else H b
theorem zab {H : Hp} {a : Addr} {o : HO} : upd H a o a = some o := by unfold upd; rw [if_pos rfl]
theorem zaj {H : Hp} {a b : Addr} {o : HO} (h : b ≠ a) : upd H a o b = H b := by unfold upd; rw [if_neg h]
theorem zhl {H : Hp} {a : Addr} {o u : HO} : upd (upd H a o) a u = upd H a u := by
  funext b; unfold upd; split <;> rfl
theorem za2 {H : Hp} {a b : Addr} {o u : HO} (h : H a = some o) (h' : H b = some u) (d : o ≠ u) : a ≠ b := by
  intro e; subst e; rw [h] at h'; exact d (Option.some.inj h')
theorem zam {H : Hp} {a b : Addr} {o : HO} (h : H a = some o) (h' : H b = none) : a ≠ b := by
  intro e; subst e; rw [h] at h'; cases h'
section
variable (P : Program) (w : World)
def ObjOk (H : Hp) (h : Heap) (a : Addr) : HO -> Prop
  | .lst xs => xs.length <= sizeLine /\ ∃ (its : List Value) (n : Nat),Vals xs its /\ h.get? a = some { cls := .type "list",data := .seq its.toArray n }
  | .tup xs => xs.length <= sizeLine /\ ∃ its : List Value,Vals xs its /\ IsTup h a its.toArray
  | .dK kvs => kvs.length <= sizeLine /\ (a == sysModules) = false /\ ∃ vs,KV kvs vs /\ h.DictOf (zbN P w) a vs
  | .dT kvs => kvs.length <= sizeLine /\ (a == sysModules) = false /\ ∃ xs : List (List Key × Addr × Value),
      Paired (fun (p : List Key × V) (q : List Key × Addr × Value) => p.1 = q.1 /\ H q.2.1 = some (.tup (p.1.map kV)) /\ RelV p.2 q.2.2) kvs xs ∧
      ∃ o es ep,h.get? a = some o /\ o.ExactDict /\ o.data = .dict es ep /\ es.toList = xs.map (entryOfKey (tupleKind (zbN P w))) /\ (xs.map (·.1)).Nodup
  | .set S n => h.SetOf (intKind P w) a S n
  | .ins C dx fs => H dx = some (.own a) /\ fs.length <= 1000 /\ dx ≠ a /\ h.get? a = some (PySem.W.instObj C dx) ∧
      ∃ mA,h.Ns1 dx mA /\ (∀ f,RelO (fs.lookup f) (mA f)) /\ PySem.Within mA (fs.map (·.1))
  | .own _ => ∃ o,h.get? a = some o
  | .xd fs => ∃ mA,h.Ns1 a mA /\ ∀ f,RelO (fs.lookup f) (mA f)
  | .rng lo hi => ∃ t u v,h.get? a = some { cls := .type "range",data := .fields #[.int lo t,.int hi u,.int 1 v] }
  | .frz o u => h.get? a = some o /\ ObjOk H h a u
  | .tbl ps => h.get? a = some { cls := .none,data := .fields ps }
  | .met f x => h.get? a = some (PySem.W.methodObj (.ref f) (.ref x))
  | .ext φ => φ h /\ (∃ o,h.get? a = some o) /\ ∀ h1 h2 : Heap,φ h1 -> (∀ o,h1.get? a = some o -> h2.get? a = some o) -> φ h2
def HOk (H : Hp) (h : Heap) : Prop := ∀ a o,H a = some o -> ObjOk P w H h a o
end
section
variable {P : Program} {w : World} {H H' : Hp} {h h' : Heap} {a : Addr} {o : HO}
theorem ObjOk.lt (x : ObjOk P w H h a o) : a < h.objs.size := by
  cases o with
  | lst xs => obtain ⟨_,_,_,_,e⟩ := x; exact Heap.lt_size e
  | tup xs => obtain ⟨_,_,_,p⟩ := x; exact p.lt
  | dK kvs => obtain ⟨_,_,_,_,o,_,_,e,_⟩ := x; exact Heap.lt_size e
  | dT kvs => obtain ⟨_,_,_,_,o,_,_,e,_⟩ := x; exact Heap.lt_size e
  | set S n => obtain ⟨o,_,_,_,e,_⟩ := x; exact Heap.lt_size e
  | ins C dx fs => obtain ⟨_,_,_,e,_⟩ := x; exact Heap.lt_size e
  | own y => obtain ⟨_,e⟩ := x; exact Heap.lt_size e
  | xd fs => obtain ⟨_,⟨_,_,_,e,_⟩,_⟩ := x; exact Heap.lt_size e
  | rng lo hi => obtain ⟨_,_,_,e⟩ := x; exact Heap.lt_size e
  | frz ob u => obtain ⟨e,_⟩ := x; exact Heap.lt_size e
  | tbl ps => exact Heap.lt_size (show h.get? a = some _ from x)
  | met f y => exact Heap.lt_size (show h.get? a = some _ from x)
  | ext φ => obtain ⟨_,⟨_,e⟩,_⟩ := x; exact Heap.lt_size e
theorem Paired.mapP {α β : Type} {F G : α -> β -> Prop} : ∀ {l₁ : List α} {l₂ : List β},Paired F l₁ l₂ -> (∀ a b,F a b -> G a b) -> Paired G l₁ l₂
  | _,_,.nil,_ => .nil
  | _,_,.cons r t,f => .cons (f _ _ r) (Paired.mapP t f)
theorem Paired.imp' {α β : Type} {F G : α -> β -> Prop} (f : ∀ a b,F a b -> G a b) {l₁ : List α} {l₂ : List β} (r : Paired F l₁ l₂) : Paired G l₁ l₂ := Paired.mapP r f
theorem ObjOk.stay (x : ObjOk P w H h a o) (k : ∀ b u,(b = a \/ H b = some (.own a)) -> h.get? b = some u -> h'.get? b = some u)
    (ho : ∀ b,H b = some (.own a) -> H' b = some (.own a)) (ht : ∀ b xs,H b = some (.tup xs) -> H' b = some (.tup xs)) : ObjOk P w H' h' a o := by
  induction o with
  | lst xs => obtain ⟨z,its,n,r,e⟩ := x; exact ⟨z,its,n,r,k _ _ (.inl rfl) e⟩
  | tup xs => obtain ⟨z,its,r,ob,e,c⟩ := x; exact ⟨z,its,r,ob,k _ _ (.inl rfl) e,c⟩
  | dK kvs => obtain ⟨z,y,vs,r,ob,es,ep,e,c⟩ := x; exact ⟨z,y,vs,r,ob,es,ep,k _ _ (.inl rfl) e,c⟩
  | dT kvs =>
    obtain ⟨z,y,xs,r,ob,es,ep,e,c⟩ := x; exact ⟨z,y,xs,Paired.mapP r fun p q z => ⟨z.1,ht _ _ z.2.1,z.2.2⟩,ob,es,ep,k _ _ (.inl rfl) e,c⟩
  | set S n => obtain ⟨ob,es,ep,t,e,c⟩ := x; exact ⟨ob,es,ep,t,k _ _ (.inl rfl) e,c⟩
  | ins C dx fs =>
    obtain ⟨d,z,ne,e,mA,⟨od,es,ep,e2,c⟩,r⟩ := x; exact ⟨ho _ d,z,ne,k _ _ (.inl rfl) e,mA,⟨od,es,ep,k _ _ (.inr d) e2,c⟩,r⟩
  | own y => obtain ⟨ob,e⟩ := x; exact ⟨ob,k _ _ (.inl rfl) e⟩
  | xd fs => obtain ⟨mA,⟨od,es,ep,e,c⟩,r⟩ := x; exact ⟨mA,⟨od,es,ep,k _ _ (.inl rfl) e,c⟩,r⟩
  | rng lo hi => obtain ⟨t,u,v,e⟩ := x; exact ⟨t,u,v,k _ _ (.inl rfl) e⟩
  | frz ob u ih => obtain ⟨e,q⟩ := x; exact ⟨k _ _ (.inl rfl) e,ih q⟩
  | tbl ps =>
    have e : h.get? a = some { cls := .none,data := .fields ps } := x; show h'.get? a = some { cls := .none,data := .fields ps }; exact k a _ (.inl rfl) e
  | met f y =>
    have e : h.get? a = some (PySem.W.methodObj (.ref f) (.ref y)) := x; show h'.get? a = some (PySem.W.methodObj (.ref f) (.ref y)); exact k a _ (.inl rfl) e
  | ext φ => obtain ⟨p,⟨o,e⟩,st⟩ := x; exact ⟨st _ _ p fun o q => k _ _ (.inl rfl) q,⟨o,k _ _ (.inl rfl) e⟩,st⟩
theorem HOk.lt (x : HOk P w H h) (e : H a = some o) : a < h.objs.size := (x a o e).lt
theorem HOk.fresh (x : HOk P w H h) (e : h.objs.size <= a) : H a = none := by
  cases q : H a with
  | none => rfl
  | some u => exact absurd (Nat.lt_of_lt_of_le (x.lt q) e) (Nat.lt_irrefl _)
theorem HOk.kept (x : HOk P w H h) (k : ∀ b u,h.get? b = some u -> h'.get? b = some u) : HOk P w H h' := fun a o e =>
  (x a o e).stay (fun b u _ q => k b u q) (fun _ q => q) fun _ _ q => q
theorem HOk.laid (x : HOk P w H h) (k : ∀ b u,h.get? b = some u -> h'.get? b = some u) (hp : h.objs.size <= a) (new : ObjOk P w (upd H a o) h' a o) : HOk P w (upd H a o) h' := fun b u e => by
  have hn := x.fresh hp
  by_cases hb : b = a
  . subst hb; rw [zab] at e; cases e; exact new
  . rw [zaj hb] at e; exact (x b u e).stay (fun c v _ q => k c v q) (fun c q => by rw [zaj (zam q hn)]; exact q) fun c xs q => by rw [zaj (zam q hn)]; exact q
end
def Rd (H : Hp) (a : Addr) (u : HO) : Prop := H a = some u \/ ∃ o,H a = some (.frz o u)
theorem Rd.ok {P : Program} {w : World} {H : Hp} {h : Heap} {a : Addr} {u : HO} (r : Rd H a u) (x : HOk P w H h) : ObjOk P w H h a u := by
  rcases r with r | ⟨o,r⟩
  . exact x a u r
  . obtain ⟨_,q⟩ := x a _ r; exact q
def Mut : Option HO -> Prop
  | some (.lst _) => True
  | some (.dK _) => True
  | some (.dT _) => True
  | some (.set _ _) => True
  | some (.ins _ _ _) => True
  | some (.ext _) => True
  | _ => False
section
variable {P : Program} {w : World} {H : Hp} {h h' : Heap} {x e : Addr} {o' : HO}
theorem HOk.write (ok : HOk P w H h) (mu : Mut (H x)) (he : e = x \/ H e = some (.own x)) (k : ∀ b u,b ≠ e -> h.get? b = some u -> h'.get? b = some u) (heo : ∃ u,h'.get? e = some u)
    (new : ObjOk P w (upd H x o') h' x o') : HOk P w (upd H x o') h' := fun b u q => by
  have nown : ∀ c y,H c = some (.own y) -> c ≠ x := fun c y r z => by subst z; rw [r] at mu; exact mu
  have ntup : ∀ c xs,H c = some (.tup xs) -> c ≠ x := fun c xs r z => by subst z; rw [r] at mu; exact mu
  by_cases hb : b = x
  . subst hb; rw [zab] at q; cases q; exact new
  . rw [zaj hb] at q
    by_cases hbe : b = e
    . have q' : H b = some (.own x) := by
        rcases he with z | z
        . exact absurd (hbe.trans z) hb
        . rw [hbe]; exact z
      rw [q] at q'; cases q'; obtain ⟨v,hv⟩ := heo; exact ⟨v,by rw [hbe]; exact hv⟩
    . refine (ok b u q).stay (fun c v hc r => k c v ?_ r) (fun c r => by rw [zaj (nown c b r)]; exact r) fun c xs r => by rw [zaj (ntup c xs r)]; exact r
      rcases hc with rfl | hc
      . exact hbe
      . rintro rfl
        rcases he with z | z
        . exact nown c b hc z
        . rw [hc] at z; cases z; exact hb rfl
end
structure Un (fs ex : List Addr) (H H' : Hp) (h h' : Heap) : Prop where
  keep : ∀ b o,h.get? b = some o -> H b = none -> b ∉ fs -> b ∉ ex -> h'.get? b = some o
  slot : ∀ b o,h.get? b = some o -> H b = none -> b ∈ fs -> b ∉ ex -> ∃ sl,h'.get? b = some { o with slots := sl }
  free : ∀ b o,h.get? b = some o -> H b = none -> b ∉ ex -> H' b = none
  there : ∀ b o,h.get? b = some o -> b ∉ ex -> ∃ o',h'.get? b = some o'
  tups : ∀ b xs,H b = some (.tup xs) -> H' b = some (.tup xs)
  frzs : ∀ b o u,H b = some (.frz o u) -> H' b = some (.frz o u)
  tbls : ∀ b ps,H b = some (.tbl ps) -> ∃ more,H' b = some (.tbl (ps ++ more))
section
variable {fs fs' ex ex' : List Addr} {H H1 H2 : Hp} {h h1 h2 h' : Heap} {a x e : Addr} {o : HO}
theorem Un.any (u : Un fs ex H H1 h h1) {b : Addr} {ob : Obj} (q : h.get? b = some ob) (n : H b = none) (hx : b ∉ ex) : ∃ sl,h1.get? b = some { ob with slots := sl } := by
  by_cases hb : b ∈ fs
  . exact u.slot b ob q n hb hx
  . exact ⟨ob.slots,u.keep b ob q n hb hx⟩
theorem Un.kept (k : ∀ b u,h.get? b = some u -> h'.get? b = some u) : Un fs ex H H h h' :=
  ⟨fun b ob q _ _ _ => k b ob q,fun b ob q _ _ _ => ⟨ob.slots,k b ob q⟩,fun _ _ _ n _ => n,fun b ob q _ => ⟨ob,k b ob q⟩,fun _ _ q => q,fun _ _ _ q => q,fun _ ps q => ⟨#[],by rw [q]; simp⟩⟩
theorem Un.refl : Un fs ex H H h h := Un.kept fun _ _ q => q
theorem Un.laid (k : ∀ b u,h.get? b = some u -> h'.get? b = some u) (hp : h.objs.size <= a) (hn : H a = none) : Un fs ex H (upd H a o) h h' where
  keep := fun b u q _ _ _ => k b u q
  slot := fun b u q _ _ _ => ⟨u.slots,k b u q⟩
  free := fun b u q n _ => by rw [zaj (Nat.ne_of_lt (Nat.lt_of_lt_of_le (Heap.lt_size q) hp))]; exact n
  there := fun b u q _ => ⟨u,k b u q⟩
  tups := fun b xs q => by rw [zaj (zam q hn)]; exact q
  frzs := fun b u xs q => by rw [zaj (zam q hn)]; exact q
  tbls := fun b ps q => ⟨#[],by rw [zaj (zam q hn),q]; simp⟩
theorem Un.write (mu : Mut (H x)) (he : e = x \/ H e = some (.own x)) (k : ∀ b u,b ≠ e -> h.get? b = some u -> h'.get? b = some u) (heo : ∃ u,h'.get? e = some u) : Un fs ex H (upd H x o) h h' := by
  have hx : ∀ b,H b = none -> b ≠ x := fun b n z => by subst z; rw [n] at mu; exact mu
  have hb : ∀ b,H b = none -> b ≠ e := fun b n z => by
    subst z
    rcases he with r | r
    . exact hx b n r
    . rw [n] at r; cases r
  have hm : ∀ b u,H b = some u -> ¬ Mut (some u) -> b ≠ x := fun b u q nm z => by subst z; rw [q] at mu; exact nm mu
  refine ⟨fun b u q n _ _ => k b u (hb b n) q,fun b u q n _ _ => ⟨u.slots,k b u (hb b n) q⟩,fun b u q n _ => by rw [zaj (hx b n)]; exact n,fun b u q _ => ?_,
    fun b xs q => by rw [zaj (hm b _ q fun z => z)]; exact q,fun b u xs q => by rw [zaj (hm b _ q fun z => z)]; exact q,fun b ps q => ⟨#[],by rw [zaj (hm b _ q fun z => z),q]; simp⟩⟩
  by_cases hbe : b = e
  . subst hbe; exact heo
  . exact ⟨u,k b u hbe q⟩
end
def trk (h : Heap) (H : Hp) : List Addr := (List.range h.objs.size).filter fun a => (H a).isSome
def zgt (h : Heap) (H : Hp) : Heap := PySem.W.hideAll h (trk h H)
theorem zkQ (h : Heap) (H : Hp) : (zgt h H).objs.size = h.objs.size := PySem.W.hideAll_size _ _
theorem zma {h : Heap} {H : Hp} {b : Addr} {o : Obj} (e : h.get? b = some o) (n : H b = none) : (zgt h H).get? b = some o :=
  PySem.W.hideAll_get _ e fun hm => by
    have q : (H b).isSome = true := (List.mem_filter.mp hm).2; rw [n] at q; simp at q
theorem znN {h : Heap} {H : Hp} {b : Addr} {o : Obj} (e : (zgt h H).get? b = some o) : h.get? b = some o /\ H b = none := by
  have e' : h.get? b = some o := PySem.W.of_hideAll (trk h H) e; refine ⟨e',?_⟩
  cases q : H b with
  | none => rfl
  | some x =>
    have hm : b ∈ trk h H := List.mem_filter.mpr ⟨List.mem_range.mpr (Heap.lt_size e'),by simp [q]⟩
    have z : (zgt h H).get? b = none := PySem.W.hideAll_none (trk h H) hm; rw [z] at e; cases e
structure Mod (K : Fg) (mg : Str -> Option Value) (base : Heap) : Prop where
  kin : K.In base
  glob : base.Ns mainGlobals mg
  blt : ∃ mb,base.Ns builtinsNs mb /\ ∀ x : Str,x ≠ "__name__" -> mb x = bootBuiltins x
  nolimit : base.NoLimit
structure Cx where
  prog : Program
  w : World
  K : Fg
  mg : Str -> Option Value
  base : Heap
  A : Around
  N : List Str
  s₀ : Shared
  H₀ : Hp
  env : Env
  outer : List Env
  stack : List Env
  ex : List Addr
  fn : Str -> Bool
  calm : Bool
  pn : List (Addr × Obj)
  xe : Value -> Shared -> Prop
def frs (l : List Env) : List Addr := l.filterMap (·.frame)
abbrev Cx.fs (X : Cx) : List Addr := frs X.outer
def Vis (sc : Scope) (x : Str) : Prop := sc.names.lookup x = some .local \/ sc.names.lookup x = some .cell \/ sc.names.lookup x = some .free
def Loc (sc : Scope) (x : Str) : Prop := sc.names.lookup x = some .local \/ sc.names.lookup x = some .cell
def zqO (env : Env) (h : Heap) (m : Str -> Option Value) (x : Str) (u : Value) : Prop :=
  (env.kindOf x = some .local /\ m x = some u) \/ ((env.kindOf x = some .cell \/ env.kindOf x = some .free) /\ ∃ c,env.cells.lookup x = some c /\ h.IsCell c (some u))
structure Cx.Ok (X : Cx) : Prop where
  mod : Mod X.K X.mg X.base
  kind : X.env.scope.kind = .function
  glob : X.env.globals = mainGlobals
  blt : X.env.builtins = builtinsNs
  above : X.s₀.heap.objs.size <= X.env.locals
  inj : ∀ x y c,X.env.cells.lookup x = some c -> X.env.cells.lookup y = some c -> x = y
  has : ∀ x,(X.env.kindOf x = some .cell \/ X.env.kindOf x = some .free) -> ∃ c,X.env.cells.lookup x = some c
  cab : ∀ x c,X.fn x = true -> X.env.cells.lookup x = some c -> X.s₀.heap.objs.size <= c
  hd : X.calm = true -> X.A.handled = none
  frames : X.A.frames = some X.stack
  stk : X.stack = X.outer \/ (X.stack = X.env :: X.outer /\ X.env.frame = some X.env.locals)
  exf : ∀ b ∈ X.ex,b ≠ X.env.locals /\ ∀ x c,X.env.cells.lookup x = some c -> c ≠ b
  bs : ∀ b o,X.base.get? b = some o -> X.s₀.heap.get? b = some o /\ X.H₀ b = none
  bsz : X.base.objs.size <= X.s₀.heap.objs.size
  noex : ∀ b o,X.base.get? b = some o -> b ∉ X.ex
  exfs : ∀ b ∈ X.ex,b ∉ X.fs
  funs : X.s₀.heap.FunFrames X.base X.outer
  frf : ∀ b ∈ X.fs,X.H₀ b = none
structure Inv (X : Cx) (pins : List (Addr × Obj)) (σ : List (Option V)) (H : Hp) (s : Shared) : Prop where
  ok : X.Ok
  os : s.os = X.s₀.os
  bare : AllBare s.gens
  base : Un X.fs X.ex X.H₀ H X.s₀.heap s.heap
  loc : ∃ m,s.heap.Ns X.env.locals m /\ ∀ (i : Nat) (x : Str) (v : V),X.N[i]? = some x -> σ[i]? = some (some v) -> Vis X.env.scope x -> ∃ u,RelV v u /\ zqO X.env s.heap m x u
  cell : ∀ x c,X.env.cells.lookup x = some c -> ∃ v,s.heap.IsCell c v
  free : H X.env.locals = none
  freeC : ∀ x c,X.env.cells.lookup x = some c -> H c = none
  pin : ∀ p ∈ X.pn ++ pins,s.heap.get? p.1 = some p.2 /\ H p.1 = none /\ p.1 ≠ X.env.locals /\ p.1 ∉ X.fs /\ ∀ v,p.2.data ≠ .cell v
  hok : HOk X.prog X.w H s.heap
  len : σ.length = X.N.length
section
variable {X : Cx} {pins : List (Addr × Obj)} {σ : List (Option V)} {H H' : Hp} {s : Shared} {h' : Heap}
theorem Cx.Ok.nofr (ok : X.Ok) {b : Addr} {o : Obj} (e : X.base.get? b = some o) : b ∉ X.fs := fun hb => by
  have := (ok.funs.mem hb).1; rw [e] at this; cases this
theorem Inv.bs (I : Inv X pins σ H s) : ∀ b o,X.base.get? b = some o -> s.heap.get? b = some o /\ H b = none := fun b o e =>
  ⟨I.base.keep b o (I.ok.bs b o e).1 (I.ok.bs b o e).2 (I.ok.nofr e) (I.ok.noex b o e),I.base.free b o (I.ok.bs b o e).1 (I.ok.bs b o e).2 (I.ok.noex b o e)⟩
theorem Inv.bk (I : Inv X pins σ H s) : ∀ b o,X.base.get? b = some o -> s.heap.get? b = some o := fun b o e => (I.bs b o e).1
theorem Inv.mod (I : Inv X pins σ H s) : Mod X.K X.mg X.base := I.ok.mod
theorem Inv.kIn (I : Inv X pins σ H s) : X.K.In s.heap := I.ok.mod.kin.keeps I.bk
theorem Inv.lt (I : Inv X pins σ H s) : X.env.locals < s.heap.objs.size := let ⟨_,hn,_⟩ := I.loc; hn.lt
theorem Inv.sz (I : Inv X pins σ H s) : X.s₀.heap.objs.size <= s.heap.objs.size := Nat.le_trans I.ok.above (Nat.le_of_lt I.lt)
theorem Inv.nofs (I : Inv X pins σ H s) {a : Addr} (h : s.heap.objs.size <= a) : a ∉ X.fs := fun hb => by
  obtain ⟨_,o,ho,_⟩ := I.ok.funs.mem hb; exact absurd (Nat.lt_of_lt_of_le (Heap.lt_size ho) (Nat.le_trans I.sz h)) (Nat.lt_irrefl _)
theorem Inv.cne (I : Inv X pins σ H s) : ∀ x c,X.env.cells.lookup x = some c -> c ≠ X.env.locals := fun x c e z => by
  obtain ⟨v,o,ho,hd⟩ := I.cell x c e; obtain ⟨m,⟨o',es,ep,ho',hd',_⟩,_⟩ := I.loc; rw [z,ho'] at ho; cases ho; rw [hd'] at hd; cases hd
theorem Inv.funs (I : Inv X pins σ H s) : s.heap.FunFrames X.base X.outer := by
  have all : ∀ (l : List Env),(∀ b ∈ frs l,b ∈ X.fs) -> X.s₀.heap.FunFrames X.base l -> s.heap.FunFrames X.base l := by
    intro l
    induction l with
    | nil => intro _ _; trivial
    | cons env r ih =>
      intro hs hl; obtain ⟨hk,⟨L,o,hf,hn,ho,hd⟩,hr⟩ := hl; have hL : L ∈ X.fs := hs L (by unfold frs; rw [List.filterMap_cons,hf]; exact List.mem_cons_self)
      obtain ⟨sl,e⟩ := I.base.slot L o ho (I.ok.frf L hL) hL fun z => I.ok.exfs L z hL; exact ⟨hk,⟨L,_,hf,hn,e,hd⟩,ih (fun b hb => hs b (by unfold frs; rw [List.filterMap_cons,hf]; exact List.mem_cons_of_mem _ hb)) hr⟩
  exact all X.outer (fun _ hb => hb) I.ok.funs
theorem Inv.stack (I : Inv X pins σ H s) : s.heap.FunFrames X.base X.stack := by
  rcases I.ok.stk with e | ⟨e,hf⟩
  . rw [e]; exact I.funs
  . rw [e]; obtain ⟨m,hn,_⟩ := I.loc; refine .cons (by rw [I.ok.kind]; decide) hf hn ?_ I.funs
    exact Heap.get?_none_of_le (Nat.le_trans I.ok.bsz I.ok.above)
theorem Inv.stkSub (I : Inv X pins σ H s) : ∀ b ∈ frs X.stack,b ∈ X.env.locals :: X.fs := fun b hb => by
  rcases I.ok.stk with e | ⟨e,hf⟩
  . rw [e] at hb; exact List.mem_cons_of_mem _ hb
  . rw [e] at hb; unfold frs at hb; rw [List.filterMap_cons,hf] at hb; exact hb
theorem Inv.stkFree (I : Inv X pins σ H s) : ∀ b ∈ frs X.stack,H b = none := fun b hb => by
  rcases List.mem_cons.mp (I.stkSub b hb) with e | hb
  . rw [e]; exact I.free
  . obtain ⟨_,o,ho,_⟩ := I.ok.funs.mem hb; exact I.base.free b o ho (I.ok.frf b hb) fun z => I.ok.exfs b z hb
theorem Inv.step {g' : Array GenState} {t' : Nat} {d' : Drawn} {ch : List Addr} (I : Inv X pins σ H s)
    (hch : ∀ b ∈ ch,(b ∈ X.ex \/ X.s₀.heap.objs.size <= b) /\ b ≠ X.env.locals /\ (∀ x c,X.env.cells.lookup x = some c -> c ≠ b) /\ ∀ p ∈ X.pn ++ pins,p.1 ≠ b)
    (keep : ∀ b o,b ≠ X.env.locals -> b ∉ X.fs -> b ∉ ch -> s.heap.get? b = some o -> H b = none -> h'.get? b = some o)
    (slot : ∀ b o,b ≠ X.env.locals -> b ∈ X.fs -> b ∉ ch -> s.heap.get? b = some o -> H b = none -> ∃ sl,h'.get? b = some { o with slots := sl }) (free : ∀ b o,b ∉ ch -> s.heap.get? b = some o -> H b = none -> H' b = none)
    (there : ∀ b o,b ∉ ch -> s.heap.get? b = some o -> ∃ o',h'.get? b = some o')
    (tups : ∀ b xs,H b = some (.tup xs) -> H' b = some (.tup xs)) (frzs : ∀ b o u,H b = some (.frz o u) -> H' b = some (.frz o u)) (tbls : ∀ b ps,H b = some (.tbl ps) -> ∃ more,H' b = some (.tbl (ps ++ more)))
    (ns : ∀ m,s.heap.Ns X.env.locals m -> h'.Ns X.env.locals m) (hok : HOk X.prog X.w H' h') (hg : AllBare g') :
    Inv X pins σ H' { s with heap := h',gens := g',drawn := d',toks := t' } := by
  have neL : ∀ b o,X.s₀.heap.get? b = some o -> b ≠ X.env.locals := fun b o e => Nat.ne_of_lt (Nat.lt_of_lt_of_le (Heap.lt_size e) I.ok.above)
  have neC : ∀ b o,X.s₀.heap.get? b = some o -> b ∉ X.ex -> b ∉ ch := fun b o e hx hb => by
    rcases (hch b hb).1 with z | z
    . exact hx z
    . exact absurd (Nat.lt_of_lt_of_le (Heap.lt_size e) z) (Nat.lt_irrefl _)
  have cellK : ∀ x c,X.env.cells.lookup x = some c -> ∀ v,s.heap.IsCell c v -> h'.IsCell c v := fun x c e v ⟨o,ho,hd⟩ => by
    have nch : c ∉ ch := fun z => (hch c z).2.2.1 x c e rfl
    by_cases hc : c ∈ X.fs
    . obtain ⟨sl,q⟩ := slot c o (I.cne x c e) hc nch ho (I.freeC x c e); exact ⟨_,q,hd⟩
    . exact ⟨o,keep c o (I.cne x c e) hc nch ho (I.freeC x c e),hd⟩
  refine ⟨I.ok,I.os,hg,⟨fun b o e n hb hx => ?_,fun b o e n hb hx => ?_,fun b o e n hx => ?_,fun b o e hx => ?_,fun b xs e => tups b xs (I.base.tups b xs e),fun b o xs e => frzs b o xs (I.base.frzs b o xs e),fun b ps e => ?_⟩,?_,fun x c e => ?_,?_,fun x c e => ?_,fun p hp => ?_,hok,I.len⟩
  . exact keep b o (neL b o e) hb (neC b o e hx) (I.base.keep b o e n hb hx) (I.base.free b o e n hx)
  . obtain ⟨sl,e1⟩ := I.base.slot b o e n hb hx; obtain ⟨sl',e2⟩ := slot b _ (neL b o e) hb (neC b o e hx) e1 (I.base.free b o e n hx); exact ⟨sl',e2⟩
  . obtain ⟨o',e1⟩ := I.base.there b o e hx; exact free b o' (neC b o e hx) e1 (I.base.free b o e n hx)
  . obtain ⟨o',e1⟩ := I.base.there b o e hx; exact there b o' (neC b o e hx) e1
  . obtain ⟨m1,e1⟩ := I.base.tbls b ps e; obtain ⟨m2,e2⟩ := tbls b _ e1; exact ⟨m1 ++ m2,by rw [e2,Array.append_assoc]⟩
  . obtain ⟨m,hn,hl⟩ := I.loc; refine ⟨m,ns m hn,fun i x v e1 e2 e3 => ?_⟩; obtain ⟨u,r,l⟩ := hl i x v e1 e2 e3; refine ⟨u,r,?_⟩
    rcases l with l | ⟨k,c,e,z⟩
    . exact .inl l
    . exact .inr ⟨k,c,e,cellK x c e _ z⟩
  . obtain ⟨v,z⟩ := I.cell x c e; exact ⟨v,cellK x c e v z⟩
  . obtain ⟨m,⟨o,_,_,ho,_⟩,_⟩ := I.loc; exact free _ o (fun z => (hch _ z).2.1 rfl) ho I.free
  . obtain ⟨v,o,ho,hd⟩ := I.cell x c e; exact free c o (fun z => (hch c z).2.2.1 x c e rfl) ho (I.freeC x c e)
  . obtain ⟨e,n,ne,nf,d⟩ := I.pin p hp; have nch : p.1 ∉ ch := fun z => (hch p.1 z).2.2.2 p hp rfl; exact ⟨keep p.1 p.2 ne nf nch e n,free p.1 p.2 nch e n,ne,nf,d⟩
theorem Inv.un {t' : Nat} (I : Inv X pins σ H s) (u : Un X.fs [] H H' s.heap h') (hok : HOk X.prog X.w H' h') : Inv X pins σ H' { s with heap := h',toks := t' } := by
  obtain ⟨m,⟨o,es,ep,ho,r⟩,_⟩ := id I.loc; obtain ⟨sl,hL⟩ := u.any ho I.free (by simp)
  exact I.step (g' := s.gens) (d' := s.drawn) (ch := []) (fun _ z => nomatch z) (fun b o _ hb _ e n => u.keep b o e n hb (by simp)) (fun b o _ hb _ e n => u.slot b o e n hb (by simp)) (fun b o _ e n => u.free b o e n (by simp)) (fun b o _ e => u.there b o e (by simp)) u.tups u.frzs u.tbls (fun m' hm => by
    obtain ⟨o',es',ep',ho',r'⟩ := hm; rw [ho] at ho'; cases ho'
    exact ⟨_,es',ep',hL,r'⟩) hok I.bare
theorem Inv.call {g' : Array GenState} {t' : Nat} {d' : Drawn} {ch : List Addr} (I : Inv X pins σ H s) (u : Un (frs X.stack) ch H H' s.heap h') (hok : HOk X.prog X.w H' h') (hg : AllBare g')
    (hch : ∀ b ∈ ch,(b ∈ X.ex \/ X.s₀.heap.objs.size <= b) /\ b ≠ X.env.locals /\ (∀ x c,X.env.cells.lookup x = some c -> c ≠ b) /\ ∀ p ∈ X.pn ++ pins,p.1 ≠ b) :
    Inv X pins σ H' { s with heap := h',gens := g',drawn := d',toks := t' } := by
  obtain ⟨m,⟨o,es,ep,ho,r⟩,_⟩ := id I.loc; obtain ⟨sl,hL⟩ := u.any ho I.free fun z => (hch _ z).2.1 rfl
  exact I.step (ch := ch) hch (fun b o hL hb hc e n => u.keep b o e n (fun z => (List.mem_cons.mp (I.stkSub b z)).elim hL hb) hc) (fun b o _ _ hc e n => u.any e n hc) (fun b o hc e n => u.free b o e n hc) (fun b o hc e => u.there b o e hc) u.tups u.frzs u.tbls (fun m' hm => by
    obtain ⟨o',es',ep',ho',r'⟩ := hm; rw [ho] at ho'; cases ho'
    exact ⟨_,es',ep',hL,r'⟩) hok hg
theorem Inv.turned {t' : Nat} {it : Addr} (I : Inv X pins σ H s) (k : ∀ b o,b ≠ it -> s.heap.get? b = some o -> h'.get? b = some o) (hn : H it = none) (hL : it ≠ X.env.locals)
    (h1 : it ∈ X.ex \/ X.s₀.heap.objs.size <= it) (h2 : ∀ x c,X.env.cells.lookup x = some c -> c ≠ it) (h3 : ∀ p ∈ X.pn ++ pins,p.1 ≠ it) : Inv X pins σ H { s with heap := h',toks := t' } := by
  have nit : ∀ b u,H b = some u -> b ≠ it := fun b u e z => by rw [z,hn] at e; cases e
  refine I.step (g' := s.gens) (d' := s.drawn) (ch := [it]) (fun b hb => ?_) (fun b o _ _ hc e _ => k b o (fun z => hc (by simp [z])) e) (fun b o _ _ hc e _ => ⟨o.slots,k b o (fun z => hc (by simp [z])) e⟩) (fun _ _ _ _ n => n)
    (fun b o hc e => ⟨o,k b o (fun z => hc (by simp [z])) e⟩) (fun _ _ e => e) (fun _ _ _ e => e) (fun b ps e => ⟨#[],by rw [e]; simp⟩) (fun m hm => ?_) (fun b u e => ?_) I.bare
  . have e : b = it := by simpa using hb
    subst e; exact ⟨h1,hL,h2,h3⟩
  . obtain ⟨o,es,ep,ho,r⟩ := hm; exact ⟨o,es,ep,k _ o (Ne.symm hL) ho,r⟩
  . refine (I.hok b u e).stay (fun c v hc q => k c v ?_ q) (fun _ q => q) fun _ _ q => q
    rcases hc with z | z
    . rw [z]; exact nit b u e
    . exact nit c _ z
theorem Inv.tok (I : Inv X pins σ H s) (t : Nat) : Inv X pins σ H { s with toks := t } := I.un (h' := s.heap) (t' := t) Un.refl I.hok
theorem Inv.kept {t' : Nat} (I : Inv X pins σ H s) (k : ∀ b u,s.heap.get? b = some u -> h'.get? b = some u) : Inv X pins σ H { s with heap := h',toks := t' } := I.un (Un.kept k) (I.hok.kept k)
theorem Inv.laid {a : Addr} {o : HO} {t' : Nat} (I : Inv X pins σ H s) (k : ∀ b u,s.heap.get? b = some u -> h'.get? b = some u) (hp : s.heap.objs.size <= a) (new : ObjOk X.prog X.w (upd H a o) h' a o) :
    Inv X pins σ (upd H a o) { s with heap := h',toks := t' } := I.un (Un.laid k hp (I.hok.fresh hp)) (I.hok.laid k hp new)
theorem Inv.write {x e : Addr} {o : HO} {t' : Nat} (I : Inv X pins σ H s) (mu : Mut (H x)) (he : e = x \/ H e = some (.own x)) (k : ∀ b u,b ≠ e -> s.heap.get? b = some u -> h'.get? b = some u) (heo : ∃ u,h'.get? e = some u)
    (new : ObjOk X.prog X.w (upd H x o) h' x o) : Inv X pins σ (upd H x o) { s with heap := h',toks := t' } := I.un (Un.write mu he k heo) (I.hok.write mu he k heo new)
theorem Inv.pins_of {pins' : List (Addr × Obj)} (I : Inv X pins σ H s) (h : ∀ p ∈ pins',s.heap.get? p.1 = some p.2 /\ H p.1 = none /\ p.1 ≠ X.env.locals /\ p.1 ∉ X.fs /\ ∀ v,p.2.data ≠ .cell v) : Inv X pins' σ H s :=
  ⟨I.ok,I.os,I.bare,I.base,I.loc,I.cell,I.free,I.freeC,fun p hp => (List.mem_append.mp hp).elim (fun z => I.pin p (List.mem_append_left _ z)) (h p),I.hok,I.len⟩
theorem zh6 {N : List Str} (hN : N.Nodup) {i j : Nat} {x : Str} (a : N[i]? = some x) (b : N[j]? = some x) : i = j := by
  obtain ⟨h1,e1⟩ := List.getElem?_eq_some_iff.mp a; obtain ⟨h2,e2⟩ := List.getElem?_eq_some_iff.mp b; exact (List.getElem_inj hN).mp (e1.trans e2.symm)
theorem zgV {M : Model} {A : Around} {E : Value -> Shared -> Prop} {i : Nat} {x : Str} {v : V} {u : Value} {Q : Unit -> Shared -> Prop} (I : Inv X pins σ H s) (hN : X.N.Nodup) (hi : X.N[i]? = some x) (hx : Loc X.env.scope x) (r : RelV v u)
    (h : ∀ s',Inv X pins (σ.set i (some v)) H s' -> (∃ a,Heap.SameBut a s.heap s'.heap /\ (a = X.env.locals \/ X.env.cells.lookup x = some a)) -> Q () s') (hf : X.fn x = true \/ X.env.scope.names.lookup x = some .local := by first | exact .inl rfl | exact .inr rfl | assumption) : wpAny M A (storeName X.env x u) Q E s := by
  obtain ⟨m,hn,hl⟩ := id I.loc; have hcls : (X.env.scope.kind == .class || (X.env.scope.kind == .module && X.env.locals != X.env.globals)) = false := by rw [I.ok.kind]; rfl
  have hiσ : i < σ.length := by rw [I.len]; exact (List.getElem?_eq_some_iff.mp hi).1
  have cne := I.cne
  have tracked : ∀ {a : Addr} {h' : Heap},(∃ o,s.heap.get? a = some o /\ H a = none) -> Heap.SameBut a s.heap h' -> HOk X.prog X.w H h' := fun {a h'} ha hs b ob e => by
    obtain ⟨_,_,hfree⟩ := ha; refine (I.hok b ob e).stay (fun c w' hc q => (hs.2 c ?_).trans q) (fun _ q => q) fun _ _ q => q; rintro rfl
    rcases hc with rfl | hc
    . rw [hfree] at e; cases e
    . rw [hfree] at hc; cases hc
  rcases hx with hk | hk
  . refine wpAny_storeName_local hk hn (fun h' hn' hs => ?_) hcls; obtain ⟨oL,_,_,hoL,_⟩ := id hn; refine h _ ⟨I.ok,I.os,I.bare,⟨fun b o e n hb hx => ?_,fun b o e n hb hx => ?_,I.base.free,fun b o e hx => ?_,I.base.tups,I.base.frzs,I.base.tbls⟩,⟨_,hn',fun j y v' e1 e2 e3 => ?_⟩,fun y c e => ?_,I.free,I.freeC,fun p hp => ?_,tracked ⟨oL,hoL,I.free⟩ hs,by simpa using I.len⟩ ⟨_,hs,.inl rfl⟩
    . exact (hs.2 b (Nat.ne_of_lt (Nat.lt_of_lt_of_le (Heap.lt_size e) I.ok.above))).trans (I.base.keep b o e n hb hx)
    . obtain ⟨sl,e1⟩ := I.base.slot b o e n hb hx; exact ⟨sl,(hs.2 b (Nat.ne_of_lt (Nat.lt_of_lt_of_le (Heap.lt_size e) I.ok.above))).trans e1⟩
    . obtain ⟨o',e1⟩ := I.base.there b o e hx; exact ⟨o',(hs.2 b (Nat.ne_of_lt (Nat.lt_of_lt_of_le (Heap.lt_size e) I.ok.above))).trans e1⟩
    . by_cases hj : j = i
      . subst hj; rw [hi] at e1; cases e1; rw [List.getElem?_set_self hiσ] at e2; cases e2; exact ⟨u,r,.inl ⟨hk,by simp⟩⟩
      . rw [List.getElem?_set_ne (Ne.symm hj)] at e2; obtain ⟨u',r',q⟩ := hl j y v' e1 e2 e3; refine ⟨u',r',?_⟩
        rcases q with ⟨k,e⟩ | ⟨k,c,e,z⟩
        . refine .inl ⟨k,?_⟩; have : y ≠ x := fun e => hj (zh6 hN e1 (e ▸ hi)); simp [this,e]
        . exact .inr ⟨k,c,e,z.sameBut hs (cne y c e)⟩
    . obtain ⟨w',z⟩ := I.cell y c e; exact ⟨w',z.sameBut hs (cne y c e)⟩
    . obtain ⟨e,n,ne,nf,d⟩ := I.pin p hp; exact ⟨(hs.2 p.1 ne).trans e,n,ne,nf,d⟩
  . have hfn : X.fn x = true := by
      rcases hf with z | z
      . exact z
      . rw [z] at hk; cases hk
    obtain ⟨c,hc⟩ := I.ok.has x (.inl hk); obtain ⟨w',z⟩ := I.cell x c hc; refine wpAny_storeName_cell I.ok.kind hk hc z (fun h' hc' hs => ?_); obtain ⟨oc,hoc,hocd⟩ := id z; refine h { s with heap := h' } ⟨I.ok,I.os,I.bare,⟨fun b o e n hb hx => ?_,fun b o e n hb hx => ?_,I.base.free,fun b o e hx => ?_,I.base.tups,I.base.frzs,I.base.tbls⟩,⟨m,hn.sameBut hs (Ne.symm (cne x c hc)),fun j y v' e1 e2 e3 => ?_⟩,fun y c' e => ?_,I.free,I.freeC,fun p hp => ?_,tracked ⟨oc,hoc,I.freeC x c hc⟩ hs,by simpa using I.len⟩ ⟨c,hs,.inr hc⟩
    . exact (hs.2 b (Nat.ne_of_lt (Nat.lt_of_lt_of_le (Heap.lt_size e) (I.ok.cab x c hfn hc)))).trans (I.base.keep b o e n hb hx)
    . obtain ⟨sl,e1⟩ := I.base.slot b o e n hb hx; exact ⟨sl,(hs.2 b (Nat.ne_of_lt (Nat.lt_of_lt_of_le (Heap.lt_size e) (I.ok.cab x c hfn hc)))).trans e1⟩
    . obtain ⟨o',e1⟩ := I.base.there b o e hx; exact ⟨o',(hs.2 b (Nat.ne_of_lt (Nat.lt_of_lt_of_le (Heap.lt_size e) (I.ok.cab x c hfn hc)))).trans e1⟩
    . by_cases hj : j = i
      . subst hj; rw [hi] at e1; cases e1; rw [List.getElem?_set_self hiσ] at e2; cases e2; exact ⟨u,r,.inr ⟨.inl hk,c,hc,hc'⟩⟩
      . rw [List.getElem?_set_ne (Ne.symm hj)] at e2; obtain ⟨u',r',q⟩ := hl j y v' e1 e2 e3; refine ⟨u',r',?_⟩
        rcases q with q | ⟨k,c',e,z'⟩
        . exact .inl q
        . refine .inr ⟨k,c',e,z'.sameBut hs ?_⟩; rintro rfl; exact hj (zh6 hN e1 (I.ok.inj _ _ _ e hc ▸ hi))
    . by_cases hcc : c' = c
      . subst hcc; exact ⟨_,hc'⟩
      . obtain ⟨w2,z2⟩ := I.cell y c' e; exact ⟨w2,z2.sameBut hs hcc⟩
    . obtain ⟨e,n,ne,nf,d⟩ := I.pin p hp; refine ⟨(hs.2 p.1 ?_).trans e,n,ne,nf,d⟩; intro q; rw [q,hoc] at e; have q' : oc = p.2 := Option.some.inj e; exact d w' (by rw [<- q']; exact hocd)
theorem zh8 {M : Model} {A : Around} {E : Value -> Shared -> Prop} {i : Nat} {x : Str} {v : V} {u : Value} {Q : Unit -> Shared -> Prop} (I : Inv X pins σ H s) (hN : X.N.Nodup) (hi : X.N[i]? = some x) (hx : Loc X.env.scope x) (r : RelV v u)
    (h : ∀ s',Inv X pins (σ.set i (some v)) H s' -> Q () s') (hf : X.fn x = true \/ X.env.scope.names.lookup x = some .local := by first | exact .inl rfl | exact .inr rfl | assumption) : wpAny M A (storeName X.env x u) Q E s :=
  zgV I hN hi hx r (fun s' I' _ => h s' I') hf
theorem Inv.call' {s' : Shared} {ch : List Addr} (I : Inv X pins σ H s) (ho : s'.os = s.os) (u : Un (frs X.stack) ch H H' s.heap s'.heap) (hok : HOk X.prog X.w H' s'.heap) (hg : AllBare s'.gens)
    (hch : ∀ b ∈ ch,(b ∈ X.ex \/ X.s₀.heap.objs.size <= b) /\ b ≠ X.env.locals /\ (∀ x c,X.env.cells.lookup x = some c -> c ≠ b) /\ ∀ p ∈ X.pn ++ pins,p.1 ≠ b) : Inv X pins σ H' s' := by
  obtain ⟨h',g',d',t',o'⟩ := s'; have e : o' = s.os := ho; subst e; exact I.call (g' := g') (t' := t') (d' := d') u hok hg hch
end
abbrev XK := Value -> Option Addr -> Hp -> Prop
abbrev St := List (Option V)
abbrev VK := V -> Hp -> Prop
abbrev TE := St -> Hp -> VK -> Prop
abbrev TT := St -> Hp -> (Bool -> Hp -> Prop) -> Prop
abbrev TA := St -> Hp -> (List V -> Hp -> Prop) -> Prop
structure zfn where
  nx : St -> Hp -> Prop
  rt : VK
  bk : St -> Hp -> Prop := fun _ _ => False
  ct : St -> Hp -> Prop := fun _ _ => False
abbrev TS := zfn -> St -> Hp -> Prop
def EP (X : Cx) (pins : List (Addr × Obj)) (σ : St) (Q : VK) (u : Value) (s' : Shared) : Prop := ∃ v H',Inv X pins σ H' s' /\ RelV v u /\ Q v H'
def TP (X : Cx) (pins : List (Addr × Obj)) (σ : St) (Q : Bool -> Hp -> Prop) (b : Bool) (s' : Shared) : Prop := ∃ H',Inv X pins σ H' s' /\ Q b H'
def AP (X : Cx) (pins : List (Addr × Obj)) (σ : St) (Q : List V -> Hp -> Prop) (us : List Value) (s' : Shared) : Prop := ∃ vs H',Inv X pins σ H' s' /\ Vals vs us /\ Q vs H'
def SP (X : Cx) (pins : List (Addr × Obj)) (D : zfn) (f : Flow) (s' : Shared) : Prop :=
  match f with
  | .next => ∃ σ' H',Inv X pins σ' H' s' /\ D.nx σ' H'
  | .brk => ∃ σ' H',Inv X pins σ' H' s' /\ D.bk σ' H'
  | .cont => ∃ σ' H',Inv X pins σ' H' s' /\ D.ct σ' H'
  | .ret u => ∃ v σ' H',Inv X pins σ' H' s' /\ RelV v u /\ D.rt v H'
def PE (X : Cx) (e : Expr) (t : TE) : Prop :=
  ∀ (pins : List (Addr × Obj)) (s : Shared) (σ : St) (H : Hp) (Q : VK),Inv X pins σ H s -> t σ H Q -> wpAny (model X.prog X.w) X.A (eval e X.env) (EP X pins σ Q) X.xe s
def PT (X : Cx) (e : Expr) (t : TT) : Prop :=
  ∀ (pins : List (Addr × Obj)) (s : Shared) (σ : St) (H : Hp) (Q : Bool -> Hp -> Prop),Inv X pins σ H s -> t σ H Q -> wpAny (model X.prog X.w) X.A (isTrue e X.env (eval e X.env)) (TP X pins σ Q) X.xe s
def PW (X : Cx) (e : Expr) (t : TT) : Prop :=
  ∀ (whole : Sem Value) (pins : List (Addr × Obj)) (s : Shared) (σ : St) (H : Hp) (Q : Bool -> Hp -> Prop),Inv X pins σ H s -> t σ H Q -> wpAny (model X.prog X.w) X.A (isTrue e X.env whole) (TP X pins σ Q) X.xe s
theorem PW.pt {X : Cx} {e : Expr} {t : TT} (h : PW X e t) : PT X e t := h _
def PA (X : Cx) (es : List Expr) (t : TA) : Prop :=
  ∀ (pos : Pos) (pins : List (Addr × Obj)) (s : Shared) (σ : St) (H : Hp) (Q : List V -> Hp -> Prop),Inv X pins σ H s -> t σ H Q -> wpAny (model X.prog X.w) X.A (spliced (backTo pos (starEach es X.env))) (AP X pins σ Q) X.xe s
def PS (X : Cx) (st : Stmt) (t : TS) : Prop :=
  ∀ (pins : List (Addr × Obj)) (s : Shared) (σ : St) (H : Hp) (D : zfn),Inv X pins σ H s -> t D σ H -> wpAny (model X.prog X.w) X.A (exec st X.env) (SP X pins D) X.xe s
def PSs (X : Cx) (st : List Stmt) (t : TS) : Prop :=
  ∀ (pins : List (Addr × Obj)) (s : Shared) (σ : St) (H : Hp) (D : zfn),Inv X pins σ H s -> t D σ H -> wpAny (model X.prog X.w) X.A (execs st X.env) (SP X pins D) X.xe s
theorem thn {α : Type} {t : Sem α} {Q Q' : α -> Shared -> Prop} {M : Model} {A : Around} {E : Value -> Shared -> Prop} {s : Shared} (h : wpAny M A t Q E s) (hQ : ∀ a s,Q a s -> Q' a s) : wpAny M A t Q' E s := wpAny_mono h hQ fun _ _ x => x
section
variable {X : Cx}
theorem bin {a b : Expr} {ta tb : TE} (ha : PE X a ta) (hb : PE X b tb) {pins : List (Addr × Obj)} {s : Shared} {σ : St} {H : Hp} {R : V -> V -> Hp -> Prop} (I : Inv X pins σ H s) (h : ta σ H fun x H1 => tb σ H1 fun y H2 => R x y H2)
    {α : Type} {Q : α -> Shared -> Prop} {f : Value -> Value -> Sem α}
    (hf : ∀ v u s2 x y H2,Inv X pins σ H2 s2 -> RelV x v -> RelV y u -> R x y H2 -> wpAny (model X.prog X.w) X.A (f v u) Q X.xe s2) :
    wpAny (model X.prog X.w) X.A (eval a X.env) (fun v s₁ => wpAny (model X.prog X.w) X.A (eval b X.env) (fun u s₂ => wpAny (model X.prog X.w) X.A (f v u) Q X.xe s₂) X.xe s₁) X.xe s := by
  refine thn (ha pins s σ H _ I h) fun v s1 ⟨x,H1,I1,r1,q1⟩ => ?_; refine thn (hb pins s1 σ H1 _ I1 q1) fun u s2 ⟨y,H2,I2,r2,q2⟩ => ?_; exact hf v u s2 x y H2 I2 r1 r2 q2
inductive zpY (o : Option (Option V)) (Q : V -> Prop) : Prop
  | mk (v : V) (h : o = some (some v)) (k : Q v) : zpY o Q
def zpX (i : Nat) : TE := fun σ H Q => zpY σ[i]? (fun v => Q v H)
def tC (v : V) : TE := fun _ H Q => Q v H
theorem zn6 {i : Nat} {x : Str} {pos : Pos} (hN : X.N[i]? = some x) (hv : Vis X.env.scope x) (hd : (x == ("__debug__" : Str)) = false := by decide) (hcd : (x == ("__classdict__" : Str)) = false := by decide) : PE X (.Name x pos) (zpX i) := by
  intro pins s σ H Q I h; obtain ⟨v,e,h⟩ := h; obtain ⟨m,hn,hl⟩ := I.loc; obtain ⟨u,r,l⟩ := hl i x v hN e hv; have fin : EP X pins σ Q u s := ⟨v,H,I,r,h⟩
  rcases l with ⟨hk,hm⟩ | ⟨hk,c,hc,hcell⟩
  . exact wpAny_Name (wpAny_loadName_local I.ok.kind hk hn hm fin) hd
  . rcases hk with hk | hk
    . exact wpAny_Name (wpAny_loadName_cell I.ok.kind hk hc hcell fin) hd
    . exact wpAny_Name (wpAny_loadName_free I.ok.kind hk hc hcell fin hcd) hd
theorem zae {i j pos} : PE X (.Constant (.int i) j pos) (tC (.int i)) := fun _ _ _ H _ I h => wpAny_Constant_int ⟨.int i,H,I.tok _,⟨_,rfl⟩,h⟩
theorem zaY {b j pos} : PE X (.Constant (.bool b) j pos) (tC (.bl b)) := fun _ _ _ H _ I h => Constant_bool ⟨.bl b,H,I,rfl,h⟩
theorem zbI {j pos} : PE X (.Constant .none j pos) (tC .non) := fun _ _ _ H _ I h => Constant_none ⟨.non,H,I,rfl,h⟩
theorem zaA {x j pos} : PE X (.Constant (.str x) j pos) (tC (.str x)) := fun _ _ _ H _ I h => Calls.Constant_str ⟨.str x,H,I.tok _,⟨_,rfl⟩,h⟩
def Gl (X : Cx) (x : Str) : Prop := X.env.kindOf x = some .globalImplicit
theorem zhC {E : Value -> Shared -> Prop} {pins : List (Addr × Obj)} {s : Shared} {σ : St} {H : Hp} {x : Str} {u : Value} {pos : Pos} {Q : Value -> Shared -> Prop} (I : Inv X pins σ H s) (hg : Gl X x) (hm : X.mg x = some u) (h : Q u s)
    (hd : (x == ("__debug__" : Str)) = false := by decide) : wpAny (model X.prog X.w) X.A (eval (.Name x pos) X.env) Q E s :=
  Calls.Name_function_global I.ok.kind hg (Calls.loadGlobal_global (by rw [I.ok.glob]; exact I.mod.glob.keeps I.bk) hm h) hd
theorem zdY {E : Value -> Shared -> Prop} {pins : List (Addr × Obj)} {s : Shared} {σ : St} {H : Hp} {x : Str} {u : Value} {pos : Pos} {Q : Value -> Shared -> Prop} (I : Inv X pins σ H s) (hg : Gl X x) (hm : X.mg x = none) (hv : bootBuiltins x = some u) (h : Q u s)
    (hn : x ≠ "__name__" := by decide) (hd : (x == ("__debug__" : Str)) = false := by decide) : wpAny (model X.prog X.w) X.A (eval (.Name x pos) X.env) Q E s := by
  obtain ⟨mb,h1,h2⟩ := I.mod.blt; exact Calls.Name_function_global I.ok.kind hg (Calls.loadGlobal_builtin (by rw [I.ok.glob]; exact I.mod.glob.keeps I.bk) hm (by rw [I.ok.blt]; exact h1.keeps I.bk) ((h2 x hn).trans hv) h) hd
theorem zft {x : Str} {v : V} {u : Value} {pos : Pos} (hg : Gl X x) (hm : X.mg x = some u) (r : RelV v u) (hd : (x == ("__debug__" : Str)) = false := by decide) : PE X (.Name x pos) (tC v) :=
  fun _ _ _ H _ I h => zhC I hg hm ⟨v,H,I,r,h⟩ hd
theorem zbj {x : Str} {v : V} {u : Value} {pos : Pos} (hg : Gl X x) (hm : X.mg x = none) (hv : bootBuiltins x = some u) (r : RelV v u) (hn : x ≠ "__name__" := by decide) (hd : (x == ("__debug__" : Str)) = false := by decide) : PE X (.Name x pos) (tC v) :=
  fun _ _ _ H _ I h => zdY I hg hm hv ⟨v,H,I,r,h⟩ hn hd
variable {a b : Expr} {ta tb : TE} {pos : Pos}
def PC (X : Cx) (op : CmpOp) (a b : Expr) (t : TE) : Prop :=
  ∀ (pins : List (Addr × Obj)) (s : Shared) (σ : St) (H : Hp) (Q : VK),Inv X pins σ H s -> t σ H Q →
    wpAny (model X.prog X.w) X.A (eval a X.env) (fun v s₁ => wpAny (model X.prog X.w) X.A (eval b X.env) (fun u s₂ => wpAny (model X.prog X.w) X.A (compareOp op v u) (EP X pins σ Q) X.xe s₂) X.xe s₁) X.xe s
inductive QBl (x : V) (Q : Bool -> Prop) : Prop
  | mk (c : Bool) (h : x = .bl c) (k : Q c) : QBl x Q
def tB (t : TE) : TT := fun σ H Q => t σ H fun x H1 => QBl x (fun c => Q c H1)
theorem zod {op : CmpOp} {t : TE} (h : PC X op a b t) (h1 : behindInMarks op b = false := by first | exact nobehind _ (by decide) (by decide) | rfl) : PE X (.Compare a [op] [b] pos) t := fun pins s σ H Q I hw => wpAny_Compare1 (h pins s σ H Q I hw) h1
theorem zoW {op : CmpOp} {t : TE} (h : PC X op a b t) (h1 : behindInMarks op b = false := by first | exact nobehind _ (by decide) (by decide) | rfl) : PT X (.Compare a [op] [b] pos) (tB t) := by
  intro pins s σ H Q I hw; refine wpAny_isTrue_Compare1 (thn (h pins s σ H _ I hw) fun v s1 h1 => thn h1 fun u s2 h2 => thn h2 fun c s3 ⟨x,H1,I1,r1,q1⟩ => ?_) h1; obtain ⟨d,rfl,q⟩ := q1; cases r1; exact wpAny_truthy_bool ⟨H1,I1,q⟩
theorem za6 {e : Expr} {t : TE} (h : PE X e t) (he : ∀ whole,isTrue e X.env whole = (do let v <- whole; standAt e.pos; holding [v] (truthy v)) := by intro _; rfl) : PT X e (tB t) := by
  intro pins s σ H Q I hw; refine isTrue_plain (thn (h pins s σ H _ I hw) fun v s1 ⟨x,H1,I1,r1,q1⟩ => ?_) (he _); obtain ⟨d,rfl,q⟩ := q1; cases r1; exact wpAny_truthy_bool ⟨H1,I1,q⟩
variable {tA tB' : TT} {rest : List Expr}
def zqB (t u : TT) : TT := fun σ H Q => t σ H fun c H1 => if c = true then u σ H1 Q else Q false H1
def tOr (t u : TT) : TT := fun σ H Q => t σ H fun c H1 => if c = true then Q true H1 else u σ H1 Q
def zqE (t : TT) : TT := fun σ H Q => t σ H fun c H1 => Q (!c) H1
theorem zfr (ha : PT X a tA) : PW X (.BoolOp .And [a] pos) tA := by
  intro wh pins s σ H Q I h; refine isTrue_and (thn (ha pins s σ H Q I h) fun c s1 e => ?_)
  cases c with
  | true => exact isTrue_and_nil e
  | false => exact e
theorem zcw (ha : PT X a tA) : PW X (.BoolOp .Or [a] pos) tA := by
  intro wh pins s σ H Q I h; refine isTrue_or (thn (ha pins s σ H Q I h) fun c s1 e => ?_)
  cases c with
  | false => exact isTrue_or_nil e
  | true => exact e
theorem zeI (ha : PT X a tA) (hb : PW X (.BoolOp .And (b :: rest) pos) tB') : PW X (.BoolOp .And (a :: b :: rest) pos) (zqB tA tB') := by
  intro wh pins s σ H Q I h; refine isTrue_and (thn (ha pins s σ H _ I h) fun c s1 ⟨H1,I1,q1⟩ => ?_)
  cases c with
  | true => exact hb wh pins s1 σ H1 Q I1 q1
  | false => exact ⟨H1,I1,q1⟩
theorem zcN (ha : PT X a tA) (hb : PW X (.BoolOp .Or (b :: rest) pos) tB') : PW X (.BoolOp .Or (a :: b :: rest) pos) (tOr tA tB') := by
  intro wh pins s σ H Q I h; refine isTrue_or (thn (ha pins s σ H _ I h) fun c s1 ⟨H1,I1,q1⟩ => ?_)
  cases c with
  | true => exact ⟨H1,I1,q1⟩
  | false => exact hb wh pins s1 σ H1 Q I1 q1
theorem zbd (ha : PT X a tA) : PT X (.UnaryOp .Not a pos) (zqE tA) := by
  intro pins s σ H Q I h; exact isTrue_not (ha pins s σ H (fun c H1 => Q (!c) H1) I h)
def zpA (ta tb : TE) : TE := fun σ H Q => ta σ H fun x H1 => ∃ c,x = .bl c /\ if c = true then tb σ H1 Q else Q (.bl false) H1
def zqk (ta tb : TE) : TE := fun σ H Q => ta σ H fun x H1 => ∃ c,x = .bl c /\ if c = true then Q (.bl true) H1 else tb σ H1 Q
def zpO (ta : TE) : TE := fun σ H Q => ta σ H fun x H1 => ∃ c,x = .bl c /\ Q (.bl (!c)) H1
theorem zd3 {op} {t : TE} (h : PE X a t) : PE X (.BoolOp op [a] pos) t := fun pins s σ H Q I hw => BoolOp_one (h pins s σ H Q I hw)
theorem zfM (ha : PE X a ta) (hb : PE X (.BoolOp .And (b :: rest) pos) tb) : PE X (.BoolOp .And (a :: b :: rest) pos) (zpA ta tb) := by
  intro pins s σ H Q I h; refine BoolOp_and (thn (ha pins s σ H _ I h) fun v s1 ⟨x,H1,I1,r1,q1⟩ => ?_); obtain ⟨c,rfl,q1⟩ := q1; cases r1; refine wpAny_truthy_bool ?_
  cases c with
  | true => exact hb pins s1 σ H1 Q I1 q1
  | false => exact ⟨.bl false,H1,I1,rfl,q1⟩
theorem znV (ha : PE X a ta) (hb : PE X (.BoolOp .Or (b :: rest) pos) tb) : PE X (.BoolOp .Or (a :: b :: rest) pos) (zqk ta tb) := by
  intro pins s σ H Q I h; refine BoolOp_or (thn (ha pins s σ H _ I h) fun v s1 ⟨x,H1,I1,r1,q1⟩ => ?_); obtain ⟨c,rfl,q1⟩ := q1; cases r1; refine wpAny_truthy_bool ?_
  cases c with
  | false => exact hb pins s1 σ H1 Q I1 q1
  | true => exact ⟨.bl true,H1,I1,rfl,q1⟩
theorem zmb (ha : PE X a ta) : PE X (.UnaryOp .Not a pos) (zpO ta) := by
  intro pins s σ H Q I h; refine UnaryOp_ (thn (ha pins s σ H _ I h) fun v s1 ⟨x,H1,I1,r1,q1⟩ => ?_); obtain ⟨c,rfl,q1⟩ := q1; cases r1; exact not_of (wpAny_truthy_bool ⟨.bl (!c),H1,I1,rfl,q1⟩)
def tIf (t : TT) (ta tb : TE) : TE := fun σ H Q => t σ H fun c H1 => if c = true then ta σ H1 Q else tb σ H1 Q
theorem zmI {c : Expr} (hc : PT X c tA) (ha : PE X a ta) (hb : PE X b tb) : PE X (.IfExp c a b pos) (tIf tA ta tb) := by
  intro pins s σ H Q I h; refine wpAny_IfExp (thn (hc pins s σ H _ I h) fun d s1 ⟨H1,I1,q1⟩ => ?_)
  cases d with
  | true => exact ha pins s1 σ H1 Q I1 q1
  | false => exact hb pins s1 σ H1 Q I1 q1
end
def SqL (K : Fg) (H : Hp) (a : Addr) (xs : List V) : Prop :=
  Rd H a (.lst xs) ∨
    ∃ (o : Obj) (its : Array Value) (n : Nat),K.lookup a = some o /\ o.cls = .type "list" /\ o.dict = none /\ o.data = .seq its n /\ its.size <= sizeLine /\ Vals xs its.toList
def SqT (K : Fg) (H : Hp) (a : Addr) (xs : List V) : Prop :=
  Rd H a (.tup xs) ∨
    ∃ (o : Obj) (its : Array Value) (n : Nat),K.lookup a = some o /\ o.cls = .type "tuple" /\ o.data = .seq its n /\ its.size <= sizeLine /\ Vals xs its.toList
def zqy : Value -> Option V
  | .none => some .non
  | .bool b => some (.bl b)
  | .int i _ => some (.int i)
  | .str x _ => some (.str x)
  | .bytes b _ => some (.byt b)
  | .float b _ => some (.flt b)
  | .ref a => some (.ref a)
  | .type n => some (.ty n)
  | _ => none
theorem RelV.abs {x : V} {u : Value} (r : RelV x u) : zqy u = some x := by
  cases x with
  | non => cases r; rfl
  | bl _ => cases r; rfl
  | int _ => obtain ⟨t,rfl⟩ := r; rfl
  | str _ => obtain ⟨t,rfl⟩ := r; rfl
  | byt _ => obtain ⟨t,rfl⟩ := r; rfl
  | flt _ => obtain ⟨t,rfl⟩ := r; rfl
  | ref _ => cases r; rfl
  | ty _ => cases r; rfl
theorem RelV.inj {x y : V} {u : Value} (r : RelV x u) (q : RelV y u) : x = y := Option.some.inj (r.abs.symm.trans q.abs)
theorem Vals.inj {xs ys : List V} {us : List Value} (h : Vals xs us) (h' : Vals ys us) : xs = ys := by
  induction h generalizing ys with
  | nil => cases h'; rfl
  | cons r t ih =>
    cases h' with
    | cons r' t' => rw [r.inj r',ih t']
section
variable {X : Cx} {pins : List (Addr × Obj)} {σ : St} {H : Hp} {s : Shared} {a : Addr} {xs ys : List V}
theorem SqL.of {K : Fg} (h : H a = some (.lst xs)) : SqL K H a xs := .inl (.inl h)
theorem SqT.of {K : Fg} (h : H a = some (.tup xs)) : SqT K H a xs := .inl (.inl h)
theorem Inv.list (I : Inv X pins σ H s) (h : SqL X.K H a xs) : ∃ its : List Value,Vals xs its /\ PlainL s.heap a its.toArray /\ xs.length <= sizeLine := by
  rcases h with h | ⟨o,its,n,hk,hc,hd,hs,hz,r⟩
  . obtain ⟨z,its,n,r,e⟩ := h.ok I.hok; exact ⟨its,r,⟨_,n,e,rfl,rfl,rfl⟩,z⟩
  . refine ⟨its.toList,r,⟨o,n,I.kIn a o hk,hc,hd,by simpa using hs⟩,?_⟩
    have e := r.length; simp only [Array.length_toList] at e; omega
theorem Inv.tuple (I : Inv X pins σ H s) (h : SqT X.K H a xs) : ∃ its : List Value,Vals xs its /\ IsTup s.heap a its.toArray /\ xs.length <= sizeLine := by
  rcases h with h | ⟨o,its,n,hk,hc,hs,hz,r⟩
  . obtain ⟨z,its,r,p⟩ := h.ok I.hok; exact ⟨its,r,p,z⟩
  . refine ⟨its.toList,r,⟨o,I.kIn a o hk,hc,n,by simpa using hs⟩,?_⟩
    have e := r.length; simp only [Array.length_toList] at e; omega
theorem Inv.list_inj (I : Inv X pins σ H s) (h : SqL X.K H a xs) (h' : SqL X.K H a ys) : xs = ys := by
  obtain ⟨its,r,⟨o,n,e,_,_,d⟩,_⟩ := I.list h; obtain ⟨its',r',⟨o',n',e',_,_,d'⟩,_⟩ := I.list h'; rw [e] at e'; cases e'; rw [d] at d'; injection d' with d1 _
  have : its = its' := by simpa using congrArg Array.toList d1
  subst this; exact r.inj r'
theorem Inv.tuple_inj (I : Inv X pins σ H s) (h : SqT X.K H a xs) (h' : SqT X.K H a ys) : xs = ys := by
  obtain ⟨its,r,⟨o,e,_,n,d⟩,_⟩ := I.tuple h; obtain ⟨its',r',⟨o',e',_,n',d'⟩,_⟩ := I.tuple h'; rw [e] at e'; cases e'; rw [d] at d'; injection d' with d1 _
  have : its = its' := by simpa using congrArg Array.toList d1
  subst this; exact r.inj r'
end
abbrev Cx.wish (X : Cx) (E : Value -> Shared -> Prop) : Cx := { X with xe := E }
abbrev Cx.nox (X : Cx) : Cx := X.wish fun _ _ => False
theorem Cx.Ok.wish {X : Cx} (ok : X.Ok) (E : Value -> Shared -> Prop) : (X.wish E).Ok :=
  ⟨ok.mod,ok.kind,ok.glob,ok.blt,ok.above,ok.inj,ok.has,ok.cab,ok.hd,ok.frames,ok.stk,ok.exf,ok.bs,ok.bsz,ok.noex,ok.exfs,ok.funs,ok.frf⟩
theorem Cx.Ok.unwish {X : Cx} {E : Value -> Shared -> Prop} (ok : (X.wish E).Ok) : X.Ok :=
  ⟨ok.mod,ok.kind,ok.glob,ok.blt,ok.above,ok.inj,ok.has,ok.cab,ok.hd,ok.frames,ok.stk,ok.exf,ok.bs,ok.bsz,ok.noex,ok.exfs,ok.funs,ok.frf⟩
section
variable {X : Cx} {pins : List (Addr × Obj)} {σ : St} {H : Hp} {s : Shared} {E : Value -> Shared -> Prop}
theorem Inv.wish (I : Inv X pins σ H s) (E : Value -> Shared -> Prop) : Inv (X.wish E) pins σ H s := ⟨I.ok.wish E,I.os,I.bare,I.base,I.loc,I.cell,I.free,I.freeC,I.pin,I.hok,I.len⟩
theorem Inv.unwish (I : Inv (X.wish E) pins σ H s) : Inv X pins σ H s := ⟨I.ok.unwish,I.os,I.bare,I.base,I.loc,I.cell,I.free,I.freeC,I.pin,I.hok,I.len⟩
theorem SP.unwish {D : zfn} {f : Flow} {s' : Shared} (h : SP (X.wish E) pins D f s') : SP X pins D f s' := by
  cases f with
  | next => obtain ⟨σ',H',I,q⟩ := h; exact ⟨σ',H',I.unwish,q⟩
  | brk => obtain ⟨σ',H',I,q⟩ := h; exact ⟨σ',H',I.unwish,q⟩
  | cont => obtain ⟨σ',H',I,q⟩ := h; exact ⟨σ',H',I.unwish,q⟩
  | ret u => obtain ⟨v,σ',H',I,r,q⟩ := h; exact ⟨v,σ',H',I.unwish,r,q⟩
theorem PSs.nox {st : List Stmt} {t : TS} (h : PSs X.nox st t) : PSs X st t := fun pins s σ H D I hw =>
  wpAny_mono (h pins s σ H D (I.wish _) hw) (fun _ _ q => q.unwish) fun _ _ z => False.elim z
end
section
variable {X : Cx} {st : Stmt} {rest : List Stmt} {t u : TS} {e : Expr} {te : TE} {pos : Pos}
def zpj : TS := fun D σ H => D.nx σ H
def zpn (t u : TS) : TS := fun D σ H => t { D with nx := u D } σ H
theorem zaq : PSs X [] zpj := fun _ _ σ H _ I h => wpAny_execs_nil ⟨σ,H,I,h⟩
theorem zac (h1 : PS X st t) (h2 : PSs X rest u) : PSs X (st :: rest) (zpn t u) := by
  intro pins s σ H D I h; refine wpAny_execs_cons (thn (h1 pins s σ H { D with nx := u D } I h) fun f s1 q => ?_)
  cases f with
  | next =>
    obtain ⟨σ',H',I',q⟩ := q; exact h2 pins s1 σ' H' D I' q
  | ret v => exact q
  | brk => exact q
  | cont => exact q
theorem zaf (h1 : PS X st t) : PSs X [st] t := by
  intro pins s σ H D I h; refine wpAny_execs_cons (thn (h1 pins s σ H D I h) fun f s1 q => ?_)
  cases f with
  | next => exact wpAny_execs_nil q
  | ret v => exact q
  | brk => exact q
  | cont => exact q
def zoV : TS := fun D σ H => D.bk σ H
def zpt : TS := fun D σ H => D.ct σ H
theorem zmz : PS X (.Break pos) zoV := fun _ _ σ H _ I h => wpAny_Break ⟨σ,H,I,h⟩
theorem zif : PS X (.Continue pos) zpt := fun _ _ σ H _ I h => wpAny_Continue ⟨σ,H,I,h⟩
theorem Inv.quiet {pins : List (Addr × Obj)} {σ : St} {H : Hp} {s : Shared} (I : Inv X pins σ H s) : interactive X.env = false := by simp [interactive,I.ok.kind]
def zpk (te : TE) : TS := fun D σ H => te σ H fun _ H1 => D.nx σ H1
theorem zaS (he : PE X e te) (hs : swapsWith e none pos.line X.env = pure false := by rfl) : PS X (.Expr e pos) (zpk te) := by
  intro pins s σ H D I h; exact wpAny_Expr_any (thn (he pins s σ H _ I h) fun v s1 ⟨x,H1,I1,r1,q1⟩ => ⟨σ,H1,I1,q1⟩) I.quiet hs
def zqD (te : TE) : TS := fun D σ H => te σ H D.rt
theorem zao (he : PE X e te) : PS X (.Return (some e) pos) (zqD te) := by
  intro pins s σ H D I h; exact wpAny_Return_some (thn (he pins s σ H _ I h) fun v s1 ⟨x,H1,I1,r1,q1⟩ => ⟨x,σ,H1,I1,r1,q1⟩)
def zqK (c : TT) (t u : TS) : TS := fun D σ H => c σ H fun b H1 => if b = true then t D σ H1 else u D σ H1
theorem zaD {c : Expr} {a b : List Stmt} {tc : TT} (hc : PT X c tc) (ha : PSs X a t) (hb : PSs X b u) : PS X (.If c a b pos) (zqK tc t u) := by
  intro pins s σ H D I h; refine wpAny_If (thn (hc pins s σ H _ I h) fun d s1 ⟨H1,I1,q1⟩ => ?_)
  cases d with
  | true => exact ha pins s1 σ H1 D I1 q1
  | false => exact hb pins s1 σ H1 D I1 q1
def zpg : TS := fun _ _ _ => False
theorem zlj : PS X st zpg := fun _ _ _ _ _ _ h => h.elim
end
abbrev TG := V -> St -> Hp -> (St -> Hp -> Prop) -> Prop
abbrev TGs := List V -> St -> Hp -> (St -> Hp -> Prop) -> Prop
def PG (X : Cx) (target : Expr) (t : TG) : Prop :=
  ∀ (pins : List (Addr × Obj)) (s : Shared) (σ : St) (H : Hp) (v : V) (u : Value) (Q : St -> Hp -> Prop),Inv X pins σ H s -> RelV v u -> t v σ H Q →
    wpAny (model X.prog X.w) X.A (assign target X.env u) (fun _ s' => ∃ σ' H',Inv X pins σ' H' s' /\ Q σ' H') X.xe s
def PGs (X : Cx) (ts : List Expr) (t : TGs) : Prop :=
  ∀ (pins : List (Addr × Obj)) (s : Shared) (σ : St) (H : Hp) (vs : List V) (us : List Value) (Q : St -> Hp -> Prop),Inv X pins σ H s -> Vals vs us -> t vs σ H Q →
    wpAny (model X.prog X.w) X.A (assignInOrder ((assignEach ts X.env).map (·.2)) us) (fun _ s' => ∃ σ' H',Inv X pins σ' H' s' /\ Q σ' H') X.xe s
abbrev zpf := V -> V -> V -> Hp -> (Hp -> Prop) -> Prop
def znL (X : Cx) (t : zpf) : Prop :=
  ∀ (pins : List (Addr × Obj)) (s : Shared) (σ : St) (H : Hp) (o i v : V) (ov iv u : Value) (Q : Hp -> Prop),Inv X pins σ H s -> RelV o ov -> RelV i iv -> RelV v u -> t o i v H Q →
    wpAny (model X.prog X.w) X.A (setItem ov iv u) (fun _ s' => ∃ H',Inv X pins σ H' s' /\ Q H') X.xe s
section
variable {X : Cx} {pos : Pos}
def zcL (i : Nat) : TG := fun v σ H Q => Q (σ.set i (some v)) H
theorem zaC {i : Nat} {x : Str} (hN : X.N.Nodup) (hi : X.N[i]? = some x) (hx : Loc X.env.scope x) (hf : X.fn x = true \/ X.env.scope.names.lookup x = some .local := by first | exact .inl rfl | exact .inr rfl | assumption) : PG X (.Name x pos) (zcL i) := by
  intro pins s σ H v u Q I r h; exact wpAny_assign_Name (zh8 I hN hi hx r (fun s' I' => ⟨_,H,I',h⟩) hf)
def zqC : TGs := fun vs σ H Q => vs = [] /\ Q σ H
def zp6 (t : TG) (u : TGs) : TGs := fun vs σ H Q => ∃ v r,vs = v :: r /\ t v σ H fun σ' H' => u r σ' H' Q
theorem zdF : PGs X [] zqC := by
  intro pins s σ H vs us Q I r h; obtain ⟨e,h⟩ := h; subst e; cases r; exact assignInOrder_nil ⟨σ,H,I,h⟩
theorem zaU {e : Expr} {es : List Expr} {t : TG} {u : TGs} (h1 : PG X e t) (h2 : PGs X es u)
    (hs : (assignEach (e :: es) X.env).map (·.2) = assign e X.env :: (assignEach es X.env).map (·.2) := by rfl) : PGs X (e :: es) (zp6 t u) := by
  intro pins s σ H vs us Q I r h; obtain ⟨v,vr,e1,h⟩ := h; subst e1
  cases r with
  | cons r rr =>
    rw [hs]; refine assignInOrder_cons (thn (h1 pins s σ H _ _ _ I r h) fun _ s1 ⟨σ1,H1,I1,q1⟩ => ?_); exact h2 pins s1 σ1 H1 _ _ Q I1 rr q1
def zqb (K : Fg) (n : Nat) (t : TGs) : TG := fun v σ H Q => ∃ a xs,v = .ref a /\ SqT K H a xs /\ xs.length = n /\ t xs σ H Q
theorem zeG {es : List Expr} {k : Nat} {t : TGs} {n : Nat} (hc : X.calm = true) (h : PGs X es t)
    (hn : (assignEach es X.env).length = n := by rfl) (hst : (assignEach es X.env).findIdx? (·.1) = none := by rfl) : PG X (.Tuple es k pos) (zqb X.K n t) := by
  intro pins s σ H v u Q I r hw; obtain ⟨a,xs,e1,hq,hl,hw⟩ := hw; subst e1; cases r; obtain ⟨its,rv,ht,hz⟩ := I.tuple hq; refine assign_Tuple_tuple (I.ok.hd hc) ht (by simp [hn,<- hl,rv.length]) hst fun h' hx => ?_
  have I1 : Inv X pins σ H { s with heap := h' } := I.kept (t' := s.toks) fun b o e => hx b o (Nat.ne_of_lt (Heap.lt_size e)) e
  exact h pins _ σ H xs _ Q I1 (by simpa using rv) hw
def zqq (to ti : TE) (t : zpf) : TG := fun v σ H Q => to σ H fun o H1 => ti σ H1 fun i H2 => t o i v H2 fun H3 => Q σ H3
theorem zeL {o i : Expr} {to ti : TE} {t : zpf} (ho : PE X o to) (hi : PE X i ti) (hs : znL X t)
    (ha : ∀ v,assign (.Subscript o i pos) X.env v = (do
      let ov <- holding [v] (eval o X.env)
      let iv <- holding [v,ov] (eval i X.env)
      standAt pos
      holding [v,ov,iv] (setItem ov iv v)
      release [v,ov,iv] []) := by intro _; rfl) : PG X (.Subscript o i pos) (zqq to ti t) := by
  intro pins s σ H v u Q I r h; rw [ha]; refine wpAny_bind (wpAny_holding (thn (ho pins s σ H _ I h) fun ov s1 ⟨x,H1,I1,r1,q1⟩ => ?_)); refine wpAny_bind (wpAny_holding (thn (hi pins s1 σ H1 _ I1 q1) fun iv s2 ⟨y,H2,I2,r2,q2⟩ => ?_)); refine wpAny_bind (wpAny_standAt (wpAny_bind (wpAny_holding (thn (hs pins s2 σ H2 x y v ov iv u _ I2 r1 r2 r q2) fun _ s3 ⟨H3,I3,q3⟩ => ?_)))); exact wpAny_release ⟨σ,H3,I3,q3⟩
def znz (te : TE) (g : TG) : TS := fun D σ H => te σ H fun x H1 => g x σ H1 D.nx
theorem zci {tg e : Expr} {te : TE} {g : TG} (he : PE X e te) (hg : PG X tg g) (hs : swapsWithSole [tg] e pos.line X.env = pure false := by rfl) (hw : swappedStores [tg] e X.env = pure none := by rfl)
    (h1 : (assignEach [tg] X.env).map (·.2) = [assign tg X.env] := by rfl) : PS X (.Assign [tg] e pos) (znz te g) := by
  intro pins s σ H D I h; refine wpAny_Assign_stores (thn (he pins s σ H _ I h) fun v s1 ⟨x,H1,I1,r1,q1⟩ => ?_) hs hw; rw [h1]; exact thn (hg pins s1 σ H1 x v _ I1 r1 q1) fun _ s2 q => q
theorem zar {i : Nat} {x : Str} {e : Expr} {te : TE} {pos' : Pos} (hN : X.N.Nodup) (hi : X.N[i]? = some x) (hx : Loc X.env.scope x) (he : PE X e te) (hs : swapsWith e (some (.Name x pos')) pos.line X.env = pure false := by rfl) (hf : X.fn x = true \/ X.env.scope.names.lookup x = some .local := by first | exact .inl rfl | exact .inr rfl | assumption) :
    PS X (.Assign [.Name x pos'] e pos) (znz te (zcL i)) := by
  intro pins s σ H D I h; refine wpAny_Assign_Name (thn (he pins s σ H _ I h) fun v s1 ⟨y,H1,I1,r1,q1⟩ => ?_) hs; exact zh8 I1 hN hi hx r1 (fun s2 I2 => ⟨_,H1,I2,q1⟩) hf
end
section
variable {X : Cx} {pos : Pos}
def zpc (c : TT) (tb : TS) : TS := fun D σ H => ∃ W : Nat -> St -> Hp -> Prop,(∃ m,W m σ H) /\ ∀ m σ H,W m σ H →
  c σ H fun b H1 => if b = true then ∃ N : St -> Hp -> Prop,(∀ σ' H',N σ' H' -> ∃ m',m' < m /\ W m' σ' H') /\ tb { D with nx := N,ct := N,bk := D.nx } σ H1 else D.nx σ H1
theorem zfZ {c : Expr} {body : List Stmt} {tc : TT} {tb : TS} (hp : PassesOwn (model X.prog X.w) X.A X.env X.xe) (hc : PT X c tc) (hb : PSs X body tb) : PS X (.While c body [] pos) (zpc tc tb) := by
  intro pins s σ H D I h; obtain ⟨W,⟨m0,w0⟩,turn⟩ := h; refine wpAny_While (codeAny_whileLoop (fun n s' => ∃ σ' H',Inv X pins σ' H' s' /\ W n σ' H') ?_ m0 ⟨σ,H,I,w0⟩); rintro n s1 ⟨σ1,H1,I1,w1⟩; refine wpAny_passesOwn hp (thn (hc pins s1 σ1 H1 _ I1 (turn n σ1 H1 w1)) fun b s2 ⟨H2,I2,q2⟩ => ?_)
  cases b with
  | true =>
    obtain ⟨N,hN,q2⟩ := q2; rw [if_pos rfl]; refine wpAny_passesOwn hp (thn (hb pins s2 σ1 H2 _ I2 q2) fun f s3 q3 => ?_)
    cases f with
    | next =>
      obtain ⟨σ3,H3,I3,n3⟩ := q3; obtain ⟨m',hm,w3⟩ := hN σ3 H3 n3; exact ⟨m',hm,σ3,H3,I3,w3⟩
    | cont =>
      obtain ⟨σ3,H3,I3,n3⟩ := q3; obtain ⟨m',hm,w3⟩ := hN σ3 H3 n3; exact ⟨m',hm,σ3,H3,I3,w3⟩
    | brk => exact q3
    | ret v => exact q3
  | false =>
    rw [if_neg fnt]; exact wpAny_execs_nil ⟨σ1,H2,I2,q2⟩
end
structure It where
  go : Nat -> Hp -> Prop
  yld : Nat -> Hp -> V -> Hp -> Prop
  stop : Nat -> Hp -> Prop
def FpOk (X : Cx) (pins : List (Addr × Obj)) (H : Hp) (b : Addr) : Prop :=
  H b = none /\ b ≠ X.env.locals /\ b ∉ X.fs /\ (b ∈ X.ex \/ X.s₀.heap.objs.size <= b) /\ (∀ x c,X.env.cells.lookup x = some c -> c ≠ b) /\ ∀ p ∈ X.pn ++ pins,p.1 ≠ b
theorem Inv.fpOk {X : Cx} {pins : List (Addr × Obj)} {σ : St} {H H' : Hp} {s : Shared} {b : Addr} (I : Inv X pins σ H s) (hb : s.heap.objs.size <= b) (hn : H' b = none) : FpOk X pins H' b := by
  refine ⟨hn,Nat.ne_of_gt (Nat.lt_of_lt_of_le I.lt hb),I.nofs hb,.inr (Nat.le_trans I.sz hb),fun x c e z => ?_,fun p hp z => ?_⟩
  . obtain ⟨v,q⟩ := I.cell x c e; exact absurd (Nat.lt_of_lt_of_le q.lt (by rw [z]; exact hb)) (Nat.lt_irrefl _)
  . exact absurd (Nat.lt_of_lt_of_le (Heap.lt_size (I.pin p hp).1) (by rw [z]; exact hb)) (Nat.lt_irrefl _)
structure zjh (P : Program) (w : World) (K : Fg) (tg : Expr) (J : It) (fp : List Addr) (it : Addr) (tn : Nat -> Heap -> Prop) : Prop where
  mem : it ∈ fp
  obj : ∀ i h,tn i h -> ∀ b ∈ fp,∃ o,h.get? b = some o /\ ∀ v,o.data ≠ .cell v
  keep : ∀ i h h',tn i h -> (∀ b ∈ fp,∀ o,h.get? b = some o -> h'.get? b = some o) -> tn i h'
  item : ∀ (X : Cx),X.prog = P -> X.w = w -> X.K = K -> X.calm = true -> ∀ (i : Nat) (pins : List (Addr × Obj)) (s : Shared) (σ : St) (H : Hp) (E : Value -> Shared -> Prop),Inv X pins σ H s -> (∀ b ∈ fp,FpOk X pins H b) -> tn i s.heap -> J.go i H →
    wpAny (model P w) X.A (pyNext (.ref it)) (fun r s1 => ∃ u,r = some u ∧
      wpAny (model P w) X.A (letOwnedTupleGo tg (.ref it) u) (fun _ s2 => ∃ x H',Inv X pins σ H' s2 /\ RelV x u /\ J.yld i H x H' /\ tn (i + 1) s2.heap /\ ∀ b ∈ fp,H' b = none) E s1) E s
  done : ∀ (X : Cx),X.prog = P -> X.w = w -> X.K = K -> X.calm = true -> ∀ (i : Nat) (pins : List (Addr × Obj)) (s : Shared) (σ : St) (H : Hp) (E : Value -> Shared -> Prop),Inv X pins σ H s -> (∀ b ∈ fp,FpOk X pins H b) -> tn i s.heap -> J.stop i H →
    wpAny (model P w) X.A (pyNext (.ref it)) (fun r s1 => r = none /\ Inv X pins σ H s1) E s
  self : ∀ (A : Around) (i : Nat) (s : Shared) (Q : Value -> Shared -> Prop) (E : Value -> Shared -> Prop),tn i s.heap -> Q (.ref it) s -> wpAny (model P w) A (pyIter (.ref it)) Q E s
abbrev TI := St -> Hp -> (It -> Hp -> Prop) -> Prop
def PIE (X : Cx) (pins : List (Addr × Obj)) (σ : St) (tg : Expr) (R : It -> Hp -> Prop) (itv : Value) (s2 : Shared) : Prop :=
  ∃ (it : Addr) (fp : List Addr) (tn : Nat -> Heap -> Prop) (J : It) (H' : Hp),itv = .ref it /\ Inv X pins σ H' s2 /\ zjh X.prog X.w X.K tg J fp it tn /\ tn 0 s2.heap /\ (∀ b ∈ fp,FpOk X pins H' b) /\ R J H'
def PI (X : Cx) (tg iter : Expr) (wi : TI) : Prop :=
  ∀ (pins : List (Addr × Obj)) (s : Shared) (σ : St) (H : Hp) (R : It -> Hp -> Prop),Inv X pins σ H s -> wi σ H R →
    wpAny (model X.prog X.w) X.A (eval iter X.env) (fun v s1 => wpAny (model X.prog X.w) X.A (pyIter v) (PIE X pins σ tg R) X.xe s1) X.xe s
theorem zjP {M : Model} {A : Around} {E : Value -> Shared -> Prop} {s : Shared} {tg : Expr} {it : Addr} {u : Value} {o : Obj} {n : String} {vs : Array Value} {Q : Unit -> Shared -> Prop} (ho : s.heap.get? it = some o) (hc : o.cls = .type n) (hd : o.data = .fields vs)
    (hn : ["enumerate","zip","dict_itemiterator","dict_reverseitemiterator","odict_iterator","itertools.zip_longest","itertools.pairwise"].contains n = false) (hQ : Q () s) : wpAny M A (letOwnedTupleGo tg (.ref it) u) Q E s := by
  unfold letOwnedTupleGo
  cases tg <;> first
    | exact wpAny_pure hQ
    | (cases u <;> first
        | exact wpAny_pure hQ
        | (refine wpAny_bind (wpAny_load ho ?_)
           rw [hc,hd]; show wpAny M A (if (["enumerate","zip","dict_itemiterator","dict_reverseitemiterator","odict_iterator","itertools.zip_longest","itertools.pairwise"].contains n && vs[0]? == some (rawInt _)) = true then _ else _) Q E s; rw [if_neg (by intro h; rw [hn,Bool.false_and] at h; cases h)]
           exact wpAny_pure hQ))
def Itl (K : Fg) (a : Addr) : It :=
  ⟨fun i H => ∃ xs x,SqL K H a xs /\ xs[i]? = some x,fun i H x H' => H' = H /\ ∀ xs,SqL K H a xs -> xs[i]? = some x,fun i H => ∃ xs,SqL K H a xs /\ xs.length <= i⟩
def Itr (lo : Int) (n : Nat) : It := ⟨fun i _ => i < n,fun i H x H' => H' = H /\ x = .int (lo + i),fun i _ => n <= i⟩
theorem zkr {P : Program} {w : World} {K : Fg} {tg : Expr} (a it : Addr) : zjh P w K tg (Itl K a) [it] it (fun i h => h.IsListIter it a i) where
  mem := by simp
  obj := fun i h st b hb => by
    have e : b = it := by simpa using hb
    subst e; obtain ⟨o,e,c,d⟩ := st; exact ⟨o,e,fun v z => by rw [d] at z; cases z⟩
  keep := fun i h h' st k => st.at fun o e => k it (by simp) o e
  item := by
    intro X hP hw hK hc i pins s σ H E I hf st hg; subst hP hw hK; obtain ⟨xs,x,hq,hx⟩ := hg; obtain ⟨its,rv,p,hz⟩ := I.list hq; obtain ⟨u,hu,ru⟩ := rv.get hx; obtain ⟨f0,f1,f2,f3,f4,f5⟩ := hf it (by simp)
    refine wpAny_pyNext_list_item st p.isList (x := u) (by simpa using hu) fun h' st' sb => ?_
    have I1 : Inv X pins σ H { s with heap := h' } := I.turned (t' := s.toks) (fun b o hb e => (sb.2 b hb).trans e) f0 f1 f3 f4 f5
    obtain ⟨o,e,c,d⟩ := id st'; exact ⟨u,rfl,zjP (s := { s with heap := h' }) e c d (by decide) ⟨x,H,I1,ru,⟨rfl,fun ys hy => by rw [I.list_inj hy hq]; exact hx⟩,st',fun b hb => (hf b hb).1⟩⟩
  done := by
    intro X hP hw hK hc i pins s σ H E I hf st hg; subst hP hw hK; obtain ⟨xs,hq,hx⟩ := hg; obtain ⟨its,rv,p,hz⟩ := I.list hq; obtain ⟨f0,f1,f2,f3,f4,f5⟩ := hf it (by simp)
    have hl := rv.length; exact wpAny_pyNext_list_end (I.ok.hd hc) st p.isList (by simp; omega) fun h' eb => ⟨rfl,I.turned (t' := s.toks) (fun b o hb e => eb b o hb e) f0 f1 f3 f4 f5⟩
  self := fun _ _ _ _ _ st h => wpAny_pyIter_listiter st h
theorem zi0 {P : Program} {w : World} {K : Fg} {tg : Expr} (it : Addr) (lo : Int) (n : Nat) : zjh P w K tg (Itr lo n) [it] it (fun i h => IsRangeIter h it (lo + (i : Nat) * 1) ((n : Int) - (i : Nat)) 1) where
  mem := by simp
  obj := fun i h st b hb => by
    have e : b = it := by simpa using hb
    subst e
    exact ⟨_,st,fun v z => by
      have z' : Data.fields _ = Data.cell v := z
      cases z'⟩
  keep := fun i h h' st k => k it (by simp) _ st
  item := by
    intro X hP hw hK hc i pins s σ H E I hf st hg; subst hP hw hK; obtain ⟨f0,f1,f2,f3,f4,f5⟩ := hf it (by simp)
    have W := Walks.range (prog := X.prog) (w := X.w) (I.ok.hd hc) it lo 1 n; refine W.item i s _ _ hg st fun v h' tk hv st' kk => ?_; obtain ⟨t,rfl⟩ := hv; have I1 : Inv X pins σ H { s with heap := h',toks := tk } := I.turned (fun b o hb e => kk b o (by simpa using hb) e) f0 f1 f3 f4 f5
    refine ⟨_,rfl,zjP (s := { s with heap := h',toks := tk }) (n := "range_iterator") st' rfl rfl (by decide) ⟨.int (lo + i),H,I1,⟨t,?_⟩,⟨rfl,rfl⟩,st',fun b hb => (hf b hb).1⟩⟩
    rw [Int.mul_one]
  done := by
    intro X hP hw hK hc i pins s σ H E I hf st hg; subst hP hw hK; obtain ⟨f0,f1,f2,f3,f4,f5⟩ := hf it (by simp)
    exact wpAny_pyNext_range_end (I.ok.hd hc) st (by have : n <= i := hg; omega) fun h' eb => ⟨rfl,I.turned (t' := s.toks) (fun b o hb e => eb b o hb e) f0 f1 f3 f4 f5⟩
  self := fun _ _ _ _ _ st h => wpAny_pyIter_rangeiter st h
section
variable {X : Cx} {tg : Expr}
inductive QIt (A : Addr -> List V -> Prop) (x : V) (R : Addr -> Prop) : Prop
  | mk (a : Addr) : (x = .ref a) -> (∃ xs,A a xs) -> (R a) -> QIt A x R
def znS (K : Fg) (tl : TE) : TI := fun σ H R => tl σ H fun x H1 => QIt (SqL K H1) x (fun a => R (Itl K a) H1)
theorem znH {l : Expr} {tl : TE} (hl : PE X l tl) : PI X tg l (znS X.K tl) := by
  intro pins s σ H R I h; refine thn (hl pins s σ H _ I h) fun v s1 ⟨x,H1,I1,r1,q1⟩ => ?_; obtain ⟨a,e,⟨xs,hq⟩,q⟩ := q1; subst e; cases r1; obtain ⟨its,rv,p,hz⟩ := I1.list hq; refine wpAny_pyIter_list p.isList ?_; refine ⟨s1.heap.objs.size,[s1.heap.objs.size],_,_,H1,rfl,I1.kept (t' := s1.toks) fun b o e => Heap.get?_push_of_some _ e,zkr a _,⟨_,Heap.get?_push_size _ rfl,rfl,rfl⟩,fun b hb => ?_,q⟩; have e : b = s1.heap.objs.size := by simpa using hb
  subst e; exact I1.fpOk (Nat.le_refl _) (I1.hok.fresh (Nat.le_refl _))
theorem zlr {pins : List (Addr × Obj)} {σ : St} {H : Hp} {s : Shared} {R : It -> Hp -> Prop} {E : Value -> Shared -> Prop} {lo hi : Int} {t u v : Tok} {tk : Nat} (I : Inv X pins σ H s) (h1 : -(2 ^ 62) <= lo) (h2 : lo < 2 ^ 62) (h3 : -(2 ^ 62) <= hi) (h4 : hi < 2 ^ 62)
    (q : R (Itr lo (hi - lo).toNat) H) : wpAny (model X.prog X.w) X.A (pyIter (.ref s.heap.objs.size)) (PIE X pins σ tg R) E { s with heap := s.heap.push { cls := .type "range",data := .fields #[.int lo t,.int hi u,.int 1 v] },toks := tk } := by
  refine wpAny_pyIter_range (IsRange.new ..) (small_one h1 h2 h3 h4) ?_; have I1 : Inv X pins σ H { s with heap := s.heap.push { cls := .type "range",data := .fields #[.int lo t,.int hi u,.int 1 v] },toks := tk } := I.kept fun b o e => Heap.get?_push_of_some _ e
  refine ⟨(s.heap.push { cls := .type "range",data := .fields #[.int lo t,.int hi u,.int 1 v] }).objs.size,[(s.heap.push { cls := .type "range",data := .fields #[.int lo t,.int hi u,.int 1 v] }).objs.size],_,_,H,rfl,
    I1.kept (t' := tk) fun b o e => Heap.get?_push_of_some _ e,zi0 _ lo (hi - lo).toNat,?_,fun b hb => ?_,q⟩
  . have e1 : lo + ((0 : Nat) : Int) * 1 = lo := by simp
    have e2 : (((hi - lo).toNat : Nat) : Int) - ((0 : Nat) : Int) = Builtin.Range.rangeSize lo hi 1 := by rw [rangeSize_one]; split <;> omega
    show IsRangeIter _ _ (lo + ((0 : Nat) : Int) * 1) ((((hi - lo).toNat : Nat) : Int) - ((0 : Nat) : Int)) 1; rw [e1,e2]; exact Heap.get?_push_size _ rfl
  . have e : b = (s.heap.push { cls := .type "range",data := .fields #[.int lo t,.int hi u,.int 1 v] }).objs.size := by simpa using hb
    subst e; exact I1.fpOk (Nat.le_refl _) (I1.hok.fresh (Nat.le_refl _))
def zpV (ta : TA) : TI := fun σ H R => ta σ H fun vs H1 => ∃ j : Int,vs = [.int j] /\ -(2 ^ 62) <= j /\ j < 2 ^ 62 /\ R (Itr 0 j.toNat) H1
theorem zbl {a : Expr} {ta : TA} {p pos : Pos} (hg : Gl X "range") (hm : X.mg "range" = none) (ha : PA X [a] ta) (hs : starEach [a] X.env = [(false,eval a X.env)] := by rfl) : PI X tg (.Call (.Name "range" p) [a] [] pos) (zpV ta) := by
  intro pins s σ H R I h; refine Call_ (zdY I hg hm boot_range (PyProof.Rows.callWith_type1 (thn (ha pos pins s σ H _ I h) fun us s1 ⟨vs,H1,I1,r1,q1⟩ => ?_) hs rfl)); obtain ⟨j,e,q1,q2,q⟩ := q1; subst e
  cases r1 with
  | cons r rr =>
    cases rr; obtain ⟨t,rfl⟩ := r; exact call_range_1 (zlr I1 (by omega) (by omega) q1 q2 (by simpa using q))
def zqH (wi : TI) (g : TG) (tb : TS) : TS := fun D σ H => wi σ H fun J H1 => ∃ W : Nat -> Nat -> St -> Hp -> Prop,(∃ m,W 0 m σ H1) /\ ∀ i m σ H,W i m σ H →
  (J.stop i H /\ D.nx σ H) \/ (J.go i H /\ ∃ N : St -> Hp -> Prop,(∀ σ' H',N σ' H' -> ∃ m',m' < m /\ W (i + 1) m' σ' H') /\ ∀ x H',J.yld i H x H' -> g x σ H' fun σ2 H2 => tb { D with nx := N,ct := N,bk := D.nx } σ2 H2)
def zfP (fp : List Addr) (h : Heap) : List (Addr × Obj) := fp.filterMap fun b => (h.get? b).map fun o => (b,o)
theorem zcW {fp : List Addr} {h : Heap} {b : Addr} {o : Obj} (hb : b ∈ fp) (e : h.get? b = some o) : (b,o) ∈ zfP fp h := List.mem_filterMap.mpr ⟨b,hb,by rw [e]; rfl⟩
theorem zk5 {fp : List Addr} {h : Heap} {p : Addr × Obj} (hp : p ∈ zfP fp h) : p.1 ∈ fp /\ h.get? p.1 = some p.2 := by
  obtain ⟨b,hb,e⟩ := List.mem_filterMap.mp hp
  cases q : h.get? b with
  | none => rw [q] at e; cases e
  | some o =>
    rw [q] at e; have e' : (b,o) = p := Option.some.inj e; subst e'; exact ⟨hb,q⟩
theorem Inv.pinned {pins : List (Addr × Obj)} {σ : St} {H : Hp} {s : Shared} {fp : List Addr} (I : Inv X pins σ H s) (hf : ∀ b ∈ fp,FpOk X pins H b) (ho : ∀ b ∈ fp,∃ o,s.heap.get? b = some o /\ ∀ v,o.data ≠ .cell v) : Inv X (pins ++ zfP fp s.heap) σ H s :=
  I.pins_of fun p hp => (List.mem_append.mp hp).elim (fun z => I.pin p (List.mem_append_right _ z)) fun z => by
    obtain ⟨hb,e⟩ := zk5 z; obtain ⟨f0,f1,f2,_⟩ := hf p.1 hb; obtain ⟨o,e',d⟩ := ho p.1 hb; rw [e] at e'; cases e'; exact ⟨e,f0,f1,f2,d⟩
theorem Inv.unpinned {pins pl : List (Addr × Obj)} {σ : St} {H : Hp} {s : Shared} (I : Inv X (pins ++ pl) σ H s) : Inv X pins σ H s := I.pins_of fun p hp => I.pin p (List.mem_append_right _ (List.mem_append_left _ hp))
theorem zaZ {iter : Expr} {body : List Stmt} {wi : TI} {g : TG} {tb : TS} {pos : Pos} (hp : PassesOwn (model X.prog X.w) X.A X.env X.xe) (hc : X.calm = true) (hi : PI X tg iter wi) (hg : PG X tg g) (hb : PSs X body tb)
    (hs : ∀ x,foldedSetIterable iter X.env x = pure x := by intro _; rfl) : PS X (.For tg iter body [] pos) (zqH wi g tb) := by
  intro pins s σ H D I h; refine wpAny_For (thn (hi pins s σ H _ I h) fun v s1 h1 => thn h1 fun itv s2 h2 => ?_) hs; obtain ⟨it,fp,tn,J,H2,e,I2,T,st2,f2,W,⟨m0,w0⟩,turn⟩ := h2; subst e; have stat : ∀ {H' : Hp},(∀ b ∈ fp,H' b = none) -> ∀ b ∈ fp,FpOk X pins H' b := fun hn b hb => ⟨hn b hb,(f2 b hb).2⟩; refine codeAny_forLoop_any (fun n s' => ∃ i σ' H',Inv X pins σ' H' s' /\ tn i s'.heap /\ (∀ b ∈ fp,H' b = none) /\ W i n σ' H') ?_ m0 ⟨0,σ,H2,I2,st2,fun b hb => (f2 b hb).1,w0⟩; rintro n s3 ⟨i,σ3,H3,I3,st3,fr3,w3⟩
  rcases turn i n σ3 H3 w3 with ⟨stop,qn⟩ | ⟨go,N,hN,step⟩
  . refine wpAny_passesOwn hp (thn (T.done X rfl rfl rfl hc i pins s3 σ3 H3 X.xe I3 (stat fr3) st3 stop) fun r s4 ⟨hr,I4⟩ => ?_); subst hr; exact wpAny_execs_nil ⟨σ3,H3,I4,qn⟩
  . refine wpAny_passesOwn hp (thn (T.item X rfl rfl rfl hc i pins s3 σ3 H3 X.xe I3 (stat fr3) st3 go) fun r s4 ⟨u,hr,h4⟩ => ?_); subst hr; refine wpAny_passesOwn hp (thn h4 fun _ s5 ⟨x,H5,I5,r5,y5,st5,fr5⟩ => ?_); have I5' := I5.pinned (stat fr5) (T.obj _ _ st5); refine wpAny_passesOwn hp (thn (hg _ s5 σ3 H5 x u _ I5' r5 (step x H5 y5)) fun _ s6 ⟨σ6,H6,I6,q6⟩ => ?_); refine wpAny_passesOwn hp (thn (hb _ s6 σ6 H6 _ I6 q6) fun f s7 q7 => ?_)
    have again : ∀ {σ7 : St} {H7 : Hp},Inv X (pins ++ zfP fp s5.heap) σ7 H7 s7 -> N σ7 H7 -> ∃ m,m < n /\ ∃ i σ' H',Inv X pins σ' H' s7 /\ tn i s7.heap /\ (∀ b ∈ fp,H' b = none) /\ W i m σ' H' := fun {σ7 H7} I7 n7 => by
      obtain ⟨m',hm,w7⟩ := hN σ7 H7 n7; refine ⟨m',hm,i + 1,σ7,H7,I7.unpinned,T.keep _ _ _ st5 fun b hb o e => (I7.pin (b,o) (List.mem_append_right _ (List.mem_append_right _ (zcW hb e)))).1,fun b hb => ?_,w7⟩; obtain ⟨o,e,d⟩ := T.obj _ _ st5 b hb; exact (I7.pin (b,o) (List.mem_append_right _ (List.mem_append_right _ (zcW hb e)))).2.1
    cases f with
    | next => obtain ⟨σ7,H7,I7,n7⟩ := q7; exact again I7 n7
    | cont => obtain ⟨σ7,H7,I7,n7⟩ := q7; exact again I7 n7
    | brk => obtain ⟨σ7,H7,I7,q7⟩ := q7; exact ⟨σ7,H7,I7.unpinned,q7⟩
    | ret v => obtain ⟨x7,σ7,H7,I7,r7,q7⟩ := q7; exact ⟨x7,σ7,H7,I7.unpinned,r7,q7⟩
end
theorem za9 {K : Fg} {a : Addr} {xs : List V} {g : TG} {tb : TS} {D : zfn} {σ : St} {H : Hp} (Pv : Nat -> St -> Hp -> Prop) (h0 : Pv 0 σ H) (hl : ∀ i σ H,i <= xs.length -> Pv i σ H -> SqL K H a xs)
    (hs : ∀ i x σ H,xs[i]? = some x -> Pv i σ H -> g x σ H fun σ2 H2 => tb { D with nx := Pv (i + 1),ct := Pv (i + 1),bk := D.nx } σ2 H2) (hd : ∀ σ H,Pv xs.length σ H -> D.nx σ H) :
    ∃ W : Nat -> Nat -> St -> Hp -> Prop,(∃ m,W 0 m σ H) /\ ∀ i m σ H,W i m σ H →
      ((Itl K a).stop i H /\ D.nx σ H) \/ ((Itl K a).go i H /\ ∃ N : St -> Hp -> Prop,(∀ σ' H',N σ' H' -> ∃ m',m' < m /\ W (i + 1) m' σ' H') /\ ∀ x H',(Itl K a).yld i H x H' -> g x σ H' fun σ2 H2 => tb { D with nx := N,ct := N,bk := D.nx } σ2 H2) := by
  refine ⟨fun i m σ H => m = xs.length - i /\ i <= xs.length /\ Pv i σ H,⟨xs.length,by simp,Nat.zero_le _,h0⟩,?_⟩
  rintro i m σ H ⟨rfl,hi,p⟩; have q := hl i σ H hi p
  by_cases hlt : i < xs.length
  . refine .inr ⟨⟨xs,xs[i],q,by simp [hlt]⟩,Pv (i + 1),fun σ' H' p' => ⟨xs.length - (i + 1),by omega,rfl,hlt,p'⟩,fun x H' y => ?_⟩
    obtain ⟨e,y⟩ := y; subst e; exact hs i x σ _ (y xs q) p
  . have e : i = xs.length := by omega
    subst e; exact .inl ⟨⟨xs,q,Nat.le_refl _⟩,hd σ H p⟩
theorem zcJ {lo : Int} {n : Nat} {g : TG} {tb : TS} {D : zfn} {σ : St} {H : Hp} (Pv : Nat -> St -> Hp -> Prop) (h0 : Pv 0 σ H)
    (hs : ∀ i σ H,i < n -> Pv i σ H -> g (.int (lo + i)) σ H fun σ2 H2 => tb { D with nx := Pv (i + 1),ct := Pv (i + 1),bk := D.nx } σ2 H2) (hd : ∀ σ H,Pv n σ H -> D.nx σ H) :
    ∃ W : Nat -> Nat -> St -> Hp -> Prop,(∃ m,W 0 m σ H) /\ ∀ i m σ H,W i m σ H →
      ((Itr lo n).stop i H /\ D.nx σ H) \/ ((Itr lo n).go i H /\ ∃ N : St -> Hp -> Prop,(∀ σ' H',N σ' H' -> ∃ m',m' < m /\ W (i + 1) m' σ' H') /\ ∀ x H',(Itr lo n).yld i H x H' -> g x σ H' fun σ2 H2 => tb { D with nx := N,ct := N,bk := D.nx } σ2 H2) := by
  refine ⟨fun i m σ H => m = n - i /\ i <= n /\ Pv i σ H,⟨n,by simp,Nat.zero_le _,h0⟩,?_⟩
  rintro i m σ H ⟨rfl,hi,p⟩
  by_cases hlt : i < n
  . refine .inr ⟨hlt,Pv (i + 1),fun σ' H' p' => ⟨n - (i + 1),by omega,rfl,hlt,p'⟩,fun x H' y => ?_⟩
    obtain ⟨e,y⟩ := y; subst e y; exact hs i σ _ hlt p
  . have e : i = n := by omega
    subst e; exact .inl ⟨Nat.le_refl _,hd σ H p⟩
abbrev R2 := V -> V -> Hp -> VK -> Prop
def OpR (X : Cx) (f : Value -> Value -> Sem Value) (r : R2) : Prop :=
  ∀ (pins : List (Addr × Obj)) (s : Shared) (σ : St) (H : Hp) (x y : V) (v u : Value) (Q : VK),Inv X pins σ H s -> RelV x v -> RelV y u -> r x y H Q →
    wpAny (model X.prog X.w) X.A (f v u) (EP X pins σ Q) X.xe s
def UnR (X : Cx) (f : Value -> Sem Value) (r : V -> Hp -> VK -> Prop) : Prop :=
  ∀ (pins : List (Addr × Obj)) (s : Shared) (σ : St) (H : Hp) (x : V) (v : Value) (Q : VK),Inv X pins σ H s -> RelV x v -> r x H Q →
    wpAny (model X.prog X.w) X.A (f v) (EP X pins σ Q) X.xe s
def zbH (X : Cx) (f : Value) (r : List V -> Hp -> VK -> Prop) : Prop :=
  ∀ (pins : List (Addr × Obj)) (s : Shared) (σ : St) (H : Hp) (xs : List V) (us : List Value) (Q : VK),Inv X pins σ H s -> Vals xs us -> r xs H Q →
    wpAny (model X.prog X.w) X.A (call f us) (EP X pins σ Q) X.xe s
def zqi (X : Cx) (r : V -> Hp -> (Bool -> Hp -> Prop) -> Prop) : Prop :=
  ∀ (pins : List (Addr × Obj)) (s : Shared) (σ : St) (H : Hp) (x : V) (v : Value) (Q : Bool -> Hp -> Prop),Inv X pins σ H s -> RelV x v -> r x H Q →
    wpAny (model X.prog X.w) X.A (truthy v) (TP X pins σ Q) X.xe s
def tOp (r : R2) (ta tb : TE) : TE := fun σ H Q => ta σ H fun x H1 => tb σ H1 fun y H2 => r x y H2 Q
def tUn (r : V -> Hp -> VK -> Prop) (ta : TE) : TE := fun σ H Q => ta σ H fun x H1 => r x H1 Q
inductive zoP (x y : V) (Q : Int -> Int -> Prop) : Prop
  | mk (i j : Int) (h1 : x = .int i) (h2 : y = .int j) (k : Q i j) : zoP x y Q
def rI (C : Int -> Int -> Prop) (g : Int -> Int -> V) : R2 := fun x y H Q => zoP x y (fun i j => C i j /\ Q (g i j) H)
def rI0 (g : Int -> Int -> V) : R2 := fun x y H Q => zoP x y (fun i j => Q (g i j) H)
def rU (g : Int -> V) : V -> Hp -> VK -> Prop := fun x H Q => ∃ i,x = .int i /\ Q (g i) H
section
variable {X : Cx} {a b c : Expr} {ta tb tc : TE} {pos : Pos}
theorem zoE (ha : PE X a ta) (hb : PE X b tb) {pins : List (Addr × Obj)} {s : Shared} {σ : St} {H : Hp} {R : V -> V -> Hp -> Prop} (I : Inv X pins σ H s)
    (h : ta σ H fun x H1 => tb σ H1 fun y H2 => R x y H2) {Q : Value -> Shared -> Prop} {f : Value -> Value -> Sem Value}
    (hf : ∀ v u s2 x y H2,Inv X pins σ H2 s2 -> RelV x v -> RelV y u -> R x y H2 -> wpAny (model X.prog X.w) X.A (f v u) Q X.xe s2) :
    wpAny (model X.prog X.w) X.A (eval a X.env) (fun v s₁ => wpAny (model X.prog X.w) X.A (eval b X.env) (fun u s₂ => wpAny (model X.prog X.w) X.A (f v u) Q X.xe s₂) X.xe s₁) X.xe s := by
  refine thn (ha pins s σ H _ I h) fun v s1 ⟨x,H1,I1,r1,q1⟩ => ?_; refine thn (hb pins s1 σ H1 _ I1 q1) fun u s2 ⟨y,H2,I2,r2,q2⟩ => ?_; exact hf v u s2 x y H2 I2 r1 r2 q2
theorem zav {op : Operator} {r : R2} (ho : OpR X (binaryOp op) r) (ha : PE X a ta) (hb : PE X b tb) : PE X (.BinOp a op b pos) (tOp r ta tb) := by
  intro pins s σ H Q I h; exact wpAny_BinOp (zoE ha hb I h fun v u s2 x y H2 I2 rx ry q => ho pins s2 σ H2 x y v u Q I2 rx ry q)
theorem zlA {op : UnaryOp} {r : V -> Hp -> VK -> Prop} (ho : UnR X (unaryOp op) r) (ha : PE X a ta) : PE X (.UnaryOp op a pos) (tUn r ta) := by
  intro pins s σ H Q I h; exact UnaryOp_ (thn (ha pins s σ H _ I h) fun v s1 ⟨x,H1,I1,r1,q1⟩ => ho pins s1 σ H1 x v Q I1 r1 q1)
theorem opI {f : Value -> Value -> Sem Value} {C : Int -> Int -> Prop} {g : Int -> Int -> Int}
    (rule : ∀ (i j : Int) (t u : Tok) (s : Shared) (Q : Value -> Shared -> Prop) (E : Value -> Shared -> Prop),C i j -> Q (.int (g i j) s.toks) { s with toks := s.toks + 1 } -> wpAny (model X.prog X.w) X.A (f (.int i t) (.int j u)) Q E s) :
    OpR X f (rI C fun i j => .int (g i j)) := by
  intro pins s σ H x y v u Q I rx ry h; obtain ⟨i,j,rfl,rfl,hc,q⟩ := h; obtain ⟨t,rfl⟩ := rx; obtain ⟨t',rfl⟩ := ry; exact rule i j t t' s _ _ hc ⟨.int (g i j),H,I.tok _,⟨_,rfl⟩,q⟩
theorem zpw {f : Value -> Value -> Sem Value} {g : Int -> Int -> Int}
    (rule : ∀ (i j : Int) (t u : Tok) (s : Shared) (Q : Value -> Shared -> Prop) (E : Value -> Shared -> Prop),Q (.int (g i j) s.toks) { s with toks := s.toks + 1 } -> wpAny (model X.prog X.w) X.A (f (.int i t) (.int j u)) Q E s) :
    OpR X f (rI0 fun i j => .int (g i j)) := by
  intro pins s σ H x y v u Q I rx ry h; obtain ⟨i,j,rfl,rfl,q⟩ := h; obtain ⟨t,rfl⟩ := rx; obtain ⟨t',rfl⟩ := ry; exact rule i j t t' s _ _ ⟨.int (g i j),H,I.tok _,⟨_,rfl⟩,q⟩
theorem zmX {f : Value -> Value -> Sem Value} {g : Int -> Int -> Bool}
    (rule : ∀ (i j : Int) (t u : Tok) (s : Shared) (Q : Value -> Shared -> Prop) (E : Value -> Shared -> Prop),Q (.bool (g i j)) s -> wpAny (model X.prog X.w) X.A (f (.int i t) (.int j u)) Q E s) :
    OpR X f (rI0 fun i j => .bl (g i j)) := by
  intro pins s σ H x y v u Q I rx ry h; obtain ⟨i,j,rfl,rfl,q⟩ := h; obtain ⟨t,rfl⟩ := rx; obtain ⟨t',rfl⟩ := ry; exact rule i j t t' s _ _ ⟨.bl (g i j),H,I,rfl,q⟩
def CMul (i j : Int) : Prop := (-(2 ^ 64) < i /\ i < 2 ^ 64) \/ (-(2 ^ 64) < j /\ j < 2 ^ 64)
theorem CMul.ok {i j : Int} (h : CMul i j) : IntMulOk i j := by
  rcases h with ⟨h1,h2⟩ | ⟨h1,h2⟩
  . exact .of_left (intBits_le_64 h1 h2)
  . exact .of_right (intBits_le_64 h1 h2)
theorem zbD : OpR X (binaryOp .Add) (rI0 fun i j => .int (i + j)) := zpw fun _ _ _ _ _ _ _ q => add_int q
theorem zdt : OpR X (binaryOp .Sub) (rI0 fun i j => .int (i - j)) := zpw fun _ _ _ _ _ _ _ q => sub_int q
theorem za4 : OpR X (binaryOp .Mult) (rI CMul fun i j => .int (i * j)) := opI fun _ _ _ _ _ _ _ hc q => mul_int q hc.ok
theorem zaO : OpR X (binaryOp .Mod) (rI (fun _ j => 0 < j) fun i j => .int (i % j)) := opI fun i j _ _ _ _ _ hc q => by
  have h1 : (0 : Int) < j := hc; exact mod_int' (by omega) (by rw [Int.fmod_eq_emod_of_nonneg i (by omega)]; exact q)
theorem unI {f : Value -> Sem Value} {g : Int -> Int}
    (rule : ∀ (i : Int) (t : Tok) (s : Shared) (Q : Value -> Shared -> Prop) (E : Value -> Shared -> Prop),Q (.int (g i) s.toks) { s with toks := s.toks + 1 } -> wpAny (model X.prog X.w) X.A (f (.int i t)) Q E s) :
    UnR X f (rU fun i => .int (g i)) := by
  intro pins s σ H x v Q I rx h; obtain ⟨i,rfl,q⟩ := h; obtain ⟨t,rfl⟩ := rx; exact rule i t s _ _ ⟨.int (g i),H,I.tok _,⟨_,rfl⟩,q⟩
theorem zi7 : UnR X (unaryOp .USub) (rU fun i => .int (-i)) := unI fun _ _ _ _ _ q => neg_int q
end
def zp0 : V -> V -> Bool
  | .non,.non => true | .non,.int _ => true | .int _,.non => true | .non,.bl _ => true | .bl _,.non => true | .non,.str _ => true | .str _,.non => true
  | .int _,.int _ => true | .bl _,.bl _ => true | .str _,.str _ => true | .byt _,.byt _ => true
  | .int _,.str _ => true | .str _,.int _ => true | .bl _,.str _ => true | .str _,.bl _ => true
  | _,_ => false
def rEq : R2 := fun x y H Q => zp0 x y = true /\ Q (.bl (decide (x = y))) H
def rNe : R2 := fun x y H Q => zp0 x y = true /\ Q (.bl (!decide (x = y))) H
theorem zey {i j : Int} : decide (V.int i = V.int j) = (i == j) := by
  rw [Bool.eq_iff_iff]; simp
theorem zmn {i j : Bool} : decide (V.bl i = V.bl j) = (i == j) := by
  rw [Bool.eq_iff_iff]; simp
theorem zjW {i j : Str} : decide (V.str i = V.str j) = (i == j) := by
  rw [Bool.eq_iff_iff]; simp
theorem zjO {i j : Array UInt8} : decide (V.byt i = V.byt j) = (i.toList == j.toList) := by
  rw [Bool.eq_iff_iff]; cases i; cases j; simp
section
variable {X : Cx} {a b c : Expr} {ta tb tc : TE} {pos : Pos}
theorem zaN {pins : List (Addr × Obj)} {σ : St} {H : Hp} {s : Shared} {Q : VK} {k k' : Bool} (I : Inv X pins σ H s) (q : Q (.bl k) H) (e : k = k') : EP X pins σ Q (.bool k') s := by
  subst e; exact ⟨.bl k,H,I,rfl,q⟩
theorem zaV : OpR X (compareOp .Eq) rEq := by
  intro pins s σ H x y v u Q I rx ry h; obtain ⟨hs,q⟩ := h
  cases x with
  | non =>
    cases rx
    cases y with
    | non => cases ry; exact PySem.EqNone.eq_none_none (zaN I q (by simp))
    | bl j => cases ry; exact PySem.EqNone.eq_none_bool (zaN I q (by simp))
    | int j => obtain ⟨t',rfl⟩ := ry; exact PySem.EqNone.eq_none_int (zaN I q (by simp))
    | str j => obtain ⟨t',rfl⟩ := ry; exact PySem.EqNone.eq_none_str (zaN I q (by simp))
    | _ => exact absurd (show false = true from hs) fnt
  | bl i =>
    cases rx
    cases y with
    | non => cases ry; exact PySem.EqNone.eq_bool_none (zaN I q (by simp))
    | bl j => cases ry; exact eq_bool (zaN I q zmn)
    | str j => obtain ⟨t',rfl⟩ := ry; exact PySem.EqMixed.eq_bool_str (zaN I q (by simp))
    | _ => exact absurd (show false = true from hs) fnt
  | int i =>
    obtain ⟨t,rfl⟩ := rx
    cases y with
    | non => cases ry; exact PySem.EqNone.eq_int_none (zaN I q (by simp))
    | int j => obtain ⟨t',rfl⟩ := ry; exact eq_int (zaN I q zey)
    | str j => obtain ⟨t',rfl⟩ := ry; exact PySem.EqMixed.eq_int_str (zaN I q (by simp))
    | _ => exact absurd (show false = true from hs) fnt
  | str i =>
    obtain ⟨t,rfl⟩ := rx
    cases y with
    | non => cases ry; exact PySem.EqNone.eq_str_none (zaN I q (by simp))
    | bl j => cases ry; exact PySem.EqMixed.eq_str_bool (zaN I q (by simp))
    | int j => obtain ⟨t',rfl⟩ := ry; exact PySem.EqMixed.eq_str_int (zaN I q (by simp))
    | str j => obtain ⟨t',rfl⟩ := ry; exact eq_str (zaN I q zjW)
    | _ => exact absurd (show false = true from hs) fnt
  | byt i =>
    obtain ⟨t,rfl⟩ := rx
    cases y with
    | byt j => obtain ⟨t',rfl⟩ := ry; exact PySem.W.eq_bytes (zaN I q zjO)
    | _ => exact absurd (show false = true from hs) fnt
  | _ => cases y <;> exact absurd (show false = true from hs) fnt
theorem zdx : OpR X (compareOp .NotEq) rNe := by
  intro pins s σ H x y v u Q I rx ry h; obtain ⟨hs,q⟩ := h
  cases x with
  | non =>
    cases rx
    cases y with
    | non => cases ry; exact PySem.EqNone.ne_none_none (zaN I q (by simp))
    | bl j => cases ry; exact PySem.EqNone.ne_none_bool (zaN I q (by simp))
    | int j => obtain ⟨t',rfl⟩ := ry; exact PySem.EqNone.ne_none_int (zaN I q (by simp))
    | str j => obtain ⟨t',rfl⟩ := ry; exact PySem.EqNone.ne_none_str (zaN I q (by simp))
    | _ => exact absurd (show false = true from hs) fnt
  | bl i =>
    cases rx
    cases y with
    | non => cases ry; exact PySem.EqNone.ne_bool_none (zaN I q (by simp))
    | bl j => cases ry; exact ne_bool (zaN I q (congrArg not zmn))
    | str j => obtain ⟨t',rfl⟩ := ry; exact PySem.EqMixed.ne_bool_str (zaN I q (by simp))
    | _ => exact absurd (show false = true from hs) fnt
  | int i =>
    obtain ⟨t,rfl⟩ := rx
    cases y with
    | non => cases ry; exact PySem.EqNone.ne_int_none (zaN I q (by simp))
    | int j => obtain ⟨t',rfl⟩ := ry; exact ne_int (zaN I q (congrArg not zey))
    | str j => obtain ⟨t',rfl⟩ := ry; exact PySem.EqMixed.ne_int_str (zaN I q (by simp))
    | _ => exact absurd (show false = true from hs) fnt
  | str i =>
    obtain ⟨t,rfl⟩ := rx
    cases y with
    | non => cases ry; exact PySem.EqNone.ne_str_none (zaN I q (by simp))
    | bl j => cases ry; exact PySem.EqMixed.ne_str_bool (zaN I q (by simp))
    | int j => obtain ⟨t',rfl⟩ := ry; exact PySem.EqMixed.ne_str_int (zaN I q (by simp))
    | str j => obtain ⟨t',rfl⟩ := ry; exact ne_str (zaN I q (congrArg not zjW))
    | _ => exact absurd (show false = true from hs) fnt
  | byt i =>
    obtain ⟨t,rfl⟩ := rx
    cases y with
    | byt j => obtain ⟨t',rfl⟩ := ry; exact PySem.W.ne_bytes (zaN I q (congrArg not zjO))
    | _ => exact absurd (show false = true from hs) fnt
  | _ => cases y <;> exact absurd (show false = true from hs) fnt
theorem zj7 : OpR X (compareOp .Lt) (rI0 fun i j => .bl (decide (i < j))) := zmX fun _ _ _ _ _ _ _ q => lt_int q
theorem znR : OpR X (compareOp .LtE) (rI0 fun i j => .bl (decide (i <= j))) := zmX fun _ _ _ _ _ _ _ q => le_int q
theorem znT : OpR X (compareOp .Gt) (rI0 fun i j => .bl (decide (j < i))) := zmX fun _ _ _ _ _ _ _ q => gt_int q
theorem zn0 : OpR X (compareOp .GtE) (rI0 fun i j => .bl (decide (j <= i))) := zmX fun _ _ _ _ _ _ _ q => ge_int q
theorem zhP : OpR X (compareOp .Is) (fun x y H Q => y = .non /\ Q (.bl (decide (x = .non))) H) := by
  intro pins s σ H x y v u Q I rx ry h; obtain ⟨rfl,q⟩ := h; cases ry; refine is_none_gen (zaN I q ?_)
  cases x <;> first
    | (cases rx; rfl)
    | (obtain ⟨t,rfl⟩ := rx; rfl)
theorem zat (b : Expr) {op : CmpOp} (h : op ≠ .In := by decide) (h2 : op ≠ .NotIn := by decide) : behindInMarks op b = false := by
  have e1 : (op == CmpOp.In) = false := by cases op <;> first | rfl | exact absurd rfl h
  have e2 : (op == CmpOp.NotIn) = false := by cases op <;> first | rfl | exact absurd rfl h2
  cases b <;> simp [behindInMarks,e1,e2]
theorem zbg {op : CmpOp} {r : R2} (ho : OpR X (compareOp op) r) (ha : PE X a ta) (hb : PE X b tb) (hm : behindInMarks op b = false) : PE X (.Compare a [op] [b] pos) (tOp r ta tb) := by
  intro pins s σ H Q I h; exact wpAny_Compare1 (zoE ha hb I h fun v u s2 x y H2 I2 rx ry q => ho pins s2 σ H2 x y v u Q I2 rx ry q) hm
def zpz (t : TE) : TT := fun σ H Q => t σ H fun x H' => QBl x (fun k => Q k H')
theorem zan {op : CmpOp} {r : R2} (ho : OpR X (compareOp op) r) (ha : PE X a ta) (hb : PE X b tb) (hm : behindInMarks op b = false) : PT X (.Compare a [op] [b] pos) (zpz (tOp r ta tb)) := by
  intro pins s σ H Q I h
  refine wpAny_isTrue_Compare1 (thn (ha pins s σ H _ I h) fun v s1 ⟨x,H1,I1,r1,q1⟩ => thn (hb pins s1 σ H1 _ I1 q1) fun u s2 ⟨y,H2,I2,r2,q2⟩ =>
    thn (ho pins s2 σ H2 x y v u _ I2 r1 r2 q2) fun c s3 ⟨z,H3,I3,r3,k,e,q3⟩ => ?_) hm
  subst e; cases r3; exact wpAny_truthy_bool ⟨H3,I3,q3⟩
def zoT (K : Fg) (x : V) (H : Hp) (k : Bool) : Prop :=
  match x with
  | .non => k = false
  | .bl b => k = b
  | .int i => k = (i != 0)
  | .str y => y.length <= sizeLine /\ k = ((y.length : Int) != 0)
  | .byt y => y.size <= sizeLine /\ k = ((y.size : Int) != 0)
  | .ref p => (∃ xs,SqL K H p xs /\ k = !xs.isEmpty) \/ (∃ xs,SqT K H p xs /\ k = !xs.isEmpty) \/ ∃ kvs,H p = some (.dK kvs) /\ k = !kvs.isEmpty
  | _ => False
theorem zjH {κ : Type} {kvs : List (κ × V)} {vs : List (κ × Value)} (r : KV kvs vs) : (!vs.isEmpty) = !kvs.isEmpty := by
  cases r <;> rfl
theorem zfG {xs : List V} {its : List Value} (r : Vals xs its) : (!its.toArray.isEmpty) = !xs.isEmpty := by
  cases r <;> simp
theorem zfR : (sizeLine : Nat) < 2 ^ 63 := by rw [sizeLine_eq]; decide
theorem zoC : zqi X (fun x H Q => ∃ k,zoT X.K x H k /\ Q k H) := by
  intro pins s σ H x v Q I rx h; obtain ⟨k,e,q⟩ := h; have hl := zfR; have hs : sizeLine = 16777216 := sizeLine_eq
  cases x with
  | non =>
    cases rx; have e' : k = false := e; subst e'; exact truthy_none ⟨H,I,q⟩
  | bl b =>
    cases rx; have e' : k = b := e; subst e'; exact wpAny_truthy_bool ⟨H,I,q⟩
  | int i =>
    obtain ⟨t,rfl⟩ := rx; have e' : k = (i != 0) := e; subst e'; exact PySem.P.truthy_int ⟨H,I,q⟩
  | str y =>
    obtain ⟨t,rfl⟩ := rx; obtain ⟨hy,e'⟩ : y.length <= sizeLine /\ k = ((y.length : Int) != 0) := e; subst e'; exact PySem.P.truthy_str (by omega) ⟨H,I.tok _,q⟩
  | byt y =>
    obtain ⟨t,rfl⟩ := rx; obtain ⟨hy,e'⟩ : y.size <= sizeLine /\ k = ((y.size : Int) != 0) := e; subst e'; exact PySem.W.truthy_bytes (by omega) ⟨H,I.tok _,q⟩
  | ref p =>
    cases rx; have e' : (∃ xs,SqL X.K H p xs /\ k = !xs.isEmpty) \/ (∃ xs,SqT X.K H p xs /\ k = !xs.isEmpty) \/ ∃ kvs,H p = some (.dK kvs) /\ k = !kvs.isEmpty := e
    rcases e' with ⟨xs,hx,e'⟩ | ⟨xs,hx,e'⟩ | ⟨kvs,hx,e'⟩
    . subst e'; obtain ⟨its,r,pl,hz⟩ := I.list hx; have hlen := r.length; exact wpAny_truthy_list pl.isList (by simp only [List.size_toArray]; omega) ⟨H,I.tok _,by rw [zfG r]; exact q⟩
    . subst e'; obtain ⟨its,r,pl,hz⟩ := I.tuple hx; have hlen := r.length; exact truthy_tuple pl (by simp only [List.size_toArray]; omega) ⟨H,I.tok _,by rw [zfG r]; exact q⟩
    . subst e'; obtain ⟨hz,hS,vs,r,m⟩ : kvs.length <= sizeLine /\ (p == sysModules) = false /\ ∃ vs,KV kvs vs /\ s.heap.DictOf (zbN X.prog X.w) p vs := I.hok p _ hx; have hlen : kvs.length = vs.length := Paired.length r; exact wpAny_truthy_dict hS m (by omega) ⟨H,I.tok _,by rw [zjH r]; exact q⟩
  | _ => exact (show False from e).elim
theorem zlH (ha : PE X a ta) (he : ∀ whole,isTrue a X.env whole = (do let v <- whole; standAt a.pos; holding [v] (truthy v))) :
    PT X a (fun σ H Q => ta σ H fun x H' => ∃ k,zoT X.K x H' k /\ Q k H') := by
  intro pins s σ H Q I h; exact isTrue_plain (thn (ha pins s σ H _ I h) fun v s1 ⟨x,H1,I1,r1,q1⟩ => zoC pins s1 σ H1 x v Q I1 r1 q1) (he _)
theorem zje : OpR X (binaryOp .Add) (fun x y H Q => ∃ i j,x = .str i /\ y = .str j /\ i.length + j.length <= sizeLine /\ Q (.str (i ++ j)) H) := by
  intro pins s σ H x y v u Q I rx ry h; obtain ⟨i,j,rfl,rfl,hz,q⟩ := h; obtain ⟨t,rfl⟩ := rx; obtain ⟨t',rfl⟩ := ry; exact add_str (fun t' tk => ⟨.str (i ++ j),H,I.tok _,⟨_,rfl⟩,q⟩) hz
theorem zc4 {x : V} {us : List Value} (r : Vals [x] us) : ∃ u,us = [u] /\ RelV x u := by
  cases r with
  | cons r1 r2 => cases r2; exact ⟨_,rfl,r1⟩
theorem zim {x y : V} {us : List Value} (r : Vals [x,y] us) : ∃ u w',us = [u,w'] /\ RelV x u /\ RelV y w' := by
  cases r with
  | cons r1 r2 =>
    cases r2 with
    | cons r3 r4 => cases r4; exact ⟨_,_,rfl,r1,r3⟩
def rq4 (xs : List V) (H : Hp) (Q : VK) : Prop := (∃ i,xs = [.int i] /\ Q (.int i) H) \/ ∃ k,xs = [.bl k] /\ Q (.int (if k then 1 else 0)) H
theorem zdB : zbH X (.type "int") rq4 := by
  intro pins s σ H xs us Q I r h
  rcases h with ⟨i,rfl,q⟩ | ⟨k,rfl,q⟩
  . obtain ⟨u,rfl,t,rfl⟩ := zc4 r; exact call_int_int ⟨.int i,H,I,⟨_,rfl⟩,q⟩
  . obtain ⟨u,rfl,r1⟩ := zc4 r; cases r1; exact call_int_bool ⟨.int (if k then 1 else 0),H,I.tok _,⟨_,rfl⟩,q⟩
end
structure ObjM (h : Heap) (x dx C : Addr) (mA : Str -> Option Value) : Prop where
  obj : h.get? x = some (PySem.W.instObj C dx)
  ns : h.Ns1 dx mA
  ne : dx ≠ x
theorem zkD {h : Heap} {dx : Addr} {mA : Str -> Option Value} (n : h.Ns1 dx mA) : ∃ od,h.get? dx = some od /\ ∀ name,PySem.W.lookIn name od = some (mA name) := by
  obtain ⟨o,es,ep,ho,hd,hk,_,hm⟩ := n; refine ⟨o,ho,fun name => ?_⟩; have e := hm name; unfold nsFind findBy at e; rw [<- Array.find?_toList] at e; unfold PySem.W.lookIn; rw [hd]; dsimp only
  split
  . rename_i y q
    rw [q] at e; exact congrArg some e
  . rename_i q
    rw [q] at e
    have a : es.toList.any (·.refKey) = false := by
      rw [List.any_eq_false]; intro y hy; obtain ⟨z,t,hkey⟩ := hk y (Array.mem_toList_iff.mp hy); simp [DictEntry.refKey,hkey]
    have a' : ¬ es.toList.any (·.refKey) = true := by rw [a]; exact fnt
    rw [if_neg a']; exact congrArg some e
theorem ObjM.look {h : Heap} {x dx C : Addr} {mA : Str -> Option Value} (I : ObjM h x dx C mA) : ∃ od,PySem.W.InstAt h x (PySem.W.instObj C dx) C (some od) /\ ∀ name,PySem.W.lookIn name od = some (mA name) :=
  let ⟨od,ho,hl⟩ := zkD I.ns
  ⟨od,⟨I.obj,rfl,rfl,ho⟩,hl⟩
section
variable {prog : Program} {w : World} {A : Around} {E : Value -> Shared -> Prop} {s : Shared} {K : Fg} {x dx C f : Addr} {mA : Str -> Option Value} {name : Str} {v : Value}
end
theorem RelO.some_of {v : V} {o : Option Value} (r : RelO (some v) o) : ∃ u,o = some u /\ RelV v u := by
  cases o with
  | none => exact (show False from r).elim
  | some u => exact ⟨u,rfl,r⟩
section
variable {P : Program} {w : World} {H H' : Hp} {h h' : Heap} {a C dx : Addr} {fs fs' : List (Str × V)}
theorem zkf (hok : HOk P w H h) (e : H a = some (.ins C dx fs)) : ∃ mA,ObjM h a dx C mA /\ (∀ f,RelO (fs.lookup f) (mA f)) /\ PySem.Within mA (fs.map (·.1)) /\ fs.length <= 1000 /\ H dx = some (.own a) := by
  obtain ⟨d,z,ne,ob,mA,n,r,q⟩ := (show ObjOk P w H h a (.ins C dx fs) from hok a _ e); exact ⟨mA,⟨ob,n,ne⟩,r,q,z,d⟩
end
structure Cls (K : Fg) (C : Addr) : Prop where
  pg : PySem.W.plainGet K C Str.empty = true
  hd : PySem.W.hasDictIn K C = true
  po : PySem.W.plainOver K C = true
  sa : PySem.W.findIn K (.ref C) "__setattr__" = some (some (.builtin "object.__setattr__"))
theorem Cls.get {K : Fg} {C : Addr} (c : Cls K C) (f : Str) : PySem.W.plainGet K C f = true := c.pg
section
variable {X : Cx} {pins : List (Addr × Obj)} {σ : St} {H : Hp} {s : Shared} {a C dx : Addr} {fs : List (Str × V)} {f : Str} {v : V} {A : Around} {E : Value -> Shared -> Prop}
end
section
variable {X : Cx} {o e value : Expr} {f : Str} {pos pos' tpos : Pos} {ta tv : TE}
end
section
variable {X : Cx} {pins : List (Addr × Obj)} {σ : St} {H : Hp} {s : Shared} {A : Around} {E : Value -> Shared -> Prop} {Q : Value -> Shared -> Prop} {c : Value} {b : Bool}
inductive TyOf (K : Fg) (H : Hp) : V -> Value -> Prop where
  | non : TyOf K H .non (.type "NoneType")
  | bl (x : Bool) : TyOf K H (.bl x) (.type "bool")
  | int (i : Int) : TyOf K H (.int i) (.type "int")
  | str (x : Str) : TyOf K H (.str x) (.type "str")
  | flt (x : UInt64) : TyOf K H (.flt x) (.type "float")
  | lst {a : Addr} {xs : List V} (e : H a = some (.lst xs)) : TyOf K H (.ref a) (.type "list")
  | frz {a : Addr} {o : Obj} {xs : List V} (e : H a = some (.frz o (.lst xs))) : TyOf K H (.ref a) (.type "list")
  | tup {a : Addr} {xs : List V} (e : H a = some (.tup xs)) : TyOf K H (.ref a) (.type "tuple")
  | dK {a : Addr} {kvs : List (Key × V)} (e : H a = some (.dK kvs)) : TyOf K H (.ref a) (.type "dict")
  | dT {a : Addr} {kvs : List (List Key × V)} (e : H a = some (.dT kvs)) : TyOf K H (.ref a) (.type "dict")
  | ins {a C dx : Addr} {fs : List (Str × V)} (e : H a = some (.ins C dx fs)) (cl : Cls K C) (ha : PySem.W.findIn K (.ref C) "__class__" = some (some (.builtin "object.__class__")))
      (hn : PySem.W.specialIn K (.builtin "object.__class__") "__get__" = some (some (.builtin "getset_descriptor.__get__"))) (htk : PySem.W.takesIn K (.builtin "object.__class__") = some true)
      (hm : PySem.W.mroIn K C (.type "object") = some true) : TyOf K H (.ref a) (.ref C)
theorem zkv {x : V} {u t : Value} (I : Inv X pins σ H s) (rx : RelV x u) (ty : TyOf X.K H x t) (e : PySem.W.kitOne X.K t c = some b) (h : ∀ tk,Q (.bool b) { s with toks := tk }) :
    wpAny (model X.prog X.w) A (call (.builtin "isinstance") [u,c]) Q E s := by
  cases ty with
  | non => cases (show u = Value.none from rx); exact PySem.W.kia_one PySem.W.kitx_none I.kIn True.intro e (fun z => nomatch z) h
  | bl y => cases (show u = Value.bool y from rx); exact PySem.W.kia_one PySem.W.kitx_bool I.kIn True.intro e (fun z => nomatch z) h
  | int i => obtain ⟨t,q⟩ := (show ∃ t,u = Value.int i t from rx); cases q; exact PySem.W.kia_one PySem.W.kitx_int I.kIn True.intro e (fun z => nomatch z) h
  | str y => obtain ⟨t,q⟩ := (show ∃ t,u = Value.str y t from rx); cases q; exact PySem.W.kia_one PySem.W.kitx_str I.kIn True.intro e (fun z => nomatch z) h
  | flt y => obtain ⟨t,q⟩ := (show ∃ t,u = Value.float y t from rx); cases q; exact PySem.W.kia_one PySem.W.kitx_float I.kIn True.intro e (fun z => nomatch z) h
  | @lst a xs ea =>
    cases (show u = Value.ref a from rx)
    obtain ⟨_,_,n,_,h1⟩ := (show ObjOk X.prog X.w H s.heap a (.lst xs) from I.hok a _ ea); exact PySem.W.kia_one PySem.W.kitx_list I.kIn ⟨_,h1,rfl⟩ e (fun z => nomatch z) h
  | @frz a ob xs ea =>
    cases (show u = Value.ref a from rx)
    obtain ⟨_,_,_,n,_,h1⟩ := (show ObjOk X.prog X.w H s.heap a (.frz ob (.lst xs)) from I.hok a _ ea); exact PySem.W.kia_one PySem.W.kitx_list I.kIn ⟨_,h1,rfl⟩ e (fun z => nomatch z) h
  | @tup a xs ea =>
    cases (show u = Value.ref a from rx)
    obtain ⟨_,_,_,p⟩ := (show ObjOk X.prog X.w H s.heap a (.tup xs) from I.hok a _ ea); obtain ⟨o,h1,h2,_⟩ := p; exact PySem.W.kia_one PySem.W.kitx_tuple I.kIn ⟨o,h1,h2⟩ e (fun z => nomatch z) h
  | @dK a kvs ea =>
    cases (show u = Value.ref a from rx)
    obtain ⟨_,_,vs,_,p⟩ := (show ObjOk X.prog X.w H s.heap a (.dK kvs) from I.hok a _ ea); obtain ⟨o,es,ep,h1,h2,_⟩ := p; exact PySem.W.kia_one PySem.W.kitx_dict I.kIn ⟨o,h1,h2.1⟩ e (fun z => nomatch z) h
  | @dT a kvs ea =>
    cases (show u = Value.ref a from rx)
    obtain ⟨_,_,xs,_,o,es,ep,h1,h2,_⟩ := (show ObjOk X.prog X.w H s.heap a (.dT kvs) from I.hok a _ ea); exact PySem.W.kia_one PySem.W.kitx_dict I.kIn ⟨o,h1,h2.1⟩ e (fun z => nomatch z) h
  | @ins a C dx fs ea cl ha hn htk hm =>
    cases (show u = Value.ref a from rx)
    obtain ⟨mA,O,_⟩ := zkf I.hok ea; obtain ⟨od,J,_⟩ := O.look; exact PySem.W.kia_one (PySem.W.kitx_own (cl.get _) cl.hd ha hn htk hm) I.kIn J e (fun z => nomatch z) h
end
structure Room (k : Nat) (A : Around) : Prop where
  hd : A.handled = none
  dp : A.depth + 3 * k + 5 < recursionLimit
  un : A.units + 16 * k + 200 < cLine
theorem Room.mono {j k : Nat} {A : Around} (r : Room k A) (h : j <= k) : Room j A := ⟨r.hd,by have := r.dp; omega,by have := r.un; omega⟩
theorem Room.deeper {k : Nat} {A : Around} (r : Room (k + 1) A) (env : Env) : Room k (A.deeper env) :=
  ⟨r.hd,by have := r.dp; show A.depth + 1 + 3 * k + 5 < _; omega,by have := r.un; show A.units + 3 + 16 * k + 200 < _; omega⟩
theorem Room.in1 {k : Nat} {A : Around} (r : Room (k + 1) A) : Room k A.in1 :=
  ⟨r.hd,by have := r.dp; show A.depth + 3 * k + 5 < _; omega,by have := r.un; show A.units + 1 + 16 * k + 200 < _; omega⟩
theorem Room.depth {k : Nat} {A : Around} (r : Room k A) : A.depth < recursionLimit := by have := r.dp; omega
theorem Room.units {k : Nat} {A : Around} (r : Room k A) : A.units + 64 < cLine := by have := r.un; omega
def zla : TA := fun _ H Q => Q [] H
def zlQ (ta : TE) (tr : TA) : TA := fun σ H Q => ta σ H fun x H1 => tr σ H1 fun xs H2 => Q (x :: xs) H2
section
variable {X : Cx} {e : Expr} {es : List Expr} {te : TE} {t : TA} {pos : Pos}
theorem zad : PA X [] zla := fun _ _ _ _ H Q I h => Calls.spliced_nil ⟨[],H,I,.nil,h⟩
theorem zaa (ha : PE X e te) (hr : PA X es t) (hs : starEach (e :: es) X.env = (false,eval e X.env) :: starEach es X.env := by rfl) : PA X (e :: es) (zlQ te t) := by
  intro pos pins s σ H Q I h; rw [hs]; show wpAny _ _ (spliced ((false,eval e X.env) :: backTo pos (starEach es X.env))) _ _ s; refine Calls.spliced_cons (thn (ha pins s σ H _ I h) fun u s1 ⟨x,H1,I1,r1,q1⟩ => ?_); exact thn (hr pos pins s1 σ H1 _ I1 q1) fun us s2 ⟨xs,H2,I2,r2,q2⟩ => ⟨x :: xs,H2,I2,.cons r1 r2,q2⟩
def zqc (t : TA) : TE := fun σ H Q => t σ H fun xs H1 => xs.length <= sizeLine /\ ∀ p,H1 p = none -> Q (.ref p) (upd H1 p (.tup xs))
def zpI (t : TA) : TE := fun σ H Q => t σ H fun xs H1 => xs.length <= sizeLine /\ ∀ p,H1 p = none -> Q (.ref p) (upd H1 p (.lst xs))
theorem zaJ {x1} (h : PA X es t) : PE X (.Tuple es x1 pos) (zqc t) := by
  intro pins s σ H Q I hq; refine wpAny_Tuple_spliced (thn (h pos pins s σ H _ I hq) fun us s1 ⟨xs,H1,I1,r,z,q⟩ => ⟨by rw [<- r.length]; exact z,?_⟩)
  have hf : H1 s1.heap.objs.size = none := I1.hok.fresh (Nat.le_refl _); refine ⟨.ref s1.heap.objs.size,upd H1 s1.heap.objs.size (.tup xs),I1.laid (t' := s1.toks) (fun b u e => Heap.get?_push_of_some _ e) (Nat.le_refl _) ?_,rfl,q _ hf⟩; exact ⟨z,us,r,⟨_,Heap.get?_push_size _ rfl,rfl,_,rfl⟩⟩
theorem zaM (h : PA X es t) : PE X (.List es pos) (zpI t) := by
  intro pins s σ H Q I hq; refine wpAny_List_spliced (thn (h pos pins s σ H _ I hq) fun us s1 ⟨xs,H1,I1,r,z,q⟩ => ⟨by rw [<- r.length]; exact z,?_⟩)
  have hf : H1 s1.heap.objs.size = none := I1.hok.fresh (Nat.le_refl _); refine ⟨.ref s1.heap.objs.size,upd H1 s1.heap.objs.size (.lst xs),I1.laid (t' := s1.toks) (fun b u e => Heap.get?_push_of_some _ e) (Nat.le_refl _) ?_,rfl,q _ hf⟩; exact ⟨z,us,0,r,Heap.get?_push_size _ rfl⟩
end
abbrev Sp := List V -> Hp -> VK -> XK -> Prop
abbrev CXT := List Env -> Hp -> Shared -> XK -> Value -> Shared -> Prop
structure Env0 (P : Program) (w : World) (K : Fg) (mg : Str -> Option Value) (base : Heap) (A : Around) (outer : List Env) (s : Shared) (H : Hp) : Prop where
  frames : A.frames = some outer
  mod : Mod K mg base
  bs : ∀ b o,base.get? b = some o -> s.heap.get? b = some o /\ H b = none
  bsz : base.objs.size <= s.heap.objs.size
  funs : s.heap.FunFrames base outer
  frf : ∀ b ∈ frs outer,H b = none
  hok : HOk P w H s.heap
  bare : AllBare s.gens
def CE (outer : List Env) (P : Program) (w : World) (H : Hp) (s : Shared) (Q : VK) (u : Value) (s' : Shared) : Prop :=
  ∃ v H',s'.os = s.os /\ AllBare s'.gens /\ Un (frs outer) [] H H' s.heap s'.heap /\ HOk P w H' s'.heap /\ RelV v u /\ Q v H'
def CR (CX : CXT) (outer : List Env) (P : Program) (w : World) (H : Hp) (s : Shared) (Q : VK) (E : XK) (r : Result) (s' : Shared) : Prop :=
  match r with
  | .ok (.ret u) => CE outer P w H s Q u s'
  | .ok _ => False
  | .error e => CX outer H s E e s'
structure FnOk (P : Program) (w : World) (K : Fg) (mg : Str -> Option Value) (base : Heap) (CX : CXT) (k : Nat) (f : Addr) (fd : FuncData) (ps : List Str) (sp : Sp) : Prop where
  len : ∀ vs H Q E,sp vs H Q E -> vs.length = ps.length
  run : ∀ (A : Around) (outer : List Env) (s : Shared) (H : Hp) (args : Args) (us : List Value) (vs : List V) (Q : VK) (E : XK),Room k A -> Env0 P w K mg base A outer s H -> BindsTo s fd args (ps.zip us) -> Vals vs us -> sp vs H Q E →
    codeAny (model P w) A (.call (.ref f) args) (CR CX outer P w H s Q E) s
theorem FnOk.mono {P : Program} {w : World} {K : Fg} {mg : Str -> Option Value} {base : Heap} {CX : CXT} {j k : Nat} {f : Addr} {fd : FuncData} {ps : List Str} {sp : Sp} (F : FnOk P w K mg base CX j f fd ps sp) (h : j <= k) :
    FnOk P w K mg base CX k f fd ps sp := ⟨F.len,fun A outer s H args us vs Q E hr => F.run A outer s H args us vs Q E (hr.mono h)⟩
theorem Env0.in1 {P : Program} {w : World} {K : Fg} {mg : Str -> Option Value} {base : Heap} {A : Around} {outer : List Env} {s : Shared} {H : Hp} (e : Env0 P w K mg base A outer s H) :
    Env0 P w K mg base A.in1 outer s H := ⟨e.frames,e.mod,e.bs,e.bsz,e.funs,e.frf,e.hok,e.bare⟩
section
variable {X : Cx} {pins : List (Addr × Obj)} {σ : St} {H : Hp} {s s' : Shared}
theorem Inv.env0 (I : Inv X pins σ H s) : Env0 X.prog X.w X.K X.mg X.base X.A X.stack s H :=
  ⟨I.ok.frames,I.ok.mod,I.bs,Nat.le_trans I.ok.bsz I.sz,I.stack,I.stkFree,I.hok,I.bare⟩
theorem Inv.after {Q : VK} {u : Value} (I : Inv X pins σ H s) (h : CE X.stack X.prog X.w H s Q u s') : EP X pins σ Q u s' := by
  obtain ⟨v,H',os,bare,un,hok,r,q⟩ := h; obtain ⟨hh,g,d,t,os'⟩ := s'; obtain rfl : os' = s.os := os; exact ⟨v,H',I.call (h' := hh) (g' := g) (d' := d) (t' := t) (ch := []) un hok bare (fun b z => absurd z (by simp)),r,q⟩
end
def znQ (sp : Sp) (dvs : List V) (E : XK) (t : TA) : TE := fun σ H Q => t σ H fun vs H1 => sp (vs ++ dvs) H1 Q E
def Binds (K : Fg) (fd : FuncData) (ps : List Str) (ds : List Value) : Prop :=
  ∀ (s : Shared) (us : List Value),K.In s.heap -> (us ++ ds).length = ps.length -> BindsTo s fd ⟨us,[]⟩ (ps.zip (us ++ ds))
theorem Binds.all {K : Fg} {fd : FuncData} {ps : List Str} (h : ∀ us : List Value,us.length = ps.length -> bindArgs fd ⟨us,[]⟩ = pure (ps.zip us)) : Binds K fd ps [] := fun s us _ hl => by
  rw [List.append_nil] at hl ⊢; exact .of_eq (h us hl)
def zeY (CX : CXT) (X : Cx) (E : XK) : Prop := ∀ (pins : List (Addr × Obj)) (σ : St) (H : Hp) (s : Shared) (e : Value) (s' : Shared),Inv X pins σ H s -> CX X.stack H s E e s' -> X.xe e s'
section
variable {X : Cx} {CX : CXT} {k : Nat} {f C : Addr} {fd : FuncData} {ps : List Str} {sp : Sp} {dvs : List V} {ds : List Value} {E : XK} {x m : Str} {p pos apos : Pos} {e o : Expr} {es : List Expr} {ta : TE} {t : TA}
theorem zo4 {pins : List (Addr × Obj)} {σ : St} {H : Hp} {s : Shared} {Q : VK} {us : List Value} {vs : List V} (F : FnOk X.prog X.w X.K X.mg X.base CX k f fd ps sp) (hr : Room k X.A) (hb : Binds X.K fd ps ds) (hd : Vals dvs ds) (hx : zeY CX X E)
    (I : Inv X pins σ H s) (r : Vals vs us) (h : sp (vs ++ dvs) H Q E) : wpAny (model X.prog X.w) X.A (call (.ref f) us) (EP X pins σ Q) X.xe s := by
  have r2 : Vals (vs ++ dvs) (us ++ ds) := r.append hd; have hl : (us ++ ds).length = ps.length := by rw [<- r2.length]; exact F.len _ _ _ _ h
  refine wpAny_call (codeAny_mono (F.run X.A X.stack s H ⟨us,[]⟩ (us ++ ds) (vs ++ dvs) Q E hr I.env0 (hb s us I.kIn hl) r2 h) fun r s' hq => ?_)
  cases r with
  | error e => exact hx pins σ H s e s' I hq
  | ok fl =>
    cases fl with
    | ret u => exact I.after hq
    | next => exact False.elim hq
    | brk => exact False.elim hq
    | cont => exact False.elim hq
theorem zmS (F : FnOk X.prog X.w X.K X.mg X.base CX k f fd ps sp) (hr : Room k X.A) (hg : Gl X x) (hm : X.mg x = some (.ref f)) (hk : PySem.W.keepIn X.K (.ref f) = true) (hb : Binds X.K fd ps ds) (hd : Vals dvs ds) (hx : zeY CX X E)
    (ha : PA X (e :: es) t) (hdb : (x == ("__debug__" : Str)) = false := by decide) (he : starEach (e :: es) X.env = (false,eval e X.env) :: starEach es X.env := by rfl) (hpl : (backTo pos (starEach es X.env)).any (·.1) = false := by rfl) :
    PE X (.Call (.Name x p) (e :: es) [] pos) (znQ sp dvs E t) := by
  intro pins s σ H Q I h; refine wpAny_Call_Name_kw (zhC I hg hm ?_ hdb); refine PySem.W.callWith_K (h₀ := X.base) I.ok.mod.kin hk (thn (ha pos pins s σ H _ I h) fun us s1 ⟨vs,H1,I1,r,q⟩ => ⟨I1.kIn,?_⟩) he hpl; exact zo4 F hr hb hd hx I1 r q
end
def PK (X : Cx) (kws : List Keyword) (t : TA) : Prop :=
  ∀ (pos : Pos) (pins : List (Addr × Obj)) (s : Shared) (σ : St) (H : Hp) (Q : List V -> Hp -> Prop),Inv X pins σ H s -> t σ H Q -> wpAny (model X.prog X.w) X.A (evalAll ((backToKw pos (keywordEach kws X.env)).map (·.2))) (AP X pins σ Q) X.xe s
section
variable {X : Cx} {CX : CXT} {k : Nat} {f C : Addr} {fd : FuncData} {ps ks : List Str} {sp : Sp} {E : XK} {x m : Str} {p pos apos kpos : Pos} {e o : Expr} {es : List Expr} {kws : List Keyword} {te ta : TE} {t tk : TA} {nm : Option Str}
theorem zoq : PK X [] zla := fun _ _ _ _ H Q I h => wpAny_evalAll_nil ⟨[],H,I,.nil,h⟩
theorem zkc (ha : PE X e te) (hr : PK X kws t) : PK X (⟨nm,e,kpos⟩ :: kws) (zlQ te t) := by
  intro pos pins s σ H Q I h; show wpAny _ _ (evalAll ((do let v <- eval e X.env; standAt pos; pure v) :: (backToKw pos (keywordEach kws X.env)).map (·.2))) _ _ s
  refine wpAny_evalAll_cons (wpAny_bind (thn (ha pins s σ H _ I h) fun u s1 ⟨x,H1,I1,r1,q1⟩ => wpAny_bind (wpAny_standAt (wpAny_pure ?_)))); exact thn (hr pos pins s1 σ H1 _ I1 q1) fun us s2 ⟨xs,H2,I2,r2,q2⟩ => ⟨x :: xs,H2,I2,.cons r1 r2,q2⟩
variable {g : List Value -> List Value -> List Value} {gV : List V -> List V -> List V}
end
structure zaw (N P : List Str) (sc : Scope) : Prop where
  kind : sc.kind = .function
  co : sc.isCoroutine = false
  gen : sc.isGenerator = false
  nd : N.Nodup
  pre : N.take P.length = P
  par : ∀ x ∈ P,sc.names.lookup x = some .local \/ sc.names.lookup x = some .cell
  nofree : ∀ y ∈ sc.names,y.2 ≠ .free
theorem zgI {kindOf : Str -> Option NameKind} {x : Str} : ∀ {binds : List (Str × Value)} {m : Str -> Option Value},(∀ v,(x,v) ∉ binds) -> bindL kindOf binds m x = m x
  | [],_,_ => rfl
  | (n,v) :: r,m,h => by
    unfold bindL; rw [zgI fun w hw => h w (List.mem_cons_of_mem _ hw)]
    split
    . have : x ≠ n := by rintro rfl; exact h v List.mem_cons_self
      simp [this]
    . rfl
theorem zgZ {kindOf : Str -> Option NameKind} {x : Str} : ∀ {binds : List (Str × Value)} {m : Str -> Option Value},(∀ v,(x,v) ∉ binds) -> bindC kindOf binds m x = m x
  | [],_,_ => rfl
  | (n,v) :: r,m,h => by
    unfold bindC; rw [zgZ fun w hw => h w (List.mem_cons_of_mem _ hw)]
    split
    . rfl
    . have : x ≠ n := by rintro rfl; exact h v List.mem_cons_self
      simp [this]
theorem zhe {kindOf : Str -> Option NameKind} {x : Str} {v : Value} : ∀ {P : List Str} {vs : List Value} {i : Nat} {m : Str -> Option Value},P.Nodup -> P[i]? = some x -> vs[i]? = some v -> kindOf x = some .local →
    bindL kindOf (P.zip vs) m x = some v
  | [],_,_,_,_,h,_,_ => by simp at h
  | _ :: _,[],_,_,_,_,h,_ => by simp at h
  | p :: P,w :: vs,0,m,nd,h1,h2,hk => by
    simp at h1 h2; subst h1; subst h2; show bindL kindOf ((p,w) :: P.zip vs) m p = _; unfold bindL; rw [zgI fun v hv => (List.nodup_cons.mp nd).1 (List.of_mem_zip hv).1,if_pos hk]; simp
  | p :: P,w :: vs,i + 1,m,nd,h1,h2,hk => by
    show bindL kindOf ((p,w) :: P.zip vs) m x = _; unfold bindL; exact zhe (i := i) (List.nodup_cons.mp nd).2 (by simpa using h1) (by simpa using h2) hk
theorem zgO {kindOf : Str -> Option NameKind} {x : Str} {v : Value} : ∀ {P : List Str} {vs : List Value} {i : Nat} {m : Str -> Option Value},P.Nodup -> P[i]? = some x -> vs[i]? = some v -> kindOf x ≠ some .local →
    bindC kindOf (P.zip vs) m x = some v
  | [],_,_,_,_,h,_,_ => by simp at h
  | _ :: _,[],_,_,_,_,h,_ => by simp at h
  | p :: P,w :: vs,0,m,nd,h1,h2,hk => by
    simp at h1 h2; subst h1; subst h2; show bindC kindOf ((p,w) :: P.zip vs) m p = _; unfold bindC; rw [zgZ fun v hv => (List.nodup_cons.mp nd).1 (List.of_mem_zip hv).1,if_neg hk]; simp
  | p :: P,w :: vs,i + 1,m,nd,h1,h2,hk => by
    show bindC kindOf ((p,w) :: P.zip vs) m x = _; unfold bindC; exact zgO (i := i) (List.nodup_cons.mp nd).2 (by simpa using h1) (by simpa using h2) hk
def start (N : List Str) (vs : List V) : St := vs.map some ++ List.replicate (N.length - vs.length) none
def zcp (CX : CXT) (P : Program) (w : World) (K : Fg) (mg : Str -> Option Value) (base : Heap) (N : List Str) (qual : Str) (scope : Scope) (f : Addr) (cd : Value) (A : Around) (outer : List Env) (s : Shared) (H : Hp) (E : XK) : Cx where
  prog := P
  w := w
  K := K
  mg := mg
  base := base
  A := A.deeper (envOfC qual scope s.heap.objs.size f cd)
  N := N
  s₀ := s
  H₀ := H
  env := envOfC qual scope s.heap.objs.size f cd
  outer := outer
  stack := envOfC qual scope s.heap.objs.size f cd :: outer
  ex := []
  calm := true
  fn := fun _ => true
  pn := []
  xe := fun e s' => wpAny (model P w) (A.deeper (envOfC qual scope s.heap.objs.size f cd)) («leaving» (envOfC qual scope s.heap.objs.size f cd) e) (fun _ s'' => CX outer H s E e s'') (fun e' s'' => CX outer H s E e' s'') s'
theorem ziL {sc : Scope} {n : Nat} {x : Str} (h : sc.names.lookup x = some .cell) : ∃ c,(cellsFrom n sc.names []).lookup x = some c := by
  have q := PySem.W.cellsFrom_some sc.names n [] (.inl h); exact Option.isSome_iff_exists.mp q
theorem zhf {CX : CXT} {P : Program} {w : World} {K : Fg} {mg : Str -> Option Value} {base : Heap} {N ps : List Str} {qual : Str} {scope : Scope} {f : Addr} {cd : Value} {A : Around} {outer : List Env} {s s1 : Shared} {H : Hp} {E : XK} {us : List Value} {vs : List V}
    (S : zaw N ps scope) (hd : A.handled = none) (e0 : Env0 P w K mg base A outer s H) (hl : vs.length = ps.length) (r : Vals vs us)
    (x : InCallC s s.heap.objs.size (bindL (envOfC qual scope s.heap.objs.size f cd).kindOf (ps.zip us) fun _ => none) (cellsFrom (s.heap.objs.size + 1) scope.names []) (bindC (envOfC qual scope s.heap.objs.size f cd).kindOf (ps.zip us) fun _ => none) s1) :
    Inv (zcp CX P w K mg base N qual scope f cd A outer s H E) [] (start N vs) H s1 := by
  have hpl : ps.length <= N.length := by have := congrArg List.length S.pre; rw [List.length_take] at this; omega
  obtain ⟨h1,tk,rfl,hk⟩ := x.done; have noA : ∀ b : Addr,b ∉ (zcp CX P w K mg base N qual scope f cd A outer s H E).ex := fun b z => absurd (show b ∈ ([] : List Addr) from z) (by simp)
  refine ⟨⟨e0.mod,S.kind,rfl,rfl,Nat.le_refl _,fun y z c h1 h2 => ?_,fun y hy => ?_,fun y c _ h => ?_,fun _ => hd,Around.frames_deeper e0.frames,.inr ⟨rfl,rfl⟩,fun b z => absurd z (noA b),e0.bs,e0.bsz,fun b _ _ => noA b,fun b z => absurd z (noA b),e0.funs,e0.frf⟩,
    rfl,e0.bare,Un.kept hk,⟨_,x.toInCall.ns,fun i y v h1 h2 h3 => ?_⟩,fun y c h => ⟨_,x.cell y c h⟩,e0.hok.fresh (Nat.le_refl _),fun y c h => ?_,fun p hp => absurd (show p ∈ ([] : List (Addr × Obj)) from hp) (by simp),e0.hok.kept hk,?_⟩
  . exact name_of_addr x.apart (PySem.mem_of_lookup h1) (PySem.mem_of_lookup h2)
  . have hy : scope.names.lookup y = some .cell \/ scope.names.lookup y = some .free := hy
    rcases hy with hy | hy
    . exact ziL hy
    . exact absurd rfl (S.nofree _ (PySem.mem_of_lookup hy))
  . exact Nat.le_of_lt (x.above y c (PySem.mem_of_lookup h))
  . have hi : i < vs.length := by
      unfold start at h2
      by_cases hi : i < vs.length
      . exact hi
      . rw [List.getElem?_append_right (by simpa using hi)] at h2
        rw [List.getElem?_replicate] at h2
        split at h2 <;> cases h2
    have ha : vs[i]? = some v := by
      unfold start at h2; rw [List.getElem?_append_left (by simpa using hi),List.getElem?_map] at h2
      cases e : vs[i]? with
      | none => rw [e] at h2; cases h2
      | some a => rw [e] at h2; cases h2; rfl
    obtain ⟨u,hu,rv⟩ := r.get ha
    have hp : ps[i]? = some y := by
      rw [<- S.pre,List.getElem?_take_of_lt (by omega)]; exact h1
    have ndP : ps.Nodup := by rw [<- S.pre]; exact S.nd.sublist (List.take_sublist _ _)
    refine ⟨u,rv,?_⟩
    rcases S.par y (List.mem_of_getElem? hp) with k | k
    . exact .inl ⟨k,zhe ndP hp hu k⟩
    . obtain ⟨c,e⟩ := ziL (n := s.heap.objs.size + 1) k; refine .inr ⟨.inl k,c,e,?_⟩; have q := x.cell y c e; rw [zgO ndP hp hu (by show scope.names.lookup y ≠ _; rw [k]; decide)] at q
      exact q
  . exact e0.hok.fresh (Nat.le_of_lt (x.above y c (PySem.mem_of_lookup h)))
  . unfold start; show _ = N.length; rw [List.length_append,List.length_map,List.length_replicate]; omega
theorem zmw {CX : CXT} {P : Program} {w : World} {K : Fg} {mg : Str -> Option Value} {base : Heap} {k : Nat} {f : Addr} {name qual : Str} {params : Arguments} {body : List Stmt} {scope : Scope} {dV kV doc pm cdv ct oc : Value} {an od : Option Addr}
    {osl : Array (Option Value)} {N ps : List Str} {sp : Sp} (lk : K.lookup f = some ⟨oc,od,.func (PySem.W.fnOf name qual params body scope dV kV doc pm an cdv ct),osl⟩) (hcd : PySem.W.codeIn K cdv qual = true) (S : zaw N ps scope)
    (len : ∀ vs H Q E,sp vs H Q E -> vs.length = ps.length)
    (hbody : ∀ (A : Around) (outer : List Env) (s : Shared) (H : Hp) (vs : List V) (Q : VK) (E : XK),Room k (A.deeper (envOfC qual scope s.heap.objs.size f cdv)) -> sp vs H Q E →
      ∃ t,PSs (zcp CX P w K mg base N qual scope f cdv A outer s H E) body t /\ t { nx := fun _ H' => Q .non H',rt := Q } (start N vs) H) :
    FnOk P w K mg base CX (k + 1) f (PySem.W.fnOf name qual params body scope dV kV doc pm an cdv ct) ps sp := by
  refine ⟨len,fun A outer s H args us vs Q E hr e0 hb r hsp => ?_⟩; have hl := len _ _ _ _ hsp; have KX : K.In s.heap := e0.mod.kin.keeps fun b o e => (e0.bs b o e).1; have lim : s.heap.NoLimit := e0.mod.nolimit.keeps fun b o e => (e0.bs b o e).1
  have hkind : ∀ y ∈ ps.zip us,scope.names.lookup y.1 = some .local \/ (scope.names.lookup y.1 = some .cell /\ ((cellsFrom (s.heap.objs.size + 1) scope.names []).lookup y.1).isSome = true) := fun ⟨n,v⟩ hy => by
    rcases S.par n (List.of_mem_zip hy).1 with q | q
    . exact .inl q
    . exact .inr ⟨q,PySem.W.cellsFrom_some _ _ _ (.inl q)⟩
  refine codeAny_call_function hr.depth (KX _ _ lk) rfl S.co S.gen rfl (PySem.W.codeRec_of KX hcd) (hb _ _ _ _ ?_); refine wpAny_newFunctionEnv_cells S.kind hkind fun env he s1 x => ?_; subst he; refine ⟨lim.keeps x.toInCall.keep,codeAny_func ?_⟩; obtain ⟨t,ht,hq⟩ := hbody A outer s H vs Q E (hr.deeper _) hsp; have I : Inv (zcp CX P w K mg base N qual scope f cdv A outer s H E) [] (start N vs) H s1 := zhf S hr.hd e0 hl r x; refine wpAny_mono (ht [] s1 (start N vs) H _ I hq) (fun fl s' hs => ?_) fun e s' hs => hs
  have fin : ∀ {σ' : St} {H' : Hp} {v : V} {u : Value},Inv (zcp CX P w K mg base N qual scope f cdv A outer s H E) [] σ' H' s' -> RelV v u -> Q v H' -> CE outer P w H s Q u s' :=
    fun {σ' H' v u} J rv q => ⟨v,H',J.os,J.bare,J.base,J.hok,rv,q⟩
  cases fl with
  | ret u =>
    obtain ⟨v,σ',H',J,rv,q⟩ := hs; exact fin J rv q
  | next =>
    obtain ⟨σ',H',J,q⟩ := hs; exact fin (v := V.non) (u := Value.none) J rfl q
  | brk =>
    obtain ⟨_,_,_,q⟩ := hs; exact False.elim q
  | cont =>
    obtain ⟨_,_,_,q⟩ := hs; exact False.elim q
section
variable {X : Cx} {x : Str} {p pos : Pos} {e : Expr} {es : List Expr} {t : TA} {id T : String} {r : List V -> Hp -> VK -> Prop}
def tCB (r : List V -> Hp -> VK -> Prop) (t : TA) : TE := fun σ H Q => t σ H fun vs H1 => r vs H1 Q
theorem zas (hc : zbH X (.builtin id) r) (hg : Gl X x) (hm : X.mg x = none) (hv : bootBuiltins x = some (.builtin id)) (ha : PA X (e :: es) t) (hn : x ≠ "__name__" := by decide) (hdb : (x == ("__debug__" : Str)) = false := by decide)
    (he : starEach (e :: es) X.env = (false,eval e X.env) :: starEach es X.env := by rfl) (hpl : (backTo pos (starEach es X.env)).any (·.1) = false := by rfl) : PE X (.Call (.Name x p) (e :: es) [] pos) (tCB r t) := by
  intro pins s σ H Q I h; refine wpAny_Call_Name_kw (zdY I hg hm hv ?_ hn hdb); exact PyProof.Rows.callWith_builtin1 (thn (ha pos pins s σ H _ I h) fun us s1 ⟨vs,H1,I1,r1,q1⟩ => hc pins s1 σ H1 vs us Q I1 r1 q1) he hpl
theorem zaP (hc : zbH X (.type T) r) (hg : Gl X x) (hm : X.mg x = none) (hv : bootBuiltins x = some (.type T)) (ha : PA X (e :: es) t) (hn : x ≠ "__name__" := by decide) (hdb : (x == ("__debug__" : Str)) = false := by decide)
    (he : starEach (e :: es) X.env = (false,eval e X.env) :: starEach es X.env := by rfl) (hpl : (backTo pos (starEach es X.env)).any (·.1) = false := by rfl) : PE X (.Call (.Name x p) (e :: es) [] pos) (tCB r t) := by
  intro pins s σ H Q I h; refine wpAny_Call_Name_kw (zdY I hg hm hv ?_ hn hdb); exact PyProof.Rows.callWith_type1 (thn (ha pos pins s σ H _ I h) fun us s1 ⟨vs,H1,I1,r1,q1⟩ => hc pins s1 σ H1 vs us Q I1 r1 q1) he hpl
end
end L2
namespace HT
open PySem PyProof.Rows
def lexLt : List Int -> List Int -> Bool
  | [],[] => false
  | [],_ :: _ => true
  | _ :: _,[] => false
  | x :: xs,y :: ys => if x = y then lexLt xs ys else decide (x < y)
theorem lexLt_cons (x y : Int) (xs ys : List Int) : lexLt (x :: xs) (y :: ys) = if x = y then lexLt xs ys else decide (x < y) := rfl
theorem lexLt_nil_nil : lexLt [] [] = false := rfl
theorem zmC (A : Around) (s : Shared) (a : Int) (t : Tok) (c : Int) (u : Tok) : ∃ e,SeqAt.EqAt A s (.int a t) (.int c u) e /\ (e = true ↔ a = c) :=
  ⟨(a == c),SeqAt.EqAt.int_int a t c u,by simp⟩
theorem zmi (A : Around) (s : Shared) (a : Int) (t : Tok) (c : Int) (u : Tok) (prog : Program) (w : World) (E : Value -> Shared -> Prop) (Q : Value -> Shared -> Prop) (h : Q (.bool (decide (a < c))) s) :
    wpAny (model prog w) A (richCompare .Lt (.int a t) (.int c u)) Q E s :=
  (PyProof.Rows.lt_int h : wpAny (model prog w) A (compareOp .Lt (.int a t) (.int c u)) Q E s)
section
open PySem.SeqAt
open PySem.AutoSeq1 (wpAny_loadPart')
open PySem.MeetsSeq PySem.MeetsSeq2 PySem.MeetsSeq3
end
section
variable {prog : Program} {w : World} {A : Around} {E : Value -> Shared -> Prop} {s : Shared}
theorem cat_tup {t b : Addr} {vs ws : List Value} {Q : Value -> Shared -> Prop} (ht : IsTup s.heap t vs.toArray) (hb : IsTup s.heap b ws.toArray) (hv : vs ≠ [])
    (h1 : ws = [] -> Q (.ref t) s) (h2 : ws ≠ [] -> Q (.ref s.heap.objs.size) { s with heap := s.heap.push { cls := .type "tuple",data := .seq (vs ++ ws).toArray } })
    (hsz : vs.length + ws.length <= sizeLine) : wpAny (model prog w) A (binaryOp .Add (.ref t) (.ref b)) Q E s := by
  obtain ⟨⟨cls,dd,data,sl⟩,ho,hc,n,hd⟩ := id ht; obtain ⟨⟨cls2,dd2,data2,sl2⟩,ho2,hc2,n2,hd2⟩ := id hb; simp only at hc hd hc2 hd2; subst hc hd hc2 hd2; have e : vs.toArray ++ ws.toArray = (vs ++ ws).toArray := by simp
  by_cases hw : ws = []
  . exact concat_meets ⟨_,ho,rfl⟩ ⟨_,ho2,rfl⟩ noFill_tuple_add seq_tuple_add PySem.F.slot_tuple_add PySem.F.entry_tuple_add (PySem.F.args_tuple_add_2 _ _)
      (tuple_addW1 t b vs.toArray ws.toArray n n2 dd dd2 sl sl2 (by simpa using hv) (by simp [hw])) ⟨ho,ho2,h1 hw⟩
  . refine concat_meets ⟨_,ho,rfl⟩ ⟨_,ho2,rfl⟩ noFill_tuple_add seq_tuple_add PySem.F.slot_tuple_add PySem.F.entry_tuple_add (PySem.F.args_tuple_add_2 _ _)
      (tuple_addW2 t b vs.toArray ws.toArray n n2 dd dd2 sl sl2 (by simpa using hv) (by simpa using hw) (by rw [List.size_toArray,List.size_toArray]; exact hsz)) ⟨ho,ho2,?_⟩
    rw [e]; exact h2 hw
def sIx (n d : Nat) : Option Int -> Nat
  | none => d
  | some v => if v < 0 then (v + (n : Int)).toNat else min v.toNat n
theorem sIx_none (n d : Nat) : sIx n d none = d := rfl
theorem sIx_nat (n d k : Nat) : sIx n d (some (k : Int)) = min k n := by
  show (if (k : Int) < 0 then ((k : Int) + (n : Int)).toNat else min (k : Int).toNat n) = min k n; rw [if_neg (by omega),Int.toNat_natCast]
theorem zn3 (n d : Nat) (hd : d <= n) (o : Option Int) : sIx n d o <= n := by
  cases o with
  | none => exact hd
  | some v =>
    show (if v < 0 then (v + (n : Int)).toNat else min v.toNat n) <= n
    by_cases hv : v < 0
    . rw [if_pos hv]; omega
    . rw [if_neg hv]; exact Nat.min_le_right _ _
theorem zjN (v : Int) (n d : Nat) : (if v < 0 then max (v + (n : Int)) 0 else min v (n : Int)) = ((sIx n d (some v) : Nat) : Int) := by
  show (if v < 0 then max (v + (n : Int)) 0 else min v (n : Int)) = (((if v < 0 then (v + (n : Int)).toNat else min v.toNat n) : Nat) : Int)
  by_cases hv : v < 0
  . simp only [if_pos hv]; omega
  . simp only [if_neg hv]; omega
theorem zjn (lo hi : Option Int) (n : Nat) : Builtin.Slice.sliceAdjust lo hi 1 (n : Int) = (((sIx n 0 lo : Nat) : Int),((sIx n n hi : Nat) : Int)) := by
  have h1 : ¬ ((1 : Int) < 0) := by omega
  unfold Builtin.Slice.sliceAdjust; simp only [h1,if_false]; refine Prod.ext ?_ ?_
  . cases lo with
    | none => rfl
    | some v => exact zjN v n 0
  . cases hi with
    | none => rfl
    | some v => exact zjN v n n
theorem zjm (i j : Nat) : Builtin.Slice.slicePlaces (i : Int) (j : Int) 1 = j - i := by
  unfold Builtin.Slice.slicePlaces; have h1 : (1 : Int) > 0 := by omega
  simp only [h1,if_true,Int.ediv_one]
  split <;> omega
theorem zgd {v : Value} {o : Option Int} {Q : Option Int -> Shared -> Prop} (p : IsPart v o) (h : Q o s) : wpAny (model prog w) A (Builtin.Slice.slicePartIndex v) Q E s := by
  cases p with
  | none => exact slicePart_none h
  | int i t => exact slicePart_int h
theorem zcQ {sl : Addr} {vl vu : Value} {lo hi : Option Int} {n : Nat} {Q : Int × Int × Nat -> Shared -> Prop} (hs : s.heap.IsSliceOf sl vl vu .none) (pl : IsPart vl lo) (pu : IsPart vu hi)
    (h : Q (((sIx n 0 lo : Nat) : Int),1,sIx n n hi - sIx n 0 lo) s) : wpAny (model prog w) A (Builtin.Slice.sliceApplied (.ref sl) (pure (n : Int))) Q E s := by
  obtain ⟨os,hos,hcs,hds⟩ := id hs; unfold Builtin.Slice.sliceApplied Builtin.Slice.sliceFields; refine wpAny_bind (wpAny_bind (wpAny_field hos hds (x := vl) rfl (wpAny_bind (wpAny_field hos hds (x := vu) rfl (wpAny_bind (wpAny_field hos hds (x := .none) rfl (wpAny_pure ?_))))))); refine wpAny_bind (slicePart_none ?_); show wpAny _ _ (if ((1 : Int) == 0) = true then _ else _) _ _ s; rw [if_neg (by decide)]
  refine wpAny_bind (zgd pl (wpAny_bind (zgd pu (wpAny_bind (wpAny_pure ?_))))); show wpAny _ _ (match Builtin.Slice.sliceAdjust lo hi 1 (n : Int) with | (lo,hi) => pure (lo,(1 : Int),Builtin.Slice.slicePlaces lo hi 1)) _ _ s
  rw [zjn lo hi n]; show wpAny _ _ (pure (((sIx n 0 lo : Nat) : Int),(1 : Int),Builtin.Slice.slicePlaces ((sIx n 0 lo : Nat) : Int) ((sIx n n hi : Nat) : Int) 1)) _ _ s; rw [zjm]; exact wpAny_pure h
theorem zl6 (xs : Array Value) (i k : Nat) : ((List.range k).filterMap fun (m : Nat) => xs[((i : Int) + (m : Int) * 1).toNat]?).toArray = ((xs.toList.drop i).take k).toArray := by
  have e : (fun (m : Nat) => xs[((i : Int) + (m : Int) * 1).toNat]?) = fun m => xs[i + m]? := by
    funext m
    have : ((i : Int) + (m : Int) * 1).toNat = i + m := by omega
    rw [this]
  rw [e]; have := pick_run xs i k; rw [List.filterMap_map] at this; have e2 : ((fun x => xs[x]?) ∘ fun x => i + x) = fun m => xs[i + m]? := rfl; rw [e2] at this; rw [this]
theorem getItem_tuple_cut {t sl : Addr} {items : Array Value} {vl vu : Value} {lo hi : Option Int} {Q : Value -> Shared -> Prop} (ht : IsTup s.heap t items) (hs : s.heap.IsSliceOf sl vl vu .none) (pl : IsPart vl lo) (pu : IsPart vu hi)
    (hw : ¬ (sIx items.size 0 lo = 0 /\ sIx items.size items.size hi = items.size))
    (h : Q (.ref s.heap.objs.size) { s with heap := s.heap.push { cls := .type "tuple",data := .seq ((items.toList.drop (sIx items.size 0 lo)).take (sIx items.size items.size hi - sIx items.size 0 lo)).toArray } })
    (hsz : items.size <= sizeLine) : wpAny (model prog w) A (getItem (.ref t) (.ref sl)) Q E s := by
  have htake : sizeOk (.seq ((items.toList.drop (sIx items.size 0 lo)).take (sIx items.size items.size hi - sIx items.size 0 lo)).toArray) := by
    show ((items.toList.drop (sIx items.size 0 lo)).take (sIx items.size items.size hi - sIx items.size 0 lo)).toArray.size <= sizeLine; rw [List.size_toArray,List.length_take,List.length_drop,Array.length_toList]; omega
  have hj : sIx items.size items.size hi <= items.size := zn3 _ _ (Nat.le_refl _) hi; obtain ⟨os,hos,hcs,hds⟩ := id hs; have hTs : s.TypeIs (.ref sl) "slice" := ⟨os,hos,hcs⟩; unfold getItem
  try with_reducible refine wpAny_holding ?_
  first | refine wpAny_bind (wpAny_pure ?_) | skip
  refine wpAny_bind (wpAny_sequenceKey ht.typeIs (by decide) ?_)
  refine wpAny_bind (wpAny_callSpecial?_slot (name := Str.ofString "__getitem__") ht.typeIs PyProof.Rows.slot_tuple_getitem
    (wpAny_call_entry PyProof.Rows.slot_tuple_getitem ht.typeIs entry_tuple_getitem ?_ (args_tuple_getitem _ _)))
  show wpAny _ _ (Builtin.Tuple.tupleItemsOf (.ref t) >>= _) _ _ s; refine wpAny_bind (tupleItemsOf_ ht ?_); refine wpAny_bind (wpAny_typeOf hTs ?_); rw [if_pos (by decide)]
  refine wpAny_bind (zcQ hs pl pu ?_)
  have hno : ¬ ((((sIx items.size 0 lo : Nat) : Int) == 0 && (1 : Int) == 1 && (sIx items.size items.size hi - sIx items.size 0 lo) == items.size) = true) := by
    intro q; rw [Bool.and_eq_true,Bool.and_eq_true] at q; have q1 : ((sIx items.size 0 lo : Nat) : Int) = 0 := eq_of_beq q.1.1; have q2 : sIx items.size items.size hi - sIx items.size 0 lo = items.size := eq_of_beq q.2; exact hw ⟨by omega,by omega⟩
  show wpAny _ _ (if (((sIx items.size 0 lo : Nat) : Int) == 0 && (1 : Int) == 1 && (sIx items.size items.size hi - sIx items.size 0 lo) == items.size) = true then _ else _) _ _ s; rw [if_neg hno,zl6]
  first
    | exact wpAny_bind (m := Builtin.Tuple.tupleExact _) (wpAny_newObj_type (wpAny_pure ⟨_,rfl,wpAny_pure h⟩) htake)
    | exact wpAny_bind (m := Builtin.Tuple.tupleExact _) (wpAny_newObj_type (wpAny_bind (wpAny_pure (wpAny_pure ⟨_,rfl,wpAny_pure h⟩))) htake)
    | exact wpAny_bind (wpAny_bind (m := Builtin.Tuple.tupleExact _) (wpAny_newObj_type (wpAny_pure (wpAny_pure ⟨_,rfl,wpAny_pure h⟩)) htake))
    | exact wpAny_bind (wpAny_bind (m := Builtin.Tuple.tupleExact _) (wpAny_newObj_type (wpAny_pure ⟨_,rfl,wpAny_pure h⟩) htake))
end
end HT
namespace L2
open PySem PySem.Spec PyProof.Rows
abbrev TO := St -> Hp -> (Option Int -> Hp -> Prop) -> Prop
def PO (X : Cx) (e : Option Expr) (t : TO) : Prop :=
  ∀ (pins : List (Addr × Obj)) (s : Shared) (σ : St) (H : Hp) (Q : Option Int -> Hp -> Prop),Inv X pins σ H s -> t σ H Q →
    wpAny (model X.prog X.w) X.A (evalPart e X.env) (fun u s' => ∃ o H',Inv X pins σ H' s' /\ IsPart u o /\ Q o H') X.xe s
def znu : TO := fun _ H Q => Q none H
def zpB (t : TE) : TO := fun σ H Q => t σ H fun x H1 => ∃ i,x = .int i /\ Q (some i) H1
theorem zdS {ns : List Int} : ∀ {us : List Value},Vals (ns.map V.int) us -> IntsAre us ns := by
  induction ns with
  | nil => intro us r; rw [List.map_nil] at r; cases r; exact .nil
  | cons n ns ih =>
    intro us r; rw [List.map_cons] at r
    cases r with
    | cons r1 r2 =>
      obtain ⟨t,e⟩ := r1; subst e; exact .cons n t (ih r2)
section
variable {X : Cx} {e : Expr} {te : TE} {lo hi : Option Expr} {tl th : TO} {pos p2 : Pos}
theorem zhW : PO X none znu := by
  intro pins s σ H Q I h; rw [evalPart_none]; exact wpAny_pure ⟨none,H,I,.none,h⟩
theorem zen (h : PE X e te) : PO X (some e) (zpB te) := by
  intro pins s σ H Q I hw; rw [evalPart_some]; refine thn (h pins s σ H _ I hw) fun u s1 ⟨x,H1,I1,r1,q1⟩ => ?_; obtain ⟨i,rfl,q⟩ := q1; obtain ⟨t,rfl⟩ := r1; exact ⟨some i,H1,I1,.int i t,q⟩
def SlR (X : Cx) (r : V -> Option Int -> Option Int -> Hp -> VK -> Prop) : Prop :=
  ∀ (pins : List (Addr × Obj)) (s : Shared) (σ : St) (H : Hp) (x : V) (v vl vu : Value) (lo hi : Option Int) (sl : Addr) (Q : VK),Inv X pins σ H s -> RelV x v -> s.heap.IsSliceOf sl vl vu .none -> IsPart vl lo -> IsPart vu hi -> r x lo hi H Q →
    ∃ T id,typeLookup (.type T) "__getitem__" = pure (some (.builtin id)) /\ s.TypeIs v T /\ wpAny (model X.prog X.w) X.A (getItem v (.ref sl)) (EP X pins σ Q) X.xe s
def tSl (r : V -> Option Int -> Option Int -> Hp -> VK -> Prop) (te : TE) (tl th : TO) : TE := fun σ H Q => te σ H fun x H1 => tl σ H1 fun l H2 => th σ H2 fun u H3 => r x l u H3 Q
theorem zex {r : V -> Option Int -> Option Int -> Hp -> VK -> Prop} (hr : SlR X r) (he : PE X e te) (hl : PO X lo tl) (hu : PO X hi th) : PE X (.Subscript e (.Slice lo hi none p2) pos) (tSl r te tl th) := by
  intro pins s σ H Q I h; refine Subscript_ (thn (he pins s σ H _ I h) fun v s1 ⟨x,H1,I1,r1,q1⟩ => ?_); refine wpAny_Slice (thn (hl pins s1 σ H1 _ I1 q1) fun vl s2 ⟨l,H2,I2,pl,q2⟩ => thn (hu pins s2 σ H2 _ I2 q2) fun vu s3 ⟨u,H3,I3,pu,q3⟩ => ?_); rw [evalPart_none]; refine wpAny_pure ?_; have I4 : Inv X pins σ H3 { s3 with heap := s3.heap.push { cls := .type "slice",data := .fields #[vl,vu,.none] } } := I3.kept (t' := s3.toks) fun b ob q => Heap.get?_push_of_some _ q
  obtain ⟨T,id,hT,ht,hg⟩ := hr pins { s3 with heap := s3.heap.push { cls := .type "slice",data := .fields #[vl,vu,.none] } } σ H3 x v vl vu l u s3.heap.objs.size Q I4 r1 (Heap.IsSliceOf.new ..) pl pu q3
  show wpAny (model X.prog X.w) X.A (subscriptTail e (.Slice lo hi none p2) v (.ref s3.heap.objs.size)) (EP X pins σ Q) X.xe { s3 with heap := s3.heap.push { cls := .type "slice",data := .fields #[vl,vu,.none] } }
  exact tail_any (ops := [.ref s3.heap.objs.size,v]) ht hT hg (by with_unfolding_all rfl)
def zc9 (xs : List V) (lo hi : Option Int) : List V := (xs.drop (HT.sIx xs.length 0 lo)).take (HT.sIx xs.length xs.length hi - HT.sIx xs.length 0 lo)
theorem zfd (xs : List V) (lo hi : Option Int) : (zc9 xs lo hi).length <= xs.length := by
  unfold zc9; rw [List.length_take,List.length_drop]; omega
def zqj (K : Fg) : V -> Option Int -> Option Int -> Hp -> VK -> Prop := fun x lo hi H Q => ∃ a xs,x = .ref a /\ SqT K H a xs ∧
  ¬ (HT.sIx xs.length 0 lo = 0 /\ HT.sIx xs.length xs.length hi = xs.length) /\ ∀ p,H p = none -> Q (.ref p) (upd H p (.tup (zc9 xs lo hi)))
theorem zoO : SlR X (zqj X.K) := by
  intro pins s σ H x v vl vu lo hi sl Q I rx hs pl pu h; obtain ⟨a,xs,rfl,hx,hw,q⟩ := h; cases rx; obtain ⟨its,r,ht,hz⟩ := I.tuple hx; have hlen : its.toArray.size = xs.length := by rw [List.size_toArray]; exact r.length.symm
  refine ⟨"tuple",_,PyProof.Rows.slot_tuple_getitem.lookup,ht.typeIs,?_⟩; refine HT.getItem_tuple_cut ht hs pl pu (by rw [hlen]; exact hw) ?_ (by rw [hlen]; exact hz)
  rw [hlen]; refine ⟨.ref s.heap.objs.size,_,I.laid (t' := s.toks) (o := .tup (zc9 xs lo hi)) (fun b ob q => Heap.get?_push_of_some _ q) (Nat.le_refl _) ?_,rfl,q _ (I.hok.fresh (Nat.le_refl _))⟩; exact ⟨Nat.le_trans (zfd xs lo hi) hz,_,(r.drop (HT.sIx xs.length 0 lo)).take (HT.sIx xs.length xs.length hi - HT.sIx xs.length 0 lo),IsTup.new _ _⟩
def zpo (K : Fg) : R2 := fun x y H Q => ∃ a b xs ys,x = .ref a /\ y = .ref b /\ SqT K H a xs /\ SqT K H b ys /\ xs ≠ [] /\ xs.length + ys.length <= sizeLine ∧
  (ys = [] -> Q (.ref a) H) /\ (ys ≠ [] -> ∀ p,H p = none -> Q (.ref p) (upd H p (.tup (xs ++ ys))))
theorem Vals.nil_iff {xs : List V} {us : List Value} (r : Vals xs us) : us = [] ↔ xs = [] := by
  cases r with
  | nil => simp
  | cons _ _ => simp
theorem znG : OpR X (binaryOp .Add) (zpo X.K) := by
  intro pins s σ H x y v u Q I rx ry h; obtain ⟨a,b,xs,ys,rfl,rfl,ha,hb,hx,hz,q1,q2⟩ := h; cases rx; cases ry; obtain ⟨its,r1,p1,_⟩ := I.tuple ha; obtain ⟨its2,r2,p2,_⟩ := I.tuple hb; refine HT.cat_tup p1 p2 (fun z => hx (r1.nil_iff.mp z)) (fun z => ⟨.ref a,H,I,rfl,q1 (r2.nil_iff.mp z)⟩) (fun z => ?_) (by rw [<- r1.length,<- r2.length]; exact hz)
  refine ⟨.ref s.heap.objs.size,_,I.laid (t' := s.toks) (o := .tup (xs ++ ys)) (fun b ob q => Heap.get?_push_of_some _ q) (Nat.le_refl _) ?_,rfl,q2 (fun w => z (r2.nil_iff.mpr w)) _ (I.hok.fresh (Nat.le_refl _))⟩; exact ⟨by rw [List.length_append]; exact hz,_,r1.append r2,IsTup.new _ _⟩
end
def ixN (n : Nat) (i : Int) : Option Nat := if 0 <= i then (if i < n then some i.toNat else none) else if -(n : Int) <= i then some (i + n).toNat else none
def atI {α : Type} (xs : List α) (i : Int) : Option α := (ixN xs.length i).bind fun j => xs[j]?
theorem zka {n : Nat} {i : Int} {j : Nat} (h : ixN n i = some j) : seqIndex? i n = some j /\ j < n /\ -(n : Int) <= i /\ i < n := by
  unfold ixN at h
  by_cases h0 : 0 <= i
  . rw [if_pos h0] at h
    by_cases h1 : i < n
    . rw [if_pos h1] at h; have e : i.toNat = j := Option.some.inj h; exact ⟨by rw [seqIndex_of h0 h1,e],by omega,by omega,h1⟩
    . rw [if_neg h1] at h; cases h
  . rw [if_neg h0] at h
    by_cases h1 : -(n : Int) <= i
    . rw [if_pos h1] at h; have e : (i + n).toNat = j := Option.some.inj h; exact ⟨by rw [seqIndex_neg (by omega) h1,e],by omega,h1,by omega⟩
    . rw [if_neg h1] at h; cases h
theorem zjV {α : Type} {xs : List α} {i : Int} {v : α} (h : atI xs i = some v) : ∃ j,seqIndex? i xs.length = some j /\ xs[j]? = some v /\ j < xs.length /\ -(xs.length : Int) <= i /\ i < xs.length := by
  unfold atI at h
  cases e : ixN xs.length i with
  | none => rw [e] at h; cases h
  | some j =>
    rw [e] at h; obtain ⟨h1,h2,h3,h4⟩ := zka e; exact ⟨j,h1,h,h2,h3,h4⟩
theorem zbO {α : Type} {xs : List α} {j : Nat} {v : α} (h : xs[j]? = some v) : atI xs (j : Int) = some v := by
  have hj : j < xs.length := (List.getElem?_eq_some_iff.mp h).1
  have e : ixN xs.length (j : Int) = some j := by
    unfold ixN; rw [if_pos (by omega),if_pos (by omega)]; simp
  unfold atI; rw [e]; exact h
def znd (b : Expr) : Prop := ∀ o i,subscripted b false o i = operate [o,i] (getItem o i)
def IxR (X : Cx) (r : R2) : Prop :=
  ∀ (value slice : Expr) (pins : List (Addr × Obj)) (s : Shared) (σ : St) (H : Hp) (x y : V) (v u : Value) (Q : VK),Inv X pins σ H s -> RelV x v -> RelV y u -> r x y H Q →
    subscripted slice false v u = operate [v,u] (getItem v u) -> wpAny (model X.prog X.w) X.A (subscriptTail value slice v u) (EP X pins σ Q) X.xe s
def MtR (X : Cx) (id : String) (r : V -> List V -> Hp -> VK -> Prop) : Prop :=
  ∀ (pins : List (Addr × Obj)) (s : Shared) (σ : St) (H : Hp) (x : V) (xs : List V) (v : Value) (us : List Value) (Q : VK),Inv X pins σ H s -> RelV x v -> Vals xs us -> r x xs H Q →
    wpAny (model X.prog X.w) X.A (call (.builtin id) (v :: us)) (EP X pins σ Q) X.xe s
section
variable {X : Cx} {a b : Expr} {ta tb : TE} {pos : Pos}
theorem zak {r : R2} (hr : IxR X r) (ha : PE X a ta) (hb : PE X b tb) (hs : znd b) : PE X (.Subscript a b pos) (tOp r ta tb) := by
  intro pins s σ H Q I h; exact Subscript_ (zoE ha hb I h fun v u s2 x y H2 I2 rx ry q => hr a b pins s2 σ H2 x y v u Q I2 rx ry q (hs _ _))
inductive QIx (A : Addr -> List V -> Prop) (x y : V) (Q : V -> Prop) : Prop
  | mk (p : Addr) (xs : List V) (i : Int) (v : V) (h1 : x = .ref p) (h2 : y = .int i) (h3 : A p xs) (h4 : atI xs i = some v) (k : Q v) : QIx A x y Q
def zpJ (K : Fg) : R2 := fun x y H Q => QIx (SqL K H) x y (fun v => Q v H)
def zpD (K : Fg) : R2 := fun x y H Q => QIx (SqT K H) x y (fun v => Q v H)
theorem znF : IxR X (zpJ X.K) := by
  intro value slice pins s σ H x y v u Q I rx ry h hs; obtain ⟨p,xs,i,z,rfl,rfl,hq,he,q⟩ := h; cases rx; obtain ⟨t,rfl⟩ := ry; obtain ⟨its,r,pl,hz⟩ := I.list hq; obtain ⟨j,h1,h2,h3,h4,h5⟩ := zjV he; obtain ⟨w,ew,rw'⟩ := r.get h2; have hl := r.length; have hn := zfR; have fin : EP X pins σ Q w s := ⟨z,H,I,rw',q⟩
  by_cases h0 : 0 <= i
  . have hj : i.toNat = j := by
      rw [seqIndex_of h0 h5] at h1; exact Option.some.inj h1
    exact item_listR pl.isList h0 (by omega) (by rw [hj]; simpa using ew) fin hs
  . have hj : (i + (its.toArray.size : Int)).toNat = j := by
      rw [seqIndex_neg (by omega) h4] at h1
      rw [List.size_toArray,<- hl]; exact Option.some.inj h1
    exact subscriptTail_builtinR (x := w) pl.isList.typeIs slot_list_getitem.lookup
      (wpAny_getItem_list_neg (Q := fun r s' => r = w /\ EP X pins σ Q r s') pl.isList (by omega) (by rw [List.size_toArray] <;> omega) (by omega) (by rw [hj]; simpa using ew) ⟨rfl,fin⟩) hs
theorem zoZ : IxR X (zpD X.K) := by
  intro value slice pins s σ H x y v u Q I rx ry h hs; obtain ⟨p,xs,i,z,rfl,rfl,hq,he,q⟩ := h; cases rx; obtain ⟨t,rfl⟩ := ry; obtain ⟨its,r,pl,hz⟩ := I.tuple hq; obtain ⟨j,h1,h2,h3,h4,h5⟩ := zjV he; obtain ⟨w,ew,rw'⟩ := r.get h2; have hl := r.length; have hn := zfR; have fin : EP X pins σ Q w s := ⟨z,H,I,rw',q⟩
  exact subscriptTail_builtinR (x := w) pl.typeIs slot_tuple_getitem.lookup
    (getItem_tuple (j := j) (Q := fun r s' => r = w /\ EP X pins σ Q r s') pl (by omega) (by omega) (by rw [List.size_toArray,<- hl]; exact h1) (by simpa using ew) ⟨rfl,fin⟩) hs
theorem zjg (its : List Value) (n j : Nat) (u : Value) : Obj.mapSeq (·.setIfInBounds j u) { cls := .type "list",data := .seq its.toArray n } = { cls := .type "list",data := .seq (its.set j u).toArray n } := by
  simp [Obj.mapSeq]
theorem Inv.lst {pins : List (Addr × Obj)} {σ : St} {H : Hp} {s : Shared} {p : Addr} {xs : List V} (I : Inv X pins σ H s) (h : H p = some (.lst xs)) :
    ∃ (its : List Value) (n : Nat),Vals xs its /\ s.heap.get? p = some { cls := .type "list",data := .seq its.toArray n } /\ xs.length <= sizeLine := by
  obtain ⟨z,its,n,r,e⟩ := I.hok p _ h; exact ⟨its,n,r,e,z⟩
theorem Inv.lstUpd {pins : List (Addr × Obj)} {σ : St} {H : Hp} {s : Shared} {p : Addr} {xs ys : List V} {its its' : List Value} {n n' : Nat} {f : Obj -> Obj} (I : Inv X pins σ H s) (h : H p = some (.lst xs))
    (ho : s.heap.get? p = some { cls := .type "list",data := .seq its.toArray n }) (hf : f { cls := .type "list",data := .seq its.toArray n } = { cls := .type "list",data := .seq its'.toArray n' }) (r : Vals ys its') (hz : ys.length <= sizeLine) (t : Nat) :
    Inv X pins σ (upd H p (.lst ys)) { s with heap := s.heap.update p f,toks := t } := by
  have e : (s.heap.update p f).get? p = some { cls := .type "list",data := .seq its'.toArray n' } := by
    rw [Heap.get?_update_self f ho (by rw [hf] <;> rfl),hf]
  refine I.write (x := p) (e := p) (by rw [h]; trivial) (.inl rfl) (fun b u hb q => (Heap.get?_update_other _ _ (Ne.symm hb)).trans q) ⟨_,e⟩ ?_
  exact ⟨hz,its',n',r,e⟩
def zpG : V -> V -> V -> Hp -> (Hp -> Prop) -> Prop := fun o i v H Q => ∃ p xs k j,o = .ref p /\ i = .int k /\ H p = some (.lst xs) /\ ixN xs.length k = some j /\ Q (upd H p (.lst (xs.set j v)))
theorem zf5 : znL X zpG := by
  intro pins s σ H o i v ov iv u Q I ro ri rv h; obtain ⟨p,xs,k,j,rfl,rfl,hp,hj,q⟩ := h; cases ro; obtain ⟨t,rfl⟩ := ri; obtain ⟨its,n,r,ho,hz⟩ := I.lst hp; obtain ⟨h1,h2,h3,h4⟩ := zka hj; have hl := r.length; have hn := zfR
  have I' : Inv X pins σ (upd H p (.lst (xs.set j v))) { s with heap := s.heap.update p (Obj.mapSeq (·.setIfInBounds j u)) } :=
    I.lstUpd hp ho (zjg its n j u) (r.set rv j) (by rw [List.length_set]; exact hz) s.toks
  by_cases h0 : 0 <= k
  . have hk : k.toNat = j := by
      rw [seqIndex_of h0 h4] at h1; exact Option.some.inj h1
    exact PySem.W.ki_setAt ho h0 (by omega) (by rw [List.size_toArray,<- hl]; exact h4) (by rw [hk]; exact ⟨_,I',q⟩)
  . have hk : (k + (its.toArray.size : Int)).toNat = j := by
      rw [seqIndex_neg (by omega) h3] at h1
      rw [List.size_toArray,<- hl]; exact Option.some.inj h1
    exact PySem.W.ki_setBack ho (by omega) (by rw [List.size_toArray,<- hl]; exact h3) (by omega) (by rw [hk]; exact ⟨_,I',q⟩)
theorem zhy (lo hi : Option Int) (n : Nat) : (sliceBounds lo hi none n).1 = ((HT.sIx n 0 lo : Nat) : Int) /\ (sliceBounds lo hi none n).2.1 = ((HT.sIx n n hi : Nat) : Int) /\ (sliceBounds lo hi none n).2.2 = 1 := by
  refine ⟨?_,?_,rfl⟩
  . cases lo with
    | none => simp [sliceBounds,HT.sIx]
    | some i =>
      simp only [sliceBounds,HT.sIx,Option.getD_none,show (1 : Int) > 0 by decide,if_true]
      by_cases h : i < 0
      . simp only [h,if_true] <;> omega
      . simp only [h,if_false] <;> omega
  . cases hi with
    | none => simp [sliceBounds,HT.sIx]
    | some i =>
      simp only [sliceBounds,HT.sIx,Option.getD_none,show (1 : Int) > 0 by decide,if_true]
      by_cases h : i < 0
      . simp only [h,if_true] <;> omega
      . simp only [h,if_false] <;> omega
theorem zgo (its : List Value) (lo hi : Option Int) : slicePick its.toArray lo hi none = ((its.drop (HT.sIx its.length 0 lo)).take (HT.sIx its.length its.length hi - HT.sIx its.length 0 lo)).toArray := by
  obtain ⟨h1,h2,h3⟩ := zhy lo hi its.toArray.size; unfold slicePick; rw [h1,h2,h3]; simp only [sliceRange_one,pick_run,List.size_toArray] <;> rfl
def zp9 (K : Fg) : V -> Option Int -> Option Int -> Hp -> VK -> Prop := fun x lo hi H Q => ∃ a xs,x = .ref a /\ SqL K H a xs /\ ∀ p,H p = none -> Q (.ref p) (upd H p (.lst (zc9 xs lo hi)))
theorem znC : SlR X (zp9 X.K) := by
  intro pins s σ H x v vl vu lo hi sl Q I rx hs pl pu h; obtain ⟨a,xs,rfl,hx,q⟩ := h; cases rx; obtain ⟨its,r,ht,hz⟩ := I.list hx; have hlen := r.length; refine ⟨"list",_,slot_list_getitem.lookup,ht.isList.typeIs,?_⟩; refine wpAny_getItem_list_slice ht.isList hs pl pu .none (by simp) ?_ (by rw [List.size_toArray] <;> omega)
  rw [zgo,<- hlen]; refine ⟨.ref s.heap.objs.size,_,I.laid (t' := s.toks) (o := .lst (zc9 xs lo hi)) (fun b ob q => Heap.get?_push_of_some _ q) (Nat.le_refl _) ?_,rfl,q _ (I.hok.fresh (Nat.le_refl _))⟩; exact ⟨Nat.le_trans (zfd xs lo hi) hz,_,0,(r.drop (HT.sIx xs.length 0 lo)).take (HT.sIx xs.length xs.length hi - HT.sIx xs.length 0 lo),Heap.get?_push_size _ rfl⟩
def zef : V -> Bool
  | .non => true
  | .bl _ => true
  | .int _ => true
  | .str _ => true
  | _ => false
def eqV : V -> V -> Bool
  | .non,.non => true
  | .bl a,.bl b => a == b
  | .bl a,.int b => (if a then 1 else 0) == b
  | .int a,.bl b => a == (if b then 1 else 0)
  | .int a,.int b => a == b
  | .str a,.str b => a == b
  | _,_ => false
theorem zog {A : Around} {s : Shared} {y x : V} {u v : Value} (ry : RelV y u) (rx : RelV x v) (fy : zef y = true) (fx : zef x = true) : SeqAt.EqAt A s u v (eqV y x) := by
  cases y with
  | non =>
    cases ry
    cases x with
    | non => cases rx; exact SeqAt.EqAt.same _
    | bl b => cases rx; exact SeqAt.EqAt.none_bool b
    | int b => obtain ⟨t,rfl⟩ := rx; exact SeqAt.EqAt.none_int b t
    | str b => obtain ⟨t,rfl⟩ := rx; exact SeqAt.EqAt.none_str b t
    | _ => exact absurd (show false = true from fx) fnt
  | bl a =>
    cases ry
    cases x with
    | non => cases rx; exact SeqAt.EqAt.bool_none a
    | bl b => cases rx; exact SeqAt.EqAt.bool_bool a b
    | int b => obtain ⟨t,rfl⟩ := rx; exact SeqAt.EqAt.bool_int a b t
    | str b => obtain ⟨t,rfl⟩ := rx; exact SeqAt.EqAt.bool_str a b t
    | _ => exact absurd (show false = true from fx) fnt
  | int a =>
    obtain ⟨t',rfl⟩ := ry
    cases x with
    | non => cases rx; exact SeqAt.EqAt.int_none a t'
    | bl b => cases rx; exact SeqAt.EqAt.int_bool a t' b
    | int b => obtain ⟨t,rfl⟩ := rx; exact SeqAt.EqAt.int_int a t' b t
    | str b => obtain ⟨t,rfl⟩ := rx; exact SeqAt.EqAt.int_str a t' b t
    | _ => exact absurd (show false = true from fx) fnt
  | str a =>
    obtain ⟨t',rfl⟩ := ry
    cases x with
    | non => cases rx; exact SeqAt.EqAt.str_none a t'
    | bl b => cases rx; exact SeqAt.EqAt.str_bool a t' b
    | int b => obtain ⟨t,rfl⟩ := rx; exact SeqAt.EqAt.str_int a t' b t
    | str b => obtain ⟨t,rfl⟩ := rx; exact SeqAt.EqAt.str_str a t' b t
    | _ => exact absurd (show false = true from fx) fnt
  | _ => exact absurd (show false = true from fy) fnt
def eqU (x : V) (u : Value) : Bool := match u with
  | .none => eqV .non x
  | .bool b => eqV (.bl b) x
  | .int i _ => eqV (.int i) x
  | .str z _ => eqV (.str z) x
  | _ => false
theorem zmF {x y : V} {u : Value} (r : RelV y u) (f : zef y = true) : eqU x u = eqV y x := by
  cases y with
  | non => cases r; rfl
  | bl b => cases r; rfl
  | int i => obtain ⟨t,rfl⟩ := r; rfl
  | str z => obtain ⟨t,rfl⟩ := r; rfl
  | _ => exact absurd (show false = true from f) fnt
theorem zej {x : V} : ∀ {xs : List V} {us : List Value},Vals xs us -> xs.all zef = true -> us.any (eqU x) = xs.any fun y => eqV y x
  | _,_,.nil,_ => rfl
  | y :: xs,u :: us,.cons r t,f => by
    rw [List.all_cons,Bool.and_eq_true] at f; rw [List.any_cons,List.any_cons,zmF r f.1,zej t f.2]
theorem zdd {A : Around} {s : Shared} {x : V} {v : Value} (rx : RelV x v) (fx : zef x = true) : ∀ {xs : List V} {us : List Value},Vals xs us -> xs.all zef = true -> ∀ u ∈ us,SeqAt.EqAt A s u v (eqU x u)
  | _,_,.nil,_ => fun u hu => by cases hu
  | y :: xs,u :: us,.cons r t,f => fun u' hu => by
    rw [List.all_cons,Bool.and_eq_true] at f
    rcases List.mem_cons.mp hu with rfl | hu
    . rw [zmF r f.1]; exact zog r rx f.1 fx
    . exact zdd rx fx t f.2 u' hu
def inV (x : V) (xs : List V) : Bool := xs.any fun y => eqV y x
def rIn (K : Fg) (neg : Bool) : R2 := fun x y H Q => ∃ p xs,y = .ref p /\ (SqL K H p xs \/ SqT K H p xs) /\ zef x = true /\ xs.all zef = true /\ Q (.bl (if neg then !inV x xs else inV x xs)) H
theorem zk6 : OpR X (compareOp .In) (rIn X.K false) := by
  intro pins s σ H x y v u Q I rx ry h; obtain ⟨p,xs,rfl,hq,fx,fs,q⟩ := h; cases ry
  rcases hq with hq | hq
  . obtain ⟨its,r,pl,hz⟩ := I.list hq; refine SeqAt.in_listAt (eqU x) pl.isList (fun w hw => zdd rx fx r fs w (by simpa using hw)) ⟨.bl _,H,I,rfl,?_⟩
    rw [show its.toArray.any (eqU x) = its.any (eqU x) by simp,zej r fs]
    exact q
  . obtain ⟨its,r,pl,hz⟩ := I.tuple hq; refine SeqAt.in_tupleAt (eqU x) pl (fun w hw => zdd rx fx r fs w (by simpa using hw)) ⟨.bl _,H,I,rfl,?_⟩
    rw [show its.toArray.any (eqU x) = its.any (eqU x) by simp,zej r fs]
    exact q
theorem zhN : OpR X (compareOp .NotIn) (rIn X.K true) := by
  intro pins s σ H x y v u Q I rx ry h; obtain ⟨p,xs,rfl,hq,fx,fs,q⟩ := h; cases ry
  rcases hq with hq | hq
  . obtain ⟨its,r,pl,hz⟩ := I.list hq; refine SeqAt.notIn_listAt (eqU x) pl.isList (fun w hw => zdd rx fx r fs w (by simpa using hw)) ⟨.bl _,H,I,rfl,?_⟩
    rw [show its.toArray.any (eqU x) = its.any (eqU x) by simp,zej r fs]
    exact q
  . obtain ⟨its,r,pl,hz⟩ := I.tuple hq; refine SeqAt.notIn_tupleAt (eqU x) pl (fun w hw => zdd rx fx r fs w (by simpa using hw)) ⟨.bl _,H,I,rfl,?_⟩
    rw [show its.toArray.any (eqU x) = its.any (eqU x) by simp,zej r fs]
    exact q
inductive zoy (K : Fg) (xs : List V) (H : Hp) (Q : VK) : Prop
  | mk (p ys : _) : (xs = [.ref p]) -> ((SqL K H p ys \/ SqT K H p ys)) -> (Q (.int ys.length) H) -> zoy K xs H Q
theorem zhv : zbH X (.builtin "len") (zoy X.K) := by
  intro pins s σ H xs us Q I r h; obtain ⟨p,ys,rfl,hq,q⟩ := h; obtain ⟨u,rfl,rx⟩ := zc4 r; cases rx; have hn := zfR
  rcases hq with hq | hq
  . obtain ⟨its,r',pl,hz⟩ := I.list hq; have hlen := r'.length; exact Calls.call_len_list pl.isList (by simp only [List.size_toArray] <;> omega) ⟨.int ys.length,H,I.tok _,⟨s.toks + 1,by rw [List.size_toArray,hlen]⟩,q⟩
  . obtain ⟨its,r',pl,hz⟩ := I.tuple hq; have hlen := r'.length; exact len_tuple pl (by simp only [List.size_toArray] <;> omega) ⟨.int ys.length,H,I.tok _,⟨s.toks + 1,by rw [List.size_toArray,hlen]⟩,q⟩
inductive zob (K : Fg) (xs : List V) (H : Hp) (Q : VK) : Prop
  | mk (p ys : _) : (xs = [.ref p]) -> ((SqL K H p ys \/ SqT K H p ys)) -> (∀ l,H l = none -> Q (.ref l) (upd H l (.lst ys))) -> zob K xs H Q
theorem zhM : zbH X (.type "list") (zob X.K) := by
  intro pins s σ H xs us Q I r h; obtain ⟨p,ys,rfl,hq,q⟩ := h; obtain ⟨u,rfl,rx⟩ := zc4 r; cases rx
  have fin : ∀ (its : List Value),Vals ys its -> ys.length <= sizeLine -> ∀ (h' : Heap) (c' : Nat),(∀ b o',s.heap.get? b = some o' -> h'.get? b = some o') →
      h'.get? s.heap.objs.size = some { cls := .type "list",dict := none,data := .seq its.toArray c',slots := #[] } -> EP X pins σ Q (.ref s.heap.objs.size) { s with heap := h' } := fun its r' hz h' c' kp e =>
    ⟨.ref s.heap.objs.size,_,I.laid (t' := s.toks) kp (Nat.le_refl _) (show ObjOk X.prog X.w _ h' _ (.lst ys) from ⟨hz,its,c',r',e⟩),rfl,q _ (I.hok.fresh (Nat.le_refl _))⟩
  rcases hq with hq | hq
  . obtain ⟨its,r',pl,hz⟩ := I.list hq; have hlen := r'.length; obtain ⟨o,ho,hc,n,hd⟩ := pl.isList; exact call_list_seq p (.inl rfl) ho hc hd (fun h' c' kp e => fin its r' hz h' c' kp e) (by simp only [List.size_toArray] <;> omega)
  . obtain ⟨its,r',pl,hz⟩ := I.tuple hq; have hlen := r'.length; obtain ⟨o,ho,hc,n,hd⟩ := pl; exact call_list_seq p (.inr rfl) ho hc hd (fun h' c' kp e => fin its r' hz h' c' kp e) (by simp only [List.size_toArray] <;> omega)
inductive zp4 (K : Fg) (xs : List V) (H : Hp) (Q : VK) : Prop
  | mk (p ys : _) : (xs = [.ref p]) -> (((SqL K H p ys /\ ∀ l,H l = none -> Q (.ref l) (upd H l (.tup ys))) \/ (SqT K H p ys /\ Q (.ref p) H))) -> zp4 K xs H Q
theorem zbq : zbH X (.type "tuple") (zp4 X.K) := by
  intro pins s σ H xs us Q I r h; obtain ⟨p,ys,rfl,h⟩ := h; obtain ⟨u,rfl,rx⟩ := zc4 r; cases rx
  rcases h with ⟨hq,q⟩ | ⟨hq,q⟩
  . obtain ⟨its,r',pl,hz⟩ := I.list hq; have hlen := r'.length; refine call_tuple_list pl.isList (fun h' kp => ?_) (by simp only [List.size_toArray] <;> omega)
    have I1 : Inv X pins σ H { s with heap := h' } := I.kept (t' := s.toks) kp
    have I2 : Inv X pins σ (upd H h'.objs.size (.tup ys)) { s with heap := h'.push { cls := .type "tuple",data := .seq its.toArray } } :=
      I1.laid (t' := s.toks) (fun b o e => Heap.get?_push_of_some _ e) (Nat.le_refl _) (show ObjOk X.prog X.w _ _ _ (.tup ys) from ⟨hz,its,r',IsTup.new _ _⟩)
    exact ⟨.ref h'.objs.size,_,I2,rfl,q _ (I1.hok.fresh (Nat.le_refl _))⟩
  . obtain ⟨its,r',pl,hz⟩ := I.tuple hq; exact call_tuple_same pl ⟨.ref p,H,I,rfl,q⟩
def tyV (K : Fg) (T : String) (x : V) (H : Hp) : Prop := match x with
  | .str _ => T = "str"
  | .int _ => T = "int"
  | .ref p => (T = "list" /\ ∃ xs,SqL K H p xs) \/ (T = "tuple" /\ ∃ o,K.lookup p = some o /\ o.cls = .type "tuple" /\ o.dict = none) ∨
      (T = "dict" /\ ((∃ kvs,H p = some (.dK kvs)) \/ ∃ kvs,H p = some (.dT kvs))) \/ (T = "set" /\ ∃ S n,H p = some (.set S n))
  | _ => False
theorem zlB {pins : List (Addr × Obj)} {σ : St} {H : Hp} {s : Shared} {T : String} {x : V} {v : Value} (I : Inv X pins σ H s) (r : RelV x v) (ty : tyV X.K T x H) :
    s.TypeIs v T /\ ∀ a,v = .ref a -> ∃ ob,s.heap.get? a = some ob /\ ob.dict = none := by
  cases x with
  | str z =>
    obtain ⟨t,rfl⟩ := r
    cases (show T = "str" from ty)
    exact ⟨typeIs_str s z t,fun _ e => nomatch e⟩
  | int i =>
    obtain ⟨t,rfl⟩ := r
    cases (show T = "int" from ty)
    exact ⟨typeIs_int s i t,fun _ e => nomatch e⟩
  | ref p =>
    cases r
    rcases ty with ⟨rfl,xs,hq⟩ | ⟨rfl,o,hk,hc,hd⟩ | ⟨rfl,hk⟩ | ⟨rfl,S,n,hk⟩
    . obtain ⟨its,_,pl,_⟩ := I.list hq; refine ⟨pl.isList.typeIs,fun a e => ?_⟩; cases e; obtain ⟨o,n,e,c,hd,_⟩ := pl; exact ⟨o,e,hd⟩
    . refine ⟨⟨o,I.kIn p o hk,hc⟩,fun a e => ?_⟩; cases e; exact ⟨o,I.kIn _ o hk,hd⟩
    . have z : ∃ o,s.heap.get? p = some o /\ o.ExactDict := by
        rcases hk with ⟨kvs,hk⟩ | ⟨kvs,hk⟩
        . obtain ⟨_,_,_,_,o,_,_,e,ex,_⟩ := I.hok p _ hk; exact ⟨o,e,ex⟩
        . obtain ⟨_,_,_,_,o,_,_,e,ex,_⟩ := I.hok p _ hk; exact ⟨o,e,ex⟩
      obtain ⟨o,e,ex⟩ := z; refine ⟨⟨o,e,ex.1⟩,fun a e2 => ?_⟩; cases e2; exact ⟨o,e,ex.2.1⟩
    . obtain ⟨o,_,_,_,e,ex,_⟩ := I.hok p _ hk; refine ⟨⟨o,e,ex.1⟩,fun a e2 => ?_⟩; cases e2; exact ⟨o,e,ex.2.1⟩
  | _ => exact False.elim ty
def zqs (K : Fg) (T : String) (r : V -> List V -> Hp -> VK -> Prop) (to : TE) : TE := fun σ H Q => to σ H fun x H1 => tyV K T x H1 /\ r x [] H1 Q
def tBM (K : Fg) (T : String) (r : V -> List V -> Hp -> VK -> Prop) (to : TE) (t : TA) : TE := fun σ H Q => to σ H fun x H1 => tyV K T x H1 /\ t σ H1 fun xs H2 => r x xs H2 Q
variable {o e : Expr} {es : List Expr} {to : TE} {t : TA} {name : Str} {apos cpos : Pos} {T id : String} {r : V -> List V -> Hp -> VK -> Prop}
theorem zoj (pa : PlainAttrs T) (slot : Slot T name id) (hty : typeOf (.builtin id) = pure (.type "method_descriptor")) (hm : MtR X id r) (ho : PE X o to)
    (hbase : attributeBase o name X.env (eval o X.env) = eval o X.env := by rfl) (hline : (apos.endLine == cpos.line) = true := by rfl) : PE X (.Call (.Attribute o name apos) [] [] cpos) (zqs X.K T r to) := by
  intro pins s σ H Q I h; refine wpAny_Call_method0_late hbase hline (thn (ho pins s σ H _ I h) fun v s1 ⟨x,H1,I1,r1,ty,q1⟩ => ?_); obtain ⟨h1,h2⟩ := zlB I1 r1 ty; exact ⟨T,id,pa,slot,hty,h1,h2,Calls.callWith_builtin rfl (PySem.evalArgs_none (hm pins s1 σ H1 x [] v [] Q I1 r1 .nil q1))⟩
theorem zpR (pa : PlainAttrs T) (slot : Slot T name id) (hty : typeOf (.builtin id) = pure (.type "method_descriptor")) (hm : MtR X id r) (ho : PE X o to) (ha : PA X (e :: es) t)
    (hbase : attributeBase o name X.env (eval o X.env) = eval o X.env := by rfl)
    (hfew : ((backTo cpos (starEach (e :: es) X.env)).all (fun x => !x.1) && (backToKw cpos (keywordEach [] X.env)).all (fun x => x.1.isSome)
      && decide ((e :: es).length + ([] : List Keyword).length + (if ([] : List Keyword).isEmpty then 0 else 1) < 30)) = true := by rfl)
    (hline : (apos.endLine == cpos.line) = true := by rfl) (hs : starEach (e :: es) X.env = (false,eval e X.env) :: starEach es X.env := by rfl) (hplain : (backTo cpos (starEach es X.env)).any (·.1) = false := by rfl) :
    PE X (.Call (.Attribute o name apos) (e :: es) [] cpos) (tBM X.K T r to t) := by
  intro pins s σ H Q I h; refine wpAny_Call_method_late hbase hfew hline rfl (thn (ho pins s σ H _ I h) fun v s1 ⟨x,H1,I1,r1,ty,q1⟩ => ?_); obtain ⟨h1,h2⟩ := zlB I1 r1 ty; refine ⟨T,id,pa,slot,hty,h1,h2,?_⟩; have hA := ha cpos pins s1 σ H1 _ I1 q1; rw [hs] at hA ⊢; refine Calls.callWith_builtin (by show (false || (backTo cpos (starEach es X.env)).any (·.1)) = false; rw [hplain] <;> rfl) (Calls.evalArgs_plain ?_)
  exact thn hA fun us s2 ⟨vs,H2,I2,r2,q2⟩ => hm pins s2 σ H2 x vs v us Q I2 r1 r2 q2
end
def MtM (X : Cx) (id : String) (r : V -> List V -> Hp -> VK -> Prop) : Prop :=
  ∀ (pins : List (Addr × Obj)) (s : Shared) (σ : St) (H : Hp) (x : V) (xs : List V) (v : Value) (us : List Value) (Q : VK),Inv X pins σ H s -> RelV x v -> Vals xs us -> r x xs H Q →
    wpAny (model X.prog X.w) X.A (call (.builtin id) (v :: us)) (EP X pins σ Q) X.xe s
theorem Vals.one : ∀ {x : V} {us : List Value},Vals [x] us -> ∃ u,us = [u] /\ RelV x u
  | _,_,.cons r .nil => ⟨_,rfl,r⟩
theorem Vals.two {x y : V} {us : List Value} (h : Vals [x,y] us) : ∃ u v,us = [u,v] /\ RelV x u /\ RelV y v := by
  cases h with
  | cons r t =>
    cases t with
    | cons q t => cases t; exact ⟨_,_,rfl,r,q⟩
theorem Vals.zero : ∀ {us : List Value},Vals [] us -> us = []
  | _,.nil => rfl
theorem Vals.dropLast {xs : List V} {us : List Value} (h : Vals xs us) : Vals xs.dropLast us.dropLast := by
  induction h with
  | nil => exact .nil
  | cons r t ih =>
    cases t with
    | nil => exact .nil
    | cons q t' => exact .cons r ih
theorem Vals.eraseIdx : ∀ {xs : List V} {us : List Value} (i : Nat),Vals xs us -> Vals (xs.eraseIdx i) (us.eraseIdx i)
  | _,_,_,.nil => .nil
  | _,_,0,.cons _ t => t
  | _,_,i + 1,.cons r t => .cons r (Vals.eraseIdx i t)
theorem Vals.rep {xs : List V} {us : List Value} (h : Vals xs us) : ∀ k : Nat,Vals (List.replicate k xs).flatten (List.replicate k us).flatten
  | 0 => .nil
  | k + 1 => by
    rw [List.replicate_succ,List.replicate_succ,List.flatten_cons,List.flatten_cons]; exact Vals.append h (Vals.rep h k)
theorem zjF {α : Type} (l : List α) : l.eraseIdx (l.length - 1) = l.dropLast := by
  induction l with
  | nil => rfl
  | cons a r ih =>
    cases r with
    | nil => rfl
    | cons b r =>
      have e : (a :: b :: r).length - 1 = ((b :: r).length - 1) + 1 := by
        have h1 : (a :: b :: r).length = r.length + 2 := rfl; have h2 : (b :: r).length = r.length + 1 := rfl; omega
      rw [e,List.eraseIdx_cons_succ,ih]
      all_goals rfl
theorem zhg {α : Type} : ∀ (l : List α) (i : Nat),(l.eraseIdx i).length <= l.length
  | [],_ => Nat.le_refl _
  | _ :: _,0 => Nat.le_succ _
  | _ :: r,i + 1 => Nat.succ_le_succ (zhg r i)
theorem zg3 (its : List Value) : ∀ (k : Nat) (acc : List Value),
    List.foldl (fun x1 x2 => x1 ++ x2) acc.toArray (List.replicate k its.toArray) = (acc ++ (List.replicate k its).flatten).toArray
  | 0,acc => by simp
  | k + 1,acc => by
    have e : acc.toArray ++ its.toArray = (acc ++ its).toArray := by simp
    have e2 : (acc ++ its) ++ (List.replicate k its).flatten = acc ++ (List.replicate (k + 1) its).flatten := by
      rw [List.replicate_succ,List.flatten_cons,List.append_assoc]
    rw [<- e2,<- zg3 its k (acc ++ its),<- e,List.replicate_succ,List.foldl_cons]
section
variable {X : Cx} {pins : List (Addr × Obj)} {σ : St} {H : Hp} {s : Shared} {l b : Addr} {xs ys zs : List V}
theorem Inv.lset {its its' : List Value} {n : Nat} {f : Array Value -> Array Value} {t' : Nat} (I : Inv X pins σ H s) (hH : H l = some (.lst xs))
    (e : s.heap.get? l = some { cls := .type "list",data := .seq its.toArray n }) (hf : f its.toArray = its'.toArray) (hv : Vals ys its') (hz : ys.length <= sizeLine) :
    Inv X pins σ (upd H l (.lst ys)) { s with heap := s.heap.update l (Obj.mapSeq f),toks := t' } := by
  have q := PySem.IsL.update e f; rw [hf] at q; refine I.write (x := l) (e := l) (by rw [hH]; exact trivial) (.inl rfl) (fun b' u hb hu => (Heap.get?_update_other s.heap (Obj.mapSeq f) (Ne.symm hb)).trans hu) ⟨_,q⟩ ?_
  exact ⟨hz,its',_,hv,q⟩
theorem Inv.lnew {its : List Value} {t' : Nat} (I : Inv X pins σ H s) (hv : Vals ys its) (hz : ys.length <= sizeLine) :
    Inv X pins σ (upd H s.heap.objs.size (.lst ys)) { s with heap := s.heap.push { cls := .type "list",data := .seq its.toArray },toks := t' } :=
  I.laid (fun _ _ q => Heap.get?_push_of_some _ q) (Nat.le_refl _) ⟨hz,its,0,hv,Heap.get?_push_size _ rfl⟩
theorem Inv.fresh (I : Inv X pins σ H s) : H s.heap.objs.size = none := I.hok.fresh (Nat.le_refl _)
theorem Inv.lstM (I : Inv X pins σ H s) (hH : H l = some (.lst xs)) : xs.length <= sizeLine /\ ∃ (its : List Value) (n : Nat),Vals xs its /\ xs.length = its.length /\ s.heap.get? l = some { cls := .type "list",data := .seq its.toArray n } := by
  obtain ⟨z,its,n,r,e⟩ := I.hok l _ hH; exact ⟨z,its,n,r,r.length,e⟩
theorem zik {n : Nat} (h : n <= sizeLine) : Builtin.List.listTooLong n = false := by
  unfold Builtin.List.listTooLong; exact decide_eq_false (by omega)
end
section
variable {X : Cx}
def zm9 : V -> List V -> Hp -> VK -> Prop := fun x vs H Q => ∃ l xs y,x = .ref l /\ vs = [y] /\ H l = some (.lst xs) /\ xs.length < sizeLine /\ Q .non (upd H l (.lst (xs ++ [y])))
theorem zb4 : MtM X "list.append" zm9 := by
  intro pins s σ H x vs v us Q I rx rv h; obtain ⟨l,xs,y,rfl,rfl,hH,hz,q⟩ := h; cases rx; obtain ⟨u,rfl,ru⟩ := rv.one; obtain ⟨z,its,n,r,hl,e⟩ := I.lstM hH; refine call_meets F.slot_list_append ⟨_,e,rfl⟩ F.entry_list_append (F.args_list_append_2 _ _) (PySem.list_append l its.toArray n u (by rw [List.size_toArray]; omega)) ⟨e,?_⟩
  refine ⟨.non,_,I.lset (its' := its ++ [u]) hH e (by simp) (r.append (.cons ru .nil)) ?_,rfl,q⟩
  rw [List.length_append,List.length_singleton]; omega
def zm7 : V -> List V -> Hp -> VK -> Prop := fun x vs H Q => ∃ l b xs zs,x = .ref l /\ vs = [.ref b] /\ H l = some (.lst xs) /\ H b = some (.lst zs) /\ xs.length + zs.length <= sizeLine /\ Q .non (upd H l (.lst (xs ++ zs)))
theorem ze1 : MtM X "list.extend" zm7 := by
  intro pins s σ H x vs v us Q I rx rv h; obtain ⟨l,b,xs,zs,rfl,rfl,hH,hB,hz,q⟩ := h; cases rx; obtain ⟨u,rfl,ru⟩ := rv.one; cases ru; obtain ⟨z,its,n,r,hl,e⟩ := I.lstM hH; obtain ⟨z2,its2,n2,r2,hl2,e2⟩ := I.lstM hB; have hsz : its.toArray.size + its2.toArray.size <= sizeLine := by rw [List.size_toArray,List.size_toArray]; omega
  have hlong : ¬ (!its.toArray.isEmpty && Builtin.List.listTooLong (its.toArray.size + its2.toArray.size)) = true := by
    rw [zik hsz,Bool.and_false]; exact fnt
  refine call_meets F.slot_list_extend ⟨_,e,rfl⟩ F.entry_list_extend (F.args_list_extend_2 _ _)
    (AutoSeq1.list_extend_list_list_0 l its.toArray n b its2.toArray n2 hlong (by rw [List.size_toArray]; omega) (by omega)) ⟨e,e2,?_⟩
  refine ⟨.non,_,I.lset (its' := its ++ its2) hH e (by simp) (r.append r2) ?_,rfl,q⟩
  rw [List.length_append]; omega
def zqF : V -> List V -> Hp -> VK -> Prop := fun x vs H Q => ∃ l xs y,x = .ref l /\ vs = [] /\ H l = some (.lst xs) /\ xs[xs.length - 1]? = some y /\ Q y (upd H l (.lst xs.dropLast))
theorem zn8 : MtM X "list.pop" zqF := by
  intro pins s σ H x vs v us Q I rx rv h; obtain ⟨l,xs,y,rfl,rfl,hH,hy,q⟩ := h; cases rx; have hus := rv.zero; subst hus; obtain ⟨z,its,n,r,hl,e⟩ := I.lstM hH; obtain ⟨u,hu,ru⟩ := r.get hy
  have hy' : its.toArray[its.toArray.size - 1]? = some u := by
    show its.toArray[its.length - 1]? = some u; rw [<- Array.getElem?_toList,<- hl]; exact hu
  refine call_meets F.slot_list_pop ⟨_,e,rfl⟩ F.entry_list_pop (F.args_list_pop_1 _) (MeetsSeq.list_pop_last l its.toArray n u hy' (by rw [List.size_toArray]; omega)) ⟨e,?_⟩
  refine ⟨y,_,I.lset (its' := its.dropLast) hH e ?_ r.dropLast ?_,ru,q⟩
  . show its.toArray.eraseIdxIfInBounds (its.toArray.size - 1) = its.dropLast.toArray; rw [List.size_toArray,List.eraseIdxIfInBounds_toArray,zjF]
  . rw [List.length_dropLast]; omega
def zql : R2 := fun x y H Q => ∃ l b xs zs,x = .ref l /\ y = .ref b /\ H l = some (.lst xs) /\ H b = some (.lst zs) /\ xs.length + zs.length <= sizeLine /\ ∀ p,H p = none -> Q (.ref p) (upd H p (.lst (xs ++ zs)))
theorem zjd : OpR X (binaryOp .Add) zql := by
  intro pins s σ H x y v u Q I rx ry h; obtain ⟨l,b,xs,zs,rfl,rfl,hH,hB,hz,q⟩ := h; cases rx; cases ry; obtain ⟨z,its,n,r,hl,e⟩ := I.lstM hH; obtain ⟨z2,its2,n2,r2,hl2,e2⟩ := I.lstM hB; refine PySem.P.add_list e e2 ?_ (by rw [List.size_toArray,List.size_toArray]; omega)
  have ea : its.toArray ++ its2.toArray = (its ++ its2).toArray := by simp
  rw [ea]; exact ⟨.ref _,_,I.lnew (t' := s.toks) (r.append r2) (by rw [List.length_append]; omega),rfl,q _ I.fresh⟩
def zqn : R2 := fun x y H Q => ∃ l k xs,x = .ref l /\ y = .int k /\ H l = some (.lst xs) /\ -(2 ^ 63) <= k /\ k < 2 ^ 63 /\ xs.length * k.toNat <= sizeLine ∧
  ∀ p,H p = none -> Q (.ref p) (upd H p (.lst (List.replicate k.toNat xs).flatten))
theorem znA {α : Type} (xs : List α) (k : Nat) : (List.replicate k xs).flatten.length = k * xs.length := by
  induction k with
  | zero => simp
  | succ k ih => rw [List.replicate_succ,List.flatten_cons,List.length_append,ih,Nat.succ_mul,Nat.add_comm]
theorem zmL : OpR X (binaryOp .Mult) zqn := by
  intro pins s σ H x y v u Q I rx ry h; obtain ⟨l,k,xs,rfl,rfl,hH,h1,h2,hz,q⟩ := h; cases rx; obtain ⟨t,rfl⟩ := ry; obtain ⟨z,its,n,r,hl,e⟩ := I.lstM hH; have hlen : its.toArray.size * k.toNat <= sizeLine := by rw [List.size_toArray,<- hl]; exact hz
  have hcap : ¬ its.toArray.size * k.toNat > (2 ^ 63 - 1) / 8 := by
    have : (sizeLine : Nat) <= (2 ^ 63 - 1) / 8 := by decide
    omega
  have hfit : ¬ (!Builtin.List.listFitsIndex k) = true := by
    rw [fitsIndex_both h1 h2]; exact fnt
  have hlong : ¬ Builtin.List.listTooLong (its.toArray.size * k.toNat) = true := by
    rw [zik hlen]; exact fnt
  have hnew : List.foldl (fun x1 x2 => x1 ++ x2) #[] (List.replicate (if its.toArray.isEmpty = true then 0 else k.toNat) its.toArray) = (List.replicate k.toNat its).flatten.toArray := by
    have f0 : ∀ m : Nat,List.foldl (fun x1 x2 => x1 ++ x2) #[] (List.replicate m its.toArray) = (List.replicate m its).flatten.toArray := fun m => by
      have := zg3 its m []; rw [List.nil_append] at this; exact this
    rw [f0]
    cases its with
    | nil => simp
    | cons a r' => rw [if_neg (by simp)]
  refine wpAny_binaryOp_repeat_ref (T := "list") (U := "int") (by decide) ⟨_,e,rfl⟩ (fun s' => typeIs_int s' k t) noFill_list_mul F.fills_int_mul F.slot_int_rmul repeat_list F.slot_int_index.lookup
    (call_meets F.slot_int_rmul (typeIs_int s k t) F.entry_int_rmul (F.args_int_rmul_2 _ _) (int___rmul___int_list k t l its.toArray n)
      ⟨e,rfl,⟨_,e,rfl⟩,call_meets F.slot_list_mul ⟨_,e,rfl⟩ F.entry_list_mul (F.args_list_mul_2 _ _) (AutoListH.list___mul___list_int_3 l its.toArray n k t hfit hcap hlong) ⟨e,?_⟩⟩)
  rw [hnew]; exact ⟨.ref _,_,I.lnew (t' := s.toks) (r.rep k.toNat) (by rw [znA,Nat.mul_comm]; exact hz),rfl,q _ I.fresh⟩
end
section
variable {prog : Program} {w : World} {A : Around} {E : Value -> Shared -> Prop} {s : Shared}
set_option maxRecDepth 100000 in
end
section
variable {X : Cx}
end
end L2
namespace Att
open PySem PySem.W PySem.Calls PyProof.Rows
theorem zfk {P : Params} {h : Heap} : ∀ (ns : List Int) (vs : List Value),WellAll P h vs (ns.map WData.int) -> IntsAre vs ns := by
  intro ns
  induction ns with
  | nil =>
    intro vs w; rw [List.map_nil] at w; cases w; exact .nil
  | cons n ns ih =>
    intro vs w; rw [List.map_cons] at w
    cases w with
    | cons a b =>
      cases a; exact .cons _ _ (ih _ b)
theorem zlh {l : OpenLaw} {n : Nat} (hn : l.most = some n) {P : Params} {h : Heap} {args : List WData} {vals : List Value}
    (hpre : l.row.toRowW.claim.pre args = true) (hwl : WellAll P h vals args) :
    ∃ a vs ns,vals = [Value.ref a] /\ args = [WData.list (ns.map WData.int)] /\ h.get? a = some { cls := .type "list",data := .seq vs.toArray } /\ IntsAre vs ns /\ ns.length <= n := by
  have hsh : WShape.hasAll [] args [.list .int] = true := (pre_splitW hpre).1; have hc : l.pre.holds [] { args := args } = true := (pre_splitW hpre).2; obtain ⟨d,r,rfl,h1,h2⟩ := hasAllW_cons hsh; obtain rfl := hasAllW_nil h2; obtain ⟨xs,rfl,h3⟩ := hasW_list h1; obtain ⟨ns,rfl⟩ := items_int h3
  have hlen : ns.length <= n := by
    unfold OpenLaw.pre at hc
    have h4 : (WTm.not (.lt (.lit (.int (n : Int))) (.len (.arg 0)))).holds [] { args := [.list (ns.map .int)] } = true := by
      have h4 := (holds_andW hc).1; rw [hn] at h4; exact h4
    have h5 := condW_of h4 (w_not (w_lt w_lit (w_len_list (w_arg rfl)))); rw [List.length_map] at h5; refine Nat.le_of_not_lt fun q => ?_; have q' : (n : Int) < ((ns.length : Nat) : Int) := by omega
    first
      | (rw [decide_eq_true q'] at h5; exact absurd h5 (by decide))
      | (simp at h5; omega)
  cases hwl with
  | cons w1 w2 =>
    cases w2
    cases w1 with
    | list ho hall => exact ⟨_,_,ns,rfl,rfl,ho,zfk ns _ hall,hlen⟩
theorem zlb (l : OpenLaw) (args : List WData) : l.row.toRowW.claim.post args (.bool true) args = true :=
  postW_of (r := l.row.toRowW) (X := (true == true))
    (show WShape.has [] (.bool true) .bool = true by first | rfl | decide | simp [WShape.has,WShape.arms,WShape.armsAll])
    (show (WTm.eq .res (.lit (.bool true))).value [] { args := args,res := some (.bool true),after := args } = some (.bool (true == true)) from w_eq_bool (w_res rfl) w_lit) rfl
theorem attach_call {l : OpenLaw} {n : Nat} {q : Program} {loose : List Str} {XP : (Str -> Option Value) -> Heap -> Prop} {YP : World -> Heap -> Prop} {d : DefRec}
    (hn : l.most = some n) (hdf : d.params.defaults = [])
    (call : ∀ (w : World) (s₀ s₁ : Shared) (mg mb : Str -> Option Value) (fa : Addr) (o : Obj) (pm cd doc : Value) (a : Addr) (vs : List Value) (ns : List Int),
      Ground q loose [] XP w s₀ mg mb s₁.heap -> YP w s₁.heap →
      s₁.heap.get? fa = some o -> o.data = .func (docDef d.name d.params d.body d.scope pm cd doc) -> s₁.heap.CodeRec cd d.name -> mg d.name = some (.ref fa) →
      s₁.heap.get? a = some { cls := .type "list",data := .seq vs.toArray } -> IntsAre vs ns -> ns.length <= n -> s₁.gens = #[] →
      codeAny (model l.prog w) callerA (.call (.ref fa) ⟨[.ref a],[]⟩) (fun r s' => r = .ok (.ret (.bool true)) /\ OldK s₁.heap s'.heap /\ s'.os = s₁.os /\ AllBare s'.gens) s₁) :
    WalkO q loose XP YP l.row.toRowW d [] (fun f vs => PySem.call f vs) := by
  intro w s₀ s₁ mg mb G Y fa o pm cd doc dV kV ho hd hcd hD hmg hg args vals as hpre hlay hrd hwl hlo; obtain rfl : dV = .none := Dflts.none hD hdf; obtain rfl : kV = .none := Dflts.noKw hD; obtain ⟨a,vs,ns,rfl,rfl,hobj,hints,hlen⟩ := zlh hn hpre hwl; refine enter_call (codeAny_mono (call w s₀ s₁ mg mb fa o pm cd doc a vs ns G Y ho (fd_plain hd) hcd hmg hobj hints hlen hg) fun r s' hq => ?_); obtain ⟨rfl,h2,h3,h4⟩ := hq; exact ⟨.inl ⟨.bool true,.bool true,[],rfl,fun _ => rfl,.bool true,zlb l _,fun _ => ⟨List.Pairwise.nil,fun _ hm => (nomatch hm)⟩⟩,h2,h3,h4⟩
section
variable {prog : Program} {w : World} {A : Around} {E : Value -> Shared -> Prop} {s : Shared} {K : Frag}
end
end Att
namespace L2
open PySem PySem.Spec PyProof.Rows
theorem zdH : ∀ {vs : List Value} {ns : List Int},IntsAre vs ns -> Vals (ns.map V.int) vs
  | _,_,.nil => .nil
  | _,_,.cons n t h => .cons ⟨t,rfl⟩ (zdH h)
def za1 (s : Stmt) : Arguments := match s with
  | .FunctionDef _ a _ _ _ _ _ _ _ _ => a
  | _ => { posonlyargs := [],args := [],vararg := none,kwonlyargs := [],kw_defaults := [],kwarg := none,defaults := [] }
def zaI (s : Stmt) : List Stmt := match s with
  | .FunctionDef _ _ b _ _ _ _ _ _ _ => b
  | _ => []
def zag (s : Stmt) : Scope := match s with
  | .FunctionDef _ _ _ _ _ _ sc _ _ _ => sc
  | _ => { kind := .function,names := [],isGenerator := false,isCoroutine := false }
abbrev CX0 : CXT := fun _ _ _ _ _ _ => False
abbrev E0 : XK := fun _ _ _ => False
structure Fun (K : Fg) (x qual : Str) (st : Stmt) (f : Addr) (fd : FuncData) : Prop where
  ex : ∃ (oc : Value) (od : Option Addr) (kV doc pm : Value) (an : Option Addr) (cdv ct : Value) (osl : Array (Option Value)),
    fd = PySem.W.fnOf x qual (za1 st) (zaI st) (zag st) .none kV doc pm an cdv ct /\ K.lookup f = some ⟨oc,od,.func fd,osl⟩ /\ PySem.W.codeIn K cdv qual = true
  kp : PySem.W.keepIn K (.ref f) = true
section
variable {P : Program} {w : World} {K : Fg} {mg : Str -> Option Value} {base : Heap}
theorem Fun.ok {x qual : Str} {st : Stmt} {f : Addr} {fd : FuncData} {N ps : List Str} {k : Nat} {sp : Sp} (F : Fun K x qual st f fd) (S : zaw N ps (zag st)) (len : ∀ vs H Q E,sp vs H Q E -> vs.length = ps.length)
    (hbody : ∀ (cdv : Value) (A : Around) (outer : List Env) (s : Shared) (H : Hp) (vs : List V) (Q : VK) (E : XK),Room k (A.deeper (envOfC qual (zag st) s.heap.objs.size f cdv)) -> sp vs H Q E →
      ∃ t,PSs (zcp CX0 P w K mg base N qual (zag st) f cdv A outer s H E).nox (zaI st) t /\ t { nx := fun _ H' => Q .non H',rt := Q } (start N vs) H) : FnOk P w K mg base CX0 (k + 1) f fd ps sp := by
  obtain ⟨oc,od,kV,doc,pm,an,cdv,ct,osl,rfl,lk,hcd⟩ := F.ex; refine zmw lk hcd S len fun A outer s H vs Q E hr hsp => ?_; obtain ⟨t,h,q⟩ := hbody cdv A outer s H vs Q E hr hsp; exact ⟨t,h.nox,q⟩
theorem Fun.binds {x qual : Str} {st : Stmt} {f : Addr} {fd : FuncData} {ps : List Str} (F : Fun K x qual st f fd)
    (h : ∀ (kV doc pm : Value) (an : Option Addr) (cdv ct : Value) (us : List Value),us.length = ps.length -> bindArgs (PySem.W.fnOf x qual (za1 st) (zaI st) (zag st) .none kV doc pm an cdv ct) ⟨us,[]⟩ = pure (ps.zip us)) : Binds K fd ps [] := by
  obtain ⟨oc,od,kV,doc,pm,an,cdv,ct,osl,rfl,lk,hcd⟩ := F.ex; exact .all (h kV doc pm an cdv ct)
theorem zov {x qual : Str} {st : Stmt} {f : Addr} {oc : Value} {od an : Option Addr} {osl : Array (Option Value)} {kV doc pm cdv ct : Value} (l : K.lookup f = some ⟨oc,od,.func (PySem.W.fnOf x qual (za1 st) (zaI st) (zag st) .none kV doc pm an cdv ct),osl⟩)
    (c : PySem.W.codeIn K cdv qual = true) (k : PySem.W.keepIn K (.ref f) = true) : Fun K x qual st f (PySem.W.fnOf x qual (za1 st) (zaI st) (zag st) .none kV doc pm an cdv ct) := ⟨⟨oc,od,kV,doc,pm,an,cdv,ct,osl,rfl,l,c⟩,k⟩
end
theorem zlJ {A : Around} {k : Nat} (hr : Room k A) : A.units + 1 < cLine := Nat.lt_of_le_of_lt (Nat.add_le_add_left (by decide : 1 <= 64) _) hr.units
theorem zkP {n : Nat} (h : n <= 1000) : n < sizeLine := Nat.lt_of_le_of_lt h (by decide)
section
variable {X : Cx}
theorem pv (i : Nat) {x : Str} {pos : Pos} (hN : X.N[i]? = some x := by rfl) (hv : Vis X.env.scope x := by first | exact Or.inl rfl | exact Or.inr (Or.inl rfl) | exact Or.inr (Or.inr rfl)) (hd : (x == ("__debug__" : Str)) = false := by decide)
    (hcd : (x == ("__classdict__" : Str)) = false := by decide) : PE X (.Name x pos) (zpX i) := zn6 hN hv hd hcd
end
theorem zaE {A B : Prop} (h : B) : if false = true then A else B := by
  rw [if_neg fnt]; exact h
theorem zaR {A B : Prop} (h : A) : if true = true then A else B := by
  rw [if_pos rfl]; exact h
def Same (H H' : Hp) : Prop := ∀ b o,H b = some o -> H' b = some o
theorem Same.refl (H : Hp) : Same H H := fun _ _ h => h
theorem Same.trans {H H1 H2 : Hp} (a : Same H H1) (b : Same H1 H2) : Same H H2 := fun c o h => b c o (a c o h)
theorem Same.seq {K : Fg} {H H' : Hp} {a : Addr} {xs : List V} (e : Same H H') (h : SqL K H a xs) : SqL K H' a xs := by
  rcases h with (h | ⟨o,h⟩) | h
  . exact .inl (.inl (e _ _ h))
  . exact .inl (.inr ⟨o,e _ _ h⟩)
  . exact .inr h
section
variable {κ : Type} [DecidableEq κ]
def zeV (kvs : List (κ × V)) (k : κ) : Option V := (kvs.find? fun kv => decide (kv.1 = k)).map (·.2)
theorem zlR {k : κ} : zeV ([] : List (κ × V)) k = none := rfl
theorem zh2 {p : κ × V} {r : List (κ × V)} {k : κ} (e : p.1 = k) : zeV (p :: r) k = some p.2 := by simp [zeV,List.find?_cons,e]
theorem zel {p : κ × V} {r : List (κ × V)} {k : κ} (e : ¬ p.1 = k) : zeV (p :: r) k = zeV r k := by simp [zeV,List.find?_cons,e]
theorem RelO.isSome_eq {o : Option V} {u : Option Value} (r : RelO o u) : o.isSome = u.isSome := by
  cases o with
  | none => cases u with
    | none => rfl
    | some _ => exact (show False from r).elim
  | some _ => cases u with
    | none => exact (show False from r).elim
    | some _ => rfl
theorem KV.val {kvs : List (κ × V)} {vs : List (κ × Value)} (r : KV kvs vs) (k : κ) : RelO (zeV kvs k) (valueAt vs k) := by
  unfold KV at r
  induction r with
  | nil => exact True.intro
  | @cons p q ps qs h t ih =>
    obtain ⟨h1,h2⟩ := h
    by_cases e : p.1 = k
    . have e' : q.1 = k := h1.symm.trans e; have b : valueAt (q :: qs) k = some q.2 := by simp [valueAt,List.find?_cons,e']
      rw [zh2 e,b]; exact h2
    . have e' : ¬ q.1 = k := fun z => e (h1.trans z); have b : valueAt (q :: qs) k = valueAt qs k := by simp [valueAt,List.find?_cons,e']
      rw [zel e,b]; exact ih
end
theorem zj1 {P : Program} {w : World} {k : Key} {u : Value} (r : RelV (kV k) u) : (zbN P w).is k u = true := by
  cases k with
  | inl i => obtain ⟨t,e⟩ := (show ∃ t,u = Value.int i t from r); subst e; exact ziz P w i t
  | inr x => obtain ⟨t,e⟩ := (show ∃ t,u = Value.str x t from r); subst e; exact ziK P w x t
theorem zgS {P : Program} {w : World} : ∀ {ks : List Key} {us : List Value},Vals (ks.map kV) us -> ItemsAre (zbN P w) ks us
  | [],_,r => by rw [List.map_nil] at r; cases r; exact .nil
  | k :: ks,_,r => by
    rw [List.map_cons] at r
    cases r with
    | cons h t => exact .cons (zj1 h) (zgS t)
section
variable {P : Program} {w : World} {H : Hp} {h : Heap} {a : Addr}
theorem ziY {ks : List Key} (ok : HOk P w H h) (e : H a = some (.tup (ks.map kV))) : (tupleKind (zbN P w)).is h ks a := by
  obtain ⟨_,its,r,o,h1,h2,n,h3⟩ := (show ObjOk P w H h a (.tup (ks.map kV)) from ok a _ e); exact ⟨o,its.toArray,n,h1,h2,h3,by simpa using zgS r⟩
end
section
variable {X : Cx} {pins : List (Addr × Obj)} {σ : St} {H : Hp} {s : Shared} {a : Addr} {y v : V} {u r : Value} {o : Option V} {A : Around} {E : Value -> Shared -> Prop}
theorem Inv.big (I : Inv X pins σ H s) : sysModules < s.heap.objs.size := by
  have h : mainGlobals < s.heap.objs.size := (I.mod.glob.keeps I.bk).lt; exact Nat.lt_trans (by decide) h
end
section
variable {X : Cx} {pins : List (Addr × Obj)} {σ : St} {H : Hp} {s : Shared} {a : Addr} {kvs : List (Key × V)} {k : Key} {u : Value} {A : Around} {E : Value -> Shared -> Prop}
end
def zo8 (i : Expr) : Prop := ∀ ov iv,subscripted i false ov iv = operate [ov,iv] (getItem ov iv)
theorem zjZ {prog : Program} {w : World} {A : Around} {E : Value -> Shared -> Prop} {s : Shared} {env : Env} {value slice : Expr} {pos : Pos} {T id : String} {Q : Value -> Shared -> Prop}
    (hl : typeLookup (.type T) "__getitem__" = pure (some (.builtin id))) (hs : zo8 slice)
    (h : wpAny (model prog w) A (eval value env) (fun o s₁ => wpAny (model prog w) A (eval slice env) (fun i s₂ => s₂.TypeIs o T /\ wpAny (model prog w) A (getItem o i) Q E s₂) E s₁) E s) :
    wpAny (model prog w) A (eval (.Subscript value slice pos) env) Q E s := by
  refine Subscript_ (wpAny_mono h (fun o s₁ h₁ => wpAny_mono h₁ (fun i s₂ h₂ => ?_) fun _ _ x => x) fun _ _ x => x); obtain ⟨hT,h₂⟩ := h₂; unfold subscriptTail; refine wpAny_bind ?_; rw [getitemInPython_of_ne hT.not_modules]; refine wpAny_bind (wpAny_specialOf hT hl ?_)
  have fin : wpAny (model prog w) A (subscripted slice false o i) (fun r s₃ => wpAny (model prog w) A (letTemporaryGo value o r >>= fun _ => pure r) Q E s₃) E s₂ := by
    rw [hs o i]; exact wpAny_operating (wpAny_mono h₂ (fun r s₃ h₃ => wpAny_bind (wpAny_letTemporaryGo (wpAny_pure h₃))) fun _ _ x => x)
  first
    | exact wpAny_pure (wpAny_bind fin)
    | exact wpAny_bind (wpAny_pure (wpAny_bind fin))
    | exact wpAny_bind fin
section
variable {X : Cx} {o i e value : Expr} {pos pos' tpos : Pos} {td ty tv : TE}
end
section
variable {X : Cx} {pos : Pos}
end
section
variable {X : Cx} {pins : List (Addr × Obj)} {σ : St} {H : Hp} {s : Shared} {a : Addr} {y d : V} {u r : Value} {o : Option V} {A : Around} {E : Value -> Shared -> Prop}
end
section
variable {X : Cx} {o e f : Expr} {apos cpos : Pos} {td ty tx : TE}
end
section
variable {X : Cx} {pins : List (Addr × Obj)} {σ : St} {H : Hp} {s : Shared} {a : Addr} {kvs : List (Key × V)} {A : Around} {E : Value -> Shared -> Prop}
end
section
variable {X : Cx} {pins : List (Addr × Obj)} {σ : St} {H : Hp} {s : Shared} {a : Addr} {y : V} {u : Value} {A : Around} {E : Value -> Shared -> Prop}
end
section
variable {X : Cx}
end
section
variable {κ : Type} [DecidableEq κ]
end
def zdp (cells : List (Str × Addr)) : List (Str × NameKind) -> List (Str × Addr) -> List (Str × Addr)
  | [],acc => acc
  | (n,k) :: r,acc => if (k == NameKind.free) = true then (match cells.lookup n with | some c => zdp cells r ((n,c) :: acc) | none => zdp cells r acc) else zdp cells r acc
theorem zgx {scope : Scope} {env : Env} (h : ∀ y ∈ scope.names,y.2 = .free -> ∃ c,env.cells.lookup y.1 = some c) : closureFor scope env = pure (zdp env.cells scope.names []) := by
  have all : ∀ (l : List (Str × NameKind)) (acc : List (Str × Addr)),(∀ y ∈ l,y.2 = .free -> ∃ c,env.cells.lookup y.1 = some c) →
      (forIn l acc fun (x : Str × NameKind) (r : List (Str × Addr)) => if (x.2 == NameKind.free) = true then do
        let a <- cellOf env x.1
        pure (ForInStep.yield ((x.1,a) :: r)) else pure (ForInStep.yield r) : Sem (List (Str × Addr))) = pure (zdp env.cells l acc) := by
    intro l
    induction l with
    | nil => intro acc _; rfl
    | cons x r ih =>
      intro acc hl; obtain ⟨n,k⟩ := x; have ih' := fun acc => ih acc fun y hy => hl y (List.mem_cons_of_mem _ hy); rw [List.forIn_cons]
      by_cases hk : (k == NameKind.free) = true
      . have hk' : k = NameKind.free := by simpa using hk
        obtain ⟨c,hc⟩ := hl (n,k) List.mem_cons_self hk'; have hc' : env.cells.lookup n = some c := hc; simp only [hk,if_true]; have e1 : cellOf env n = pure c := by unfold cellOf; rw [hc']
        rw [e1]; simp only [pure_bind]; rw [ih']; simp only [zdp,hk,if_true,hc']
      . simp only [hk,if_false,pure_bind,Bool.false_eq_true]; rw [ih']; simp only [zdp,hk,if_false,Bool.false_eq_true]
  have := all scope.names [] h; simp only [closureFor]
  first
    | exact this
    | (simp only [bind_pure]; exact this)
    | simpa using this
theorem zcD {cells : List (Str × Addr)} : ∀ {names : List (Str × NameKind)} {acc : List (Str × Addr)},(∀ y c,acc.lookup y = some c -> cells.lookup y = some c) -> ∀ y c,(zdp cells names acc).lookup y = some c -> cells.lookup y = some c
  | [],_,h,y,c,e => h y c e
  | (n,k) :: r,acc,h,y,c,e => by
    unfold zdp at e
    split at e
    . cases hn : cells.lookup n with
      | none => rw [hn] at e; exact zcD h y c e
      | some c' =>
        rw [hn] at e; refine zcD (fun y c q => ?_) y c e; rw [List.lookup_cons] at q
        cases hy : y == n with
        | true =>
          rw [hy] at q; have q' : c' = c := Option.some.inj q; have hyn : y = n := by simpa using hy
          rw [hyn,hn,q']
        | false => rw [hy] at q; exact h y c q
    . exact zcD h y c e
theorem zes {cells : List (Str × Addr)} : ∀ {names : List (Str × NameKind)} {acc : List (Str × Addr)} {y : Str} {c : Addr},cells.lookup y = some c -> ((acc.lookup y).isSome = true \/ names.lookup y = some .free) -> ((zdp cells names acc).lookup y).isSome = true
  | [],acc,y,c,_,h => by
    rcases h with h | h
    . exact h
    . simp at h
  | (n,k) :: r,acc,y,c,hc,h => by
    unfold zdp; have hyn : ∀ q : (y == n) = true,y = n := fun q => by simpa using q
    split
    . rename_i hk
      cases hn : cells.lookup n with
      | none =>
        refine zes (c := c) hc ?_
        rcases h with h | h
        . exact .inl h
        . rw [List.lookup_cons] at h
          cases hy : y == n with
          | true =>
            rw [hyn hy,hn] at hc; cases hc
          | false => rw [hy] at h; exact .inr h
      | some c' =>
        refine zes (c := c) hc ?_; rw [List.lookup_cons]
        cases hy : y == n with
        | true => exact .inl rfl
        | false =>
          rcases h with h | h
          . exact .inl h
          . rw [List.lookup_cons,hy] at h; exact .inr h
    . rename_i hk
      refine zes (c := c) hc ?_
      rcases h with h | h
      . exact .inl h
      . rw [List.lookup_cons] at h
        cases hy : y == n with
        | true =>
          rw [hy] at h; have : k = NameKind.free := Option.some.inj h; exact absurd (by simpa using this) hk
        | false => rw [hy] at h; exact .inr h
theorem ziw {cells : List (Str × Addr)} {names : List (Str × NameKind)} {y : Str} {c : Addr} (hc : cells.lookup y = some c) (h : names.lookup y = some .free) : (zdp cells names []).lookup y = some c := by
  obtain ⟨c',e⟩ := Option.isSome_iff_exists.mp (zes (acc := []) hc (.inr h)); have := zcD (acc := []) (fun _ _ q => by simp at q) y c' e
  rw [hc] at this; rw [e,this]
theorem zfF {env : Env} : ∀ {names : List (Str × NameKind)} {x : Str},names.lookup x = some .free →
    ((names.map fun (n,k) => if (k == NameKind.free && env.scope.kind == .function && env.kindOf n == some .cell) then (n,NameKind.cell) else (n,k)).lookup x = some .cell ∨
     (names.map fun (n,k) => if (k == NameKind.free && env.scope.kind == .function && env.kindOf n == some .cell) then (n,NameKind.cell) else (n,k)).lookup x = some .free)
  | [],_,h => by simp at h
  | (n,k) :: r,x,h => by
    have ih := @zfF env r x; show List.lookup x ((if (k == NameKind.free && env.scope.kind == .function && env.kindOf n == some .cell) = true then (n,NameKind.cell) else (n,k)) :: _) = _ \/ List.lookup x ((if (k == NameKind.free && env.scope.kind == .function && env.kindOf n == some .cell) = true then (n,NameKind.cell) else (n,k)) :: _) = _
    cases hx : x == n with
    | true =>
      simp only [List.lookup_cons,hx] at h; cases h
      by_cases hc : (NameKind.free == NameKind.free && env.scope.kind == .function && env.kindOf n == some .cell) = true
      . rw [if_pos hc]; simp only [List.lookup_cons,hx]; exact .inl trivial
      . rw [if_neg hc]; simp only [List.lookup_cons,hx]; exact .inr trivial
    | false =>
      simp only [List.lookup_cons,hx] at h
      by_cases hc : (k == NameKind.free && env.scope.kind == .function && env.kindOf n == some .cell) = true
      . rw [if_pos hc]; simp only [List.lookup_cons,hx]; exact ih h
      . rw [if_neg hc]; simp only [List.lookup_cons,hx]; exact ih h
theorem zfO {env : Env} : ∀ {names : List (Str × NameKind)} {x : Str},(∀ y ∈ names,y.2 ≠ .cell) →
    ((names.map fun (n,k) => if (k == NameKind.free && env.scope.kind == .function && env.kindOf n == some .cell) then (n,NameKind.cell) else (n,k)).lookup x = some .cell ∨
     (names.map fun (n,k) => if (k == NameKind.free && env.scope.kind == .function && env.kindOf n == some .cell) then (n,NameKind.cell) else (n,k)).lookup x = some .free) -> names.lookup x = some .free
  | [],_,_,h => by simp at h
  | (n,k) :: r,x,hn,h => by
    have ih := @zfO env r x (fun y hy => hn y (List.mem_cons_of_mem _ hy)); have h' : List.lookup x ((if (k == NameKind.free && env.scope.kind == .function && env.kindOf n == some .cell) = true then (n,NameKind.cell) else (n,k)) :: (r.map fun (n,k) => if (k == NameKind.free && env.scope.kind == .function && env.kindOf n == some .cell) then (n,NameKind.cell) else (n,k))) = some .cell \/ List.lookup x ((if (k == NameKind.free && env.scope.kind == .function && env.kindOf n == some .cell) = true then (n,NameKind.cell) else (n,k)) :: (r.map fun (n,k) => if (k == NameKind.free && env.scope.kind == .function && env.kindOf n == some .cell) then (n,NameKind.cell) else (n,k))) = some .free := h
    cases hx : x == n with
    | true =>
      by_cases hc : (k == NameKind.free && env.scope.kind == .function && env.kindOf n == some .cell) = true
      . have hk : k = NameKind.free := by
          rw [Bool.and_eq_true,Bool.and_eq_true] at hc
          simpa using hc.1.1
        rw [List.lookup_cons,hx,hk]
      . rw [if_neg hc] at h'; simp only [List.lookup_cons,hx] at h' ⊢
        rcases h' with z | z
        . exact absurd (Option.some.inj z) (hn (n,k) List.mem_cons_self)
        . exact z
    | false =>
      by_cases hc : (k == NameKind.free && env.scope.kind == .function && env.kindOf n == some .cell) = true
      . rw [if_pos hc] at h'; simp only [List.lookup_cons,hx] at h' ⊢; exact ih h'
      . rw [if_neg hc] at h'; simp only [List.lookup_cons,hx] at h' ⊢; exact ih h'
def zbi (X : Cx) (scope : Scope) (C : Addr) (N : List Str) (s₀ : Shared) (H₀ : Hp) (fp : List Addr) : Cx :=
  { X with N := N,s₀ := s₀,H₀ := H₀,env := compEnvC scope (zdp X.env.cells scope.names []) C X.env,outer := X.stack,stack := X.stack,ex := fp,fn := fun _ => false,pn := [],xe := fun _ _ => False }
def cap (σ : St) (idx : List Nat) : St := idx.map fun j => σ.getD j none
structure CompNames (sc : Scope) (N0 : List Str) (scope : Scope) (x : Str) (ns : List Str) (idx : List Nat) : Prop where
  kind : scope.kind = .function
  cell : ∀ y ∈ scope.names,y.2 ≠ .cell
  loc : ∀ y ∈ scope.names,y.2 = .local -> scope.names.lookup y.1 = some .local
  tgt : scope.names.lookup x = some .local
  nd : (x :: ns).Nodup
  from_ : ∀ y ∈ scope.names,y.2 = .free -> (sc.names.lookup y.1 = some .cell \/ sc.names.lookup y.1 = some .free)
  free : ∀ y ∈ ns,scope.names.lookup y = some .free
  ix : idx.map (fun j => N0[j]?) = ns.map some
def cnB (sc : Scope) (N0 : List Str) (scope : Scope) (x : Str) (ns : List Str) (idx : List Nat) : Bool :=
  decide (scope.kind = .function) && scope.names.all (fun y => decide (y.2 ≠ .cell)) && scope.names.all (fun y => decide (y.2 = .local -> scope.names.lookup y.1 = some .local)) && decide (scope.names.lookup x = some .local) &&
  decide ((x :: ns).Nodup) && scope.names.all (fun y => decide (y.2 = .free -> (sc.names.lookup y.1 = some .cell \/ sc.names.lookup y.1 = some .free))) && ns.all (fun y => decide (scope.names.lookup y = some .free)) &&
  decide (idx.map (fun j => N0[j]?) = ns.map some)
theorem zcd {sc : Scope} {N0 : List Str} {scope : Scope} {x : Str} {ns : List Str} {idx : List Nat} (h : cnB sc N0 scope x ns idx = true) : CompNames sc N0 scope x ns idx := by
  unfold cnB at h; simp only [Bool.and_eq_true,List.all_eq_true,decide_eq_true_eq] at h; obtain ⟨⟨⟨⟨⟨⟨⟨h1,h2⟩,h3⟩,h4⟩,h5⟩,h6⟩,h7⟩,h8⟩ := h; exact ⟨h1,h2,h3,h4,h5,h6,h7,h8⟩
theorem zdf {names : List (Str × NameKind)} {y : Str} {k : NameKind} (h : names.lookup y = some k) : (y,k) ∈ names := PySem.mem_of_lookup h
section
variable {X : Cx} {pins : List (Addr × Obj)} {σ : St} {H : Hp} {s : Shared} {scope : Scope} {x : Str} {ns : List Str} {idx : List Nat} {fp : List Addr}
theorem CompNames.clos (N : CompNames X.env.scope X.N scope x ns idx) (ok : X.Ok) : closureFor scope X.env = pure (zdp X.env.cells scope.names []) :=
  zgx fun y hy hk => ok.has y.1 (N.from_ y hy hk)
theorem Inv.comp {h1 : Heap} {t' : Nat} {C D : Addr} (N : CompNames X.env.scope X.N scope x ns idx) (I : Inv X pins σ H s) (f2 : ∀ b ∈ fp,FpOk X pins H b) (fo : ∀ b ∈ fp,∃ o,s.heap.get? b = some o)
    (hD : s.heap.objs.size <= D) (hC : s.heap.objs.size <= C) (hDC : D ≠ C) (old : ∀ b o,s.heap.get? b = some o -> h1.get? b = some o) (hacc : h1.get? D = some { cls := .type "list",data := .seq #[] 0 })
    (hns : h1.Ns C fun _ => none) :
    Inv (zbi X scope C (x :: ns) s H fp) [] (none :: cap σ idx) (upd H D (.lst [])) { s with heap := h1,toks := t' } := by
  have hDn : H D = none := I.hok.fresh hD; have hCn : H C = none := I.hok.fresh hC; have cne : ∀ y c,(zdp X.env.cells scope.names []).lookup y = some c -> X.env.cells.lookup y = some c := zcD (acc := []) (fun _ _ q => by simp at q)
  have clt : ∀ y c,X.env.cells.lookup y = some c -> c < s.heap.objs.size := fun y c e => by
    obtain ⟨v,o,ho,_⟩ := I.cell y c e; exact Heap.lt_size ho
  refine ⟨⟨I.ok.mod,N.kind,I.ok.glob,I.ok.blt,hC,fun y z c e1 e2 => ?_,fun y hy => ?_,fun y c hf _ => ?_,I.ok.hd,I.ok.frames,.inl rfl,fun b hb => ⟨?_,fun y c e => ?_⟩,I.bs,Nat.le_trans I.ok.bsz I.sz,fun b o e hb => ?_,fun b hb hz => ?_,I.stack,I.stkFree⟩,
    rfl,I.bare,?_,⟨_,hns,fun i y v e1 e2 e3 => ?_⟩,fun y c e => ?_,?_,fun y c e => ?_,fun p hp => absurd (show p ∈ ([] : List (Addr × Obj)) from hp) (by simp),?_,?_⟩
  . exact I.ok.inj y z c (cne y c e1) (cne z c e2)
  . have hy' := zfO (env := X.env) N.cell hy; obtain ⟨c,e⟩ := I.ok.has y (N.from_ (y,.free) (zdf hy') rfl); exact ⟨c,ziw e hy'⟩
  . exact absurd hf (by show ¬ (false = true); decide)
  . obtain ⟨o,e⟩ := fo b hb; exact Nat.ne_of_lt (Nat.lt_of_lt_of_le (Heap.lt_size e) hC)
  . exact (f2 b hb).2.2.2.2.1 y c (cne y c e)
  . rcases (f2 b hb).2.2.2.1 with z | z
    . exact I.ok.noex b o e z
    . exact absurd (Nat.lt_of_lt_of_le (Heap.lt_size (I.ok.bs b o e).1) z) (Nat.lt_irrefl _)
  . rcases List.mem_cons.mp (I.stkSub b hz) with z | z
    . exact (f2 b hb).2.1 z
    . exact (f2 b hb).2.2.1 z
  . exact Un.laid old hD hDn
  . cases i with
    | zero =>
      have e2' : (none : Option V) = some v := Option.some.inj e2; cases e2'
    | succ i =>
      have e1' : ns[i]? = some y := e1; have e2' : (cap σ idx)[i]? = some (some v) := e2; have hi : (idx.map (fun j => X.N[j]?))[i]? = some (some y) := by rw [N.ix,List.getElem?_map,e1']; rfl
      rw [List.getElem?_map] at hi; unfold cap at e2'; rw [List.getElem?_map] at e2'
      cases ej : idx[i]? with
      | none => rw [ej] at hi; cases hi
      | some j =>
        rw [ej] at hi e2'; have hj : X.N[j]? = some y := Option.some.inj hi; have hv : σ.getD j none = some v := Option.some.inj e2'
        have hv' : σ[j]? = some (some v) := by
          rw [List.getD_eq_getElem?_getD] at hv
          cases q : σ[j]? with
          | none => rw [q] at hv; cases hv
          | some w' => rw [q] at hv; exact congrArg some hv
        have hfr := N.free y (List.mem_of_getElem? e1'); have hk := N.from_ (y,.free) (zdf hfr) rfl; obtain ⟨m,hn,hl⟩ := I.loc
        have hvis : Vis X.env.scope y := by
          rcases hk with k | k
          . exact .inr (.inl k)
          . exact .inr (.inr k)
        obtain ⟨u,r,l⟩ := hl j y v hj hv' hvis; refine ⟨u,r,.inr ⟨?_,?_⟩⟩
        . exact zfF (env := X.env) hfr
        . rcases l with ⟨k,_⟩ | ⟨_,c,ec,o,ho,hd⟩
          . have k' : X.env.kindOf y = some .local := k
            rcases hk with q | q
            . have q' : X.env.kindOf y = some .cell := q; rw [k'] at q'; cases q'
            . have q' : X.env.kindOf y = some .free := q; rw [k'] at q'; cases q'
          . exact ⟨c,ziw ec hfr,o,old c o ho,hd⟩
  . obtain ⟨v,o,ho,hd⟩ := I.cell y c (cne y c e); exact ⟨v,o,old c o ho,hd⟩
  . show upd H D (.lst []) C = none; rw [zaj (Ne.symm hDC)]; exact hCn
  . show upd H D (.lst []) c = none; rw [zaj (Nat.ne_of_lt (Nat.lt_of_lt_of_le (clt y c (cne y c e)) hD))]; exact I.freeC y c (cne y c e)
  . exact I.hok.laid old hD ⟨Nat.zero_le _,[],0,.nil,hacc⟩
  . show (none :: cap σ idx).length = (x :: ns).length; have := congrArg List.length N.ix; rw [List.length_map,List.length_map] at this; unfold cap; rw [List.length_cons,List.length_cons,List.length_map,this]
theorem Inv.uncomp {σ' : St} {H' : Hp} {s' : Shared} {C : Addr} {N' : List Str} (I : Inv X pins σ H s) (f2 : ∀ b ∈ fp,FpOk X pins H b) (J : Inv (zbi X scope C N' s H fp) [] σ' H' s') : Inv X pins σ H' s' :=
  I.call' (ch := fp) J.os J.base J.hok J.bare fun b hb => ⟨(f2 b hb).2.2.2.1,(f2 b hb).2.1,(f2 b hb).2.2.2.2.1,(f2 b hb).2.2.2.2.2⟩
end
section
variable {prog : Program} {w : World} {A : Around} {R : Result -> Shared -> Prop} {s : Shared}
theorem zhz {elt target iter : Expr} {ifs : List Expr} {scope : Scope} {pos : Pos} {it acc : Value} {env : Env} (I : Nat -> Shared -> Prop)
    (turn : ∀ n s,I n s -> wpAny (model prog w) A (pyNext it) (fun r s₁ => match r with
      | none => R (.ok .next) s₁
      | some v => wpAny (model prog w) A (letOwnedTupleGo target it v) (fun _ s₁' => wpAny (model prog w) A (assign target env v) (fun _ s₂ =>
          wpAny (model prog w) A (forIn ifs true fun c r => if r = true then do let ok <- isTrue c env (eval c env); pure (ForInStep.yield ok) else pure (ForInStep.yield r)) (fun ok s₃ =>
            if ok = true then wpAny (model prog w) A (eval elt env) (fun x s₄ =>
              wpAny (model prog w) A (call (.builtin "list.append") [acc,x]) (fun _ s₅ => ∃ m,m < n /\ I m s₅) (fun _ _ => False) s₄) (fun _ _ => False) s₃
            else ∃ m,m < n /\ I m s₃) (fun _ _ => False) s₂) (fun _ _ => False) s₁') (fun _ _ => False) s₁) (fun _ _ => False) s)
    (n : Nat) (h : I n s) :
    codeAny (model prog w) A (.compLoop (.ListComp elt [⟨target,iter,ifs,0⟩] scope pos) 0 it acc env) R s := by
  refine codeAny_loop rfl I (fun n s hI => ?_) n h; show wpAny _ A ((compTurn (.ListComp elt [⟨target,iter,ifs,0⟩] scope pos) 0 it acc env).onRaise (fun x => do noteFrame x env; theTreesLotGoes x)) _ _ s
  refine wpAny_noted ?_; rw [compTurn_list]; refine wpAny_bind (wpAny_standAt (wpAny_bind (wpAny_mono (turn n s hI) (fun r s₁ h₁ => ?_) fun _ _ h' => h'.elim)))
  cases r with
  | none => exact wpAny_pure h₁
  | some v =>
    refine wpAny_bind (wpAny_mono h₁ (fun _ s₁' h₁' => ?_) fun _ _ h' => h'.elim); refine wpAny_bind (wpAny_mono h₁' (fun _ s₂ h₂ => wpAny_bind (wpAny_mono h₂ (fun ok s₃ h₃ => ?_) fun _ _ h' => h'.elim)) fun _ _ h' => h'.elim)
    cases ok with
    | false => exact wpAny_pure ⟨rfl,h₃⟩
    | true =>
      exact wpAny_bind (wpAny_bind (wpAny_mono h₃ (fun x s₄ h₄ => wpAny_bind (wpAny_mono h₄ (fun _ s₅ h₅ => wpAny_pure (wpAny_pure ⟨rfl,h₅⟩)) fun _ _ h' => h'.elim)) fun _ _ h' => h'.elim))
end
def zmx (X : Cx) (ifs : List Expr) (t : TT) : Prop :=
  ∀ (pins : List (Addr × Obj)) (s : Shared) (σ : St) (H : Hp) (Q : Bool -> Hp -> Prop),Inv X pins σ H s -> t σ H Q →
    wpAny (model X.prog X.w) X.A (forIn ifs true fun c r => if r = true then do let ok <- isTrue c X.env (eval c X.env); pure (ForInStep.yield ok) else pure (ForInStep.yield r)) (TP X pins σ Q) X.xe s
def zlM : TT := fun _ H Q => Q true H
theorem zcZ {X : Cx} : zmx X [] zlM := fun pins s σ H Q I h => wpAny_tests_nil ⟨H,I,h⟩
theorem zcq {X : Cx} {c : Expr} {tc : TT} (hc : PT X c tc) : zmx X [c] tc := fun pins s σ H Q I h => wpAny_tests_one (hc pins s σ H Q I h)
def LCW (idx : List Nat) (J : It) (g : TG) (tt : TT) (te : TE) (Q : VK) (σ : St) (H1 : Hp) : Prop := ∀ D,H1 D = none →
  ∃ W : Nat -> Nat -> List V -> St -> Hp -> Prop,(∃ m,W 0 m [] (none :: cap σ idx) (upd H1 D (.lst []))) /\ ∀ i m ys ρ H,W i m ys ρ H -> H D = some (.lst ys) ∧
    ((J.stop i H /\ Q (.ref D) H) ∨
     (J.go i H /\ ys.length < sizeLine /\ ∀ x H',J.yld i H x H' -> g x ρ H' fun ρ2 H2 => tt ρ2 H2 fun b H3 =>
        if b = true then te ρ2 H3 fun v H4 => H4 D = some (.lst ys) /\ ∃ m',m' < m /\ W (i + 1) m' (ys ++ [v]) ρ2 (upd H4 D (.lst (ys ++ [v])))
        else ∃ m',m' < m /\ W (i + 1) m' ys ρ2 H3))
def tLC (wi : TI) (idx : List Nat) (g : TG) (tt : TT) (te : TE) : TE := fun σ H Q => wi σ H fun J H1 => LCW idx J g tt te Q σ H1
section
variable {X : Cx} {elt iter : Expr} {x : Str} {px : Pos} {ifs : List Expr} {scope : Scope} {pos : Pos} {ns : List Str} {idx : List Nat} {wi : TI} {g : TG} {tt : TT} {te : TE}
theorem zg6 {pins : List (Addr × Obj)} {s : Shared} {σ : St} {H : Hp} {Q : VK} {RR : Value -> Addr -> Result -> Shared -> Prop} {it : Addr} {fp : List Addr} {tn : Nat -> Heap -> Prop} {J : It} {tg : Expr} (N : CompNames X.env.scope X.N scope x ns idx) (hcalm : X.calm = true)
    (hg : ∀ C s₀ H₀ fp,PG (zbi X scope C (x :: ns) s₀ H₀ fp) tg g)
    (hi : ∀ C s₀ H₀ fp,zmx (zbi X scope C (x :: ns) s₀ H₀ fp) ifs tt) (he : ∀ C s₀ H₀ fp,PE (zbi X scope C (x :: ns) s₀ H₀ fp) elt te)
    (I : Inv X pins σ H s) (T : zjh X.prog X.w X.K tg J fp it tn) (st : tn 0 s.heap) (f2 : ∀ b ∈ fp,FpOk X pins H b)
    (h : LCW idx J g tt te Q σ H)
    (hR : ∀ D C s' H',Inv X pins σ H' s' -> FpOk X pins H' C -> (∃ m,s'.heap.Ns C m) -> Q (.ref D) H' -> RR (.ref D) C (.ok .next) s') :
    wpAny (model X.prog X.w) X.A (newList []) (fun acc s₃ => wpAny (model X.prog X.w) X.A (newFunctionEnv scope X.env.globals (zdp X.env.cells scope.names []) [] X.env.qual none .none (some X.env)) (fun cenv s₄ =>
      codeAny (model X.prog X.w) X.A (.compStart (.ListComp elt [⟨tg,iter,ifs,0⟩] scope pos) 0 (.ref it) acc { cenv with scope := relabel scope X.env }) (RR acc cenv.locals) s₄) X.xe s₃) X.xe s := by
  refine wpAny_newObj_type (wpAny_newFunctionEnv N.cell (by intro y hy; simp at hy) (fun h₁ hns₁ hsb₁ => ?_) N.kind)
  dsimp only at hns₁ hsb₁ ⊢; generalize hH2 : s.heap.push { cls := .type "list",dict := none,data := .seq ([] : List Value).toArray } = H2 at hns₁ hsb₁ ⊢; have hC : H2.objs.size = s.heap.objs.size + 1 := by rw [<- hH2,Heap.size_push]
  have hDC : s.heap.objs.size ≠ H2.objs.size := by rw [hC]; exact Nat.ne_of_lt (Nat.lt_succ_self _)
  have hCle : s.heap.objs.size <= H2.objs.size := by rw [hC]; exact Nat.le_succ _
  have below : ∀ b,b < s.heap.objs.size -> b ≠ H2.objs.size := fun b hb => by rw [hC]; exact Nat.ne_of_lt (Nat.lt_succ_of_lt hb)
  have old : ∀ b o,s.heap.get? b = some o -> h₁.get? b = some o := fun b o e => hsb₁.extBut b o (below b (Heap.lt_size e)) (Heap.get?_push_of_some _ (hH2 ▸ Heap.get?_push_of_some _ e)); have hacc : h₁.get? s.heap.objs.size = some { cls := .type "list",data := .seq #[] 0 } := hsb₁.extBut _ _ hDC (Heap.get?_push_of_some _ (hH2 ▸ Heap.get?_push_size _ rfl)); have hns : h₁.Ns H2.objs.size fun _ => none := by simpa using hns₁
  have J0 := Inv.comp (t' := s.toks + ([] : List (Str × Value)).length) N I f2 (fun b hb => let ⟨o,e,_⟩ := T.obj 0 s.heap st b hb; ⟨o,e⟩) (Nat.le_refl _) hCle hDC old hacc hns; obtain ⟨W,⟨m0,w0⟩,turn⟩ := h s.heap.objs.size (I.hok.fresh (Nat.le_refl _))
  have stat : ∀ {H' : Hp},(∀ b ∈ fp,H' b = none) -> ∀ b ∈ fp,FpOk (zbi X scope H2.objs.size (x :: ns) s H fp) [] H' b := fun hn b hb => by
    obtain ⟨_,f1,f3,f4,f5,f6⟩ := f2 b hb; obtain ⟨o,e,_⟩ := T.obj 0 s.heap st b hb; refine ⟨hn b hb,below b (Heap.lt_size e),fun z => ?_,.inl hb,fun y c q => f5 y c (zcD (acc := []) (fun _ _ q => by simp at q) y c q),fun p hp => absurd (show p ∈ ([] : List (Addr × Obj)) from hp) (by simp)⟩
    rcases List.mem_cons.mp (I.stkSub b z) with q | q
    . exact f1 q
    . exact f3 q
  have fr0 : ∀ b ∈ fp,upd H s.heap.objs.size (.lst []) b = none := fun b hb => by
    obtain ⟨o,e,_⟩ := T.obj 0 s.heap st b hb; rw [zaj (Nat.ne_of_lt (Heap.lt_size e))]; exact (f2 b hb).1
  have st1 : tn 0 h₁ := T.keep 0 _ _ st fun b _ o e => old b o e
  have loop : ∀ s₃ : Shared,s₃ = { s with heap := h₁,toks := s.toks + ([] : List (Str × Value)).length } →
      codeAny (model X.prog X.w) X.A (.compLoop (.ListComp elt [⟨tg,iter,ifs,0⟩] scope pos) 0 (.ref it) (.ref s.heap.objs.size) (compEnvC scope (zdp X.env.cells scope.names []) H2.objs.size X.env))
        (RR (.ref s.heap.objs.size) H2.objs.size) s₃ := by
    rintro s₃ rfl; refine zhz (fun n s' => ∃ i ρ H' ys,Inv (zbi X scope H2.objs.size (x :: ns) s H fp) [] ρ H' s' /\ tn i s'.heap /\ (∀ b ∈ fp,H' b = none) /\ W i n ys ρ H') ?_ m0 ⟨0,_,_,[],J0,st1,fr0,w0⟩; rintro n s3 ⟨i,ρ,H3,ys,I3,st3,fr3,w3⟩; obtain ⟨hD3,hw⟩ := turn i n ys ρ H3 w3
    rcases hw with ⟨stop,q⟩ | ⟨go,hlen,step⟩
    . refine thn (T.done (zbi X scope H2.objs.size (x :: ns) s H fp) rfl rfl rfl hcalm i [] s3 ρ H3 (fun _ _ => False) I3 (stat fr3) st3 stop) fun r s4 ⟨hr,I4⟩ => ?_; subst hr; have I5 := I.uncomp f2 I4; refine hR _ _ s4 H3 I5 (I.fpOk hCle I3.free) ?_ q; obtain ⟨m,hn,_⟩ := I4.loc; exact ⟨m,hn⟩
    . refine thn (T.item (zbi X scope H2.objs.size (x :: ns) s H fp) rfl rfl rfl hcalm i [] s3 ρ H3 (fun _ _ => False) I3 (stat fr3) st3 go) fun r s4 ⟨u,hr,h4⟩ => ?_; subst hr; refine thn h4 fun _ s5 ⟨y,H5,I5,r5,y5,st5,fr5⟩ => ?_; have I5' := I5.pinned (stat fr5) (T.obj _ _ st5); refine thn (hg H2.objs.size s H fp _ s5 ρ H5 y u _ I5' r5 (step y H5 y5)) fun _ s6 ⟨σ6,H6,I6,q6⟩ => ?_; refine thn (hi H2.objs.size s H fp _ s6 σ6 H6 _ I6 q6) fun ok s7 ⟨H7,I7,q7⟩ => ?_
      have again : ∀ {s8 : Shared} {H8 : Hp} {zs : List V},Inv (zbi X scope H2.objs.size (x :: ns) s H fp) ([] ++ zfP fp s5.heap) σ6 H8 s8 -> (∃ m',m' < n /\ W (i + 1) m' zs σ6 H8) →
          ∃ m,m < n /\ ∃ i ρ H' ys,Inv (zbi X scope H2.objs.size (x :: ns) s H fp) [] ρ H' s8 /\ tn i s8.heap /\ (∀ b ∈ fp,H' b = none) /\ W i m ys ρ H' := fun {s8 H8 zs} I8 ⟨m',hm,w8⟩ => by
        refine ⟨m',hm,i + 1,σ6,H8,zs,I8.unpinned,T.keep _ _ _ st5 fun b hb o e => (I8.pin (b,o) (List.mem_append_right _ (List.mem_append_right _ (zcW hb e)))).1,fun b hb => ?_,w8⟩; obtain ⟨o,e,d⟩ := T.obj _ _ st5 b hb; exact (I8.pin (b,o) (List.mem_append_right _ (List.mem_append_right _ (zcW hb e)))).2.1
      cases ok with
      | false =>
        rw [if_neg fnt] at q7 ⊢; exact again I7 q7
      | true =>
        rw [if_pos rfl] at q7 ⊢; refine thn (he H2.objs.size s H fp _ s7 σ6 H7 _ I7 q7) fun v s8 ⟨y8,H8,I8,r8,hD8,q8⟩ => ?_; obtain ⟨z8,its,n8,rv,e8⟩ := I8.hok _ _ hD8; have hl := rv.length; refine wpAny_list_append_plain (hsz := by rw [List.size_toArray]; omega) ⟨n8,e8⟩ fun h9 hp9 sb9 => ?_
        obtain ⟨n9,e9⟩ := hp9; refine again (zs := ys ++ [y8]) (I8.write (x := s.heap.objs.size) (e := s.heap.objs.size) (o := .lst (ys ++ [y8])) (t' := s8.toks) (by rw [hD8]; trivial) (.inl rfl) (fun b o hb e => (sb9.2 b hb).trans e) ⟨_,e9⟩ ⟨by rw [List.length_append]; show ys.length + 1 <= sizeLine; omega,its ++ [v],n9,rv.append (.cons r8 .nil),?_⟩) q8
        rw [e9]; simp
  exact codeAny_compStart_list (loop _ rfl) (T.self _ 0 _ _ _ st1 (loop _ rfl))
theorem zh1 (N : CompNames X.env.scope X.N scope x ns idx) : ∀ C s₀ H₀ fp,PG (zbi X scope C (x :: ns) s₀ H₀ fp) (.Name x px) (zcL 0) := fun C s₀ H₀ fp =>
  zaC (X := zbi X scope C (x :: ns) s₀ H₀ fp) (i := 0) N.nd rfl (Or.inl (lookup_relabel_local N.tgt)) (.inr (lookup_relabel_local N.tgt))
theorem ze9 (N : CompNames X.env.scope X.N scope x ns idx) (hcalm : X.calm = true) (hw : PI X (.Name x px) iter wi)
    (hi : ∀ C s₀ H₀ fp,zmx (zbi X scope C (x :: ns) s₀ H₀ fp) ifs tt) (he : ∀ C s₀ H₀ fp,PE (zbi X scope C (x :: ns) s₀ H₀ fp) elt te)
    (hs : ∀ x,foldedSetIterable iter X.env x = pure x := by intro _; rfl) : PE X (.ListComp elt [⟨.Name x px,iter,ifs,0⟩] scope pos) (tLC wi idx (zcL 0) tt te) := by
  intro pins s σ H Q I h; rw [eval_ListComp]; refine wpAny_comprehension_free (use := none) rfl hs (N.clos I.ok) N.kind N.loc (thn (hw pins s σ H _ I h) fun v s1 h1 => thn h1 fun itv s2 h2 => ?_); obtain ⟨it,fp,tn,J,H2,e,I2,T,st2,f2,q⟩ := h2; subst e; refine zg6 (RR := fun acc C => compPost (model X.prog X.w) X.A X.xe none (EP X pins σ Q) acc C) N hcalm (zh1 N) hi he I2 T st2 f2 q fun D C s' H' I' F' hm q' => ?_; obtain ⟨m,hn⟩ := hm; refine ⟨m,hn,fun h' hs' => ?_⟩; obtain ⟨f0,f1,f3,f4,f5,f6⟩ := F'; exact ⟨.ref D,H',I'.turned (t' := s'.toks) (fun b o hb e => (hs'.2 b hb).trans e) f0 f1 f4 f5 f6,rfl,q'⟩
theorem zb7 {i : Nat} {y : Str} {py spos : Pos} (N : CompNames X.env.scope X.N scope x ns idx) (hcalm : X.calm = true) (hN : X.N.Nodup) (hiy : X.N[i]? = some y) (hly : Loc X.env.scope y) (hw : PI X (.Name x px) iter wi)
    (hi : ∀ C s₀ H₀ fp,zmx (zbi X scope C (x :: ns) s₀ H₀ fp) ifs tt) (he : ∀ C s₀ H₀ fp,PE (zbi X scope C (x :: ns) s₀ H₀ fp) elt te)
    (hsw : swapsWith (.ListComp elt [⟨.Name x px,iter,ifs,0⟩] scope pos) (some (.Name y py)) spos.line X.env = pure true) (hf : X.fn y = true \/ X.env.scope.names.lookup y = some .local := by first | exact .inl rfl | exact .inr rfl | assumption)
    (hs : ∀ x,foldedSetIterable iter X.env x = pure x := by intro _; rfl) : PS X (.Assign [.Name y py] (.ListComp elt [⟨.Name x px,iter,ifs,0⟩] scope pos) spos) (znz (tLC wi idx (zcL 0) tt te) (zcL i)) := by
  intro pins s σ H D I h; rw [exec_Assign_Name_used _ _ _ _ hsw]; refine wpAny_bind (wpAny_standAt (wpAny_bind ?_)); show wpAny _ X.A (do let _ <- comprehension (.ListComp elt [⟨.Name x px,iter,ifs,0⟩] scope pos) scope X.env _ (newList []) false (eval iter X.env) (some (assign (.Name y py) X.env))) _ _ s
  refine wpAny_bind (wpAny_mono (wpAny_comprehension_free (use := some (assign (.Name y py) X.env)) (Q := fun _ s' => SP X pins D .next s') rfl hs (N.clos I.ok) N.kind N.loc
    (thn (hw pins s σ H _ I h) fun v s1 h1 => thn h1 fun itv s2 h2 => ?_)) (fun _ s' hq => wpAny_pure (wpAny_pure hq)) fun _ _ e => e)
  obtain ⟨it,fp,tn,J,H2,e,I2,T,st2,f2,q⟩ := h2; subst e; refine zg6 (Q := fun x H1 => zcL i x σ H1 D.nx) (RR := fun acc C => compPost (model X.prog X.w) X.A X.xe (some (assign (.Name y py) X.env)) (fun _ s' => SP X pins D .next s') acc C) N hcalm (zh1 N) hi he I2 T st2 f2 q fun E C s' H' I' F' hm q' => ?_; obtain ⟨m,hn⟩ := hm; obtain ⟨f0,f1,f3,f4,f5,f6⟩ := F'; show wpAny _ X.A (assign (.Name y py) X.env (.ref E)) _ _ s'; refine wpAny_assign_Name (zgV I' hN hiy hly (show RelV (.ref E) (.ref E) from rfl) (fun s'' I'' hsb => ?_) hf); obtain ⟨a,sb,ha⟩ := hsb
  have hCa : C ≠ a := by
    rcases ha with z | z
    . rw [z]; exact f1
    . exact fun e => f5 y a z e.symm
  refine ⟨m,hn.sameBut sb hCa,fun h' hs' => ?_⟩; exact ⟨_,H',I''.turned (t' := s''.toks) (fun b o hb e => (hs'.2 b hb).trans e) f0 f1 f4 f5 f6,q'⟩
end
theorem zfv {K : Fg} {a : Addr} {xs : List V} {idx : List Nat} {tt : TT} {te : TE} {σ : St} {H : Hp} {Q : VK} (p : V -> Bool) (f : V -> V) (hq : SqL K H a xs) (hl : xs.length <= sizeLine)
    (ht : ∀ x ∈ xs,∀ D ys (R : Bool -> Hp -> Prop),H D = none -> R (p x) (upd H D (.lst ys)) -> tt (some x :: cap σ idx) (upd H D (.lst ys)) R)
    (he : ∀ x ∈ xs,p x = true -> ∀ D ys (R : VK),H D = none -> R (f x) (upd H D (.lst ys)) -> te (some x :: cap σ idx) (upd H D (.lst ys)) R)
    (hQ : ∀ D,H D = none -> Q (.ref D) (upd H D (.lst ((xs.filter p).map f)))) :
    LCW idx (Itl K a) (zcL 0) tt te Q σ H := by
  intro D hD; refine ⟨fun i m ys ρ H' => m = xs.length - i /\ i <= xs.length /\ ys = ((xs.take i).filter p).map f /\ (∃ y0,ρ = y0 :: cap σ idx) /\ H' = upd H D (.lst ys),⟨xs.length,by simp,Nat.zero_le _,by simp,⟨none,rfl⟩,rfl⟩,?_⟩
  rintro i m ys ρ H' ⟨rfl,hi,hys,⟨y0,rfl⟩,rfl⟩; refine ⟨zab,?_⟩
  have hqD : ∀ zs,SqL K (upd H D (.lst zs)) a xs := fun zs => by
    rcases hq with (h | ⟨o,h⟩) | h
    . exact .inl (.inl (by rw [zaj (zam h hD)]; exact h))
    . exact .inl (.inr ⟨o,by rw [zaj (zam h hD)]; exact h⟩)
    . exact .inr h
  by_cases hlt : i < xs.length
  . refine .inr ⟨⟨xs,xs[i],hqD ys,by simp [hlt]⟩,?_,fun x H' y => ?_⟩
    . rw [hys,List.length_map]; have h1 := List.length_filter_le p (xs.take i); have h2 : (xs.take i).length = i := by rw [List.length_take]; omega
      omega
    . obtain ⟨e,y⟩ := y; subst e; have hx : xs[i]? = some x := y xs (hqD ys); have hmem : x ∈ xs := List.mem_of_getElem? hx; have htk : xs.take (i + 1) = xs.take i ++ [x] := by rw [List.take_add_one,hx]; rfl
      show tt (some x :: cap σ idx) (upd H D (.lst ys)) _; refine ht x hmem D ys _ hD ?_
      cases hp : p x with
      | true =>
        rw [if_pos rfl]; refine he x hmem hp D ys _ hD ⟨zab,xs.length - (i + 1),by omega,rfl,hlt,?_,⟨some x,rfl⟩,zhl⟩
        rw [htk,List.filter_append,List.map_append,hys]; simp [hp]
      | false =>
        rw [if_neg fnt]; refine ⟨xs.length - (i + 1),by omega,rfl,hlt,?_,⟨some x,rfl⟩,rfl⟩
        rw [htk,List.filter_append,List.map_append,hys]; simp [hp]
  . have e : i = xs.length := by omega
    subst e; refine .inl ⟨⟨xs,hqD ys,Nat.le_refl _⟩,?_⟩; rw [hys,List.take_length]; exact hQ D hD
def zaz (lo : Int) (n : Nat) : List Int := (List.range n).map fun (i : Nat) => lo + (i : Int)
theorem zf6 {lo : Int} {n : Nat} {idx : List Nat} {tt : TT} {te : TE} {σ : St} {H : Hp} {Q : VK} (p : Int -> Bool) (f : Int -> V) (hl : n <= sizeLine)
    (ht : ∀ x,lo <= x -> x < lo + n -> ∀ D ys (R : Bool -> Hp -> Prop),H D = none -> R (p x) (upd H D (.lst ys)) -> tt (some (.int x) :: cap σ idx) (upd H D (.lst ys)) R)
    (he : ∀ x,lo <= x -> x < lo + n -> p x = true -> ∀ D ys (R : VK),H D = none -> R (f x) (upd H D (.lst ys)) -> te (some (.int x) :: cap σ idx) (upd H D (.lst ys)) R)
    (hQ : ∀ D,H D = none -> Q (.ref D) (upd H D (.lst (((zaz lo n).filter p).map f)))) :
    LCW idx (Itr lo n) (zcL 0) tt te Q σ H := by
  intro D hD; refine ⟨fun i m ys ρ H' => m = n - i /\ i <= n /\ ys = ((zaz lo i).filter p).map f /\ (∃ y0,ρ = y0 :: cap σ idx) /\ H' = upd H D (.lst ys),⟨n,by simp,Nat.zero_le _,by simp [zaz],⟨none,rfl⟩,rfl⟩,?_⟩
  rintro i m ys ρ H' ⟨rfl,hi,hys,⟨y0,rfl⟩,rfl⟩; refine ⟨zab,?_⟩
  by_cases hlt : i < n
  . refine .inr ⟨hlt,?_,fun x H' y => ?_⟩
    . rw [hys,List.length_map]; have h1 := List.length_filter_le p (zaz lo i); have h2 : (zaz lo i).length = i := by simp [zaz]
      omega
    . obtain ⟨e,y⟩ := y; subst e y; have htk : zaz lo (i + 1) = zaz lo i ++ [lo + (i : Int)] := by simp [zaz,List.range_succ]
      show tt (some (.int (lo + i)) :: cap σ idx) (upd H D (.lst ys)) _; refine ht (lo + i) (by omega) (by omega) D ys _ hD ?_
      cases hp : p (lo + i) with
      | true =>
        rw [if_pos rfl]; refine he (lo + i) (by omega) (by omega) hp D ys _ hD ⟨zab,n - (i + 1),by omega,rfl,hlt,?_,⟨_,rfl⟩,zhl⟩
        rw [htk,List.filter_append,List.map_append,hys]; simp [hp]
      | false =>
        rw [if_neg fnt]; refine ⟨n - (i + 1),by omega,rfl,hlt,?_,⟨_,rfl⟩,rfl⟩
        rw [htk,List.filter_append,List.map_append,hys]; simp [hp]
  . have e : i = n := by omega
    subst e; refine .inl ⟨Nat.le_refl _,?_⟩; rw [hys]; exact hQ D hD
open PySem.SeqAt (noMix noMixAll)
mutual
/-- the value is that datum -/
def Is (K : Fg) (H : Hp) : PyData -> V -> Prop
  | .none,v => v = .non
  | .bool b,v => v = .bl b
  | .int i,v => v = .int i
  | .str x,v => v = .str x
  | .list ds,v => ∃ a xs,v = .ref a /\ SqL K H a xs /\ IsAll K H ds xs
  | .tuple ds,v => ∃ a xs,v = .ref a /\ SqT K H a xs /\ IsAll K H ds xs
  | .dict _,_ => False
def IsAll (K : Fg) (H : Hp) : List PyData -> List V -> Prop
  | [],xs => xs = []
  | d :: ds,xs => ∃ y ys,xs = y :: ys /\ Is K H d y /\ IsAll K H ds ys
end
section
variable {X : Cx} {pins : List (Addr × Obj)} {σ : St} {H : Hp} {s : Shared}
mutual
theorem Is.reads (I : Inv X pins σ H s) : ∀ (d : PyData) (v : V) (u : Value),Is X.K H d v -> RelV v u -> ∃ as,Reads s.heap u d as
  | .none,v,u,h,r => by
    have h' : v = .non := by simpa only [Is] using h
    subst h'; cases (show u = Value.none from r); exact ⟨_,.none⟩
  | .bool b,v,u,h,r => by
    have h' : v = .bl b := by simpa only [Is] using h
    subst h'; cases (show u = Value.bool b from r); exact ⟨_,.bool b⟩
  | .int i,v,u,h,r => by
    have h' : v = .int i := by simpa only [Is] using h
    subst h'; obtain ⟨t,rfl⟩ := (show ∃ t,u = Value.int i t from r); exact ⟨_,.int i t⟩
  | .str x,v,u,h,r => by
    have h' : v = .str x := by simpa only [Is] using h
    subst h'; obtain ⟨t,rfl⟩ := (show ∃ t,u = Value.str x t from r); exact ⟨_,.str x t⟩
  | .list ds,v,u,h,r => by
    have h' : ∃ a xs,v = .ref a /\ SqL X.K H a xs /\ IsAll X.K H ds xs := by simpa only [Is] using h
    obtain ⟨a,xs,rfl,hq,ha⟩ := h'
    cases (show u = Value.ref a from r)
    obtain ⟨its,rv,⟨o,n,e,hc,_,hd⟩,_⟩ := I.list hq; obtain ⟨as,ra⟩ := IsAll.reads I ds xs its ha rv; exact ⟨_,.list e hc hd (by simpa using ra)⟩
  | .tuple ds,v,u,h,r => by
    have h' : ∃ a xs,v = .ref a /\ SqT X.K H a xs /\ IsAll X.K H ds xs := by simpa only [Is] using h
    obtain ⟨a,xs,rfl,hq,ha⟩ := h'
    cases (show u = Value.ref a from r)
    obtain ⟨its,rv,⟨o,e,hc,n,hd⟩,_⟩ := I.tuple hq; obtain ⟨as,ra⟩ := IsAll.reads I ds xs its ha rv; exact ⟨_,.tuple e hc hd (by simpa using ra)⟩
  | .dict _,v,u,h,r => by
    have h' : False := by simpa only [Is] using h
    exact h'.elim
theorem IsAll.reads (I : Inv X pins σ H s) : ∀ (ds : List PyData) (xs : List V) (us : List Value),IsAll X.K H ds xs -> Vals xs us -> ∃ as,ReadsAll s.heap us ds as
  | [],xs,us,h,r => by
    have h' : xs = [] := by simpa only [IsAll] using h
    subst h'; cases r; exact ⟨_,.nil⟩
  | d :: ds,xs,us,h,r => by
    have h' : ∃ y ys,xs = y :: ys /\ Is X.K H d y /\ IsAll X.K H ds ys := by simpa only [IsAll] using h
    obtain ⟨y,ys,rfl,h1,h2⟩ := h'
    cases r with
    | cons r1 r2 =>
      obtain ⟨as,q1⟩ := Is.reads I d y _ h1 r1; obtain ⟨bs,q2⟩ := IsAll.reads I ds ys _ h2 r2; exact ⟨_,.cons q1 q2⟩
end
end
mutual
/-- neither bools nor dicts -/
def zbr : PyData -> Bool
  | .bool _ => false
  | .dict _ => false
  | .list ds => zbt ds
  | .tuple ds => zbt ds
  | .none => true
  | .int _ => true
  | .str _ => true
def zbt : List PyData -> Bool
  | [] => true
  | d :: ds => zbr d && zbt ds
end
mutual
theorem zek : ∀ d e : PyData,zbr d = true -> zbr e = true -> noMix d e = true
  | .bool _,_,h,_ => by simp [zbr] at h
  | .dict _,_,h,_ => by simp [zbr] at h
  | .none,e,_,h => by cases e <;> simp_all [noMix,zbr]
  | .int _,e,_,h => by cases e <;> simp_all [noMix,zbr]
  | .str _,e,_,h => by cases e <;> simp_all [noMix,zbr]
  | .list ds,e,h,h' => by
    cases e with
    | list es => simp only [noMix]; simp only [zbr] at h h'; exact zdj ds es h h'
    | bool _ => simp [zbr] at h'
    | dict _ => simp [zbr] at h'
    | _ => simp [noMix]
  | .tuple ds,e,h,h' => by
    cases e with
    | tuple es => simp only [noMix]; simp only [zbr] at h h'; exact zdj ds es h h'
    | bool _ => simp [zbr] at h'
    | dict _ => simp [zbr] at h'
    | _ => simp [noMix]
theorem zdj : ∀ ds es : List PyData,zbt ds = true -> zbt es = true -> noMixAll ds es = true
  | [],es,_,_ => by cases es <;> simp [noMixAll]
  | d :: ds,[],_,_ => by simp [noMixAll]
  | d :: ds,e :: es,h,h' => by
    simp only [zbt,Bool.and_eq_true] at h h'; simp only [noMixAll,Bool.and_eq_true]; exact ⟨zek d e h.1 h'.1,zdj ds es h.2 h'.2⟩
end
def Cmp (d : PyData) : Prop := SeqAt.shaped d = true /\ zbr d = true
section
variable {X : Cx}
def zqt (K : Fg) : R2 := fun x y H Q => ∃ d e,Is K H d x /\ Is K H e y /\ Cmp d /\ Cmp e /\ Q (.bl (same d e)) H
def zqu (K : Fg) : R2 := fun x y H Q => ∃ d e,Is K H d x /\ Is K H e y /\ Cmp d /\ Cmp e /\ Q (.bl (!same d e)) H
theorem zhk (hu : X.A.units + 64 < cLine) : OpR X (compareOp .Eq) (zqt X.K) := by
  intro pins s σ H x y v u Q I rx ry h; obtain ⟨d,e,h1,h2,c1,c2,q⟩ := h; obtain ⟨as,ra⟩ := Is.reads I d x v h1 rx; obtain ⟨bs,rb⟩ := Is.reads I e y u h2 ry; exact eq_dataH_same ra rb c1.1 c2.1 hu (zek d e c1.2 c2.2) ⟨.bl _,H,I,rfl,q⟩
theorem zmR (hu : X.A.units + 64 < cLine) : OpR X (compareOp .NotEq) (zqu X.K) := by
  intro pins s σ H x y v u Q I rx ry h; obtain ⟨d,e,h1,h2,c1,c2,q⟩ := h; obtain ⟨as,ra⟩ := Is.reads I d x v h1 rx; obtain ⟨bs,rb⟩ := Is.reads I e y u h2 ry; exact ne_dataH_same ra rb c1.1 c2.1 hu (zek d e c1.2 c2.2) ⟨.bl _,H,I,rfl,q⟩
def zp1 (K : Fg) : List V -> Hp -> VK -> Prop := fun xs H Q => ∃ x T t b,xs = [x,.ty T] /\ TyOf K H x t /\ PySem.W.kitOne K t (.type T) = some b /\ Q (.bl b) H
theorem zlm : zbH X (.builtin "isinstance") (zp1 X.K) := by
  intro pins s σ H xs us Q I r h; obtain ⟨x,T,t,b,rfl,ty,e,q⟩ := h; obtain ⟨u,w',rfl,rx,rt⟩ := zim r
  cases (show w' = Value.type T from rt)
  exact zkv I rx ty e fun tk => ⟨.bl b,H,I.tok tk,rfl,q⟩
inductive zpx (K : Fg) (xs : List V) (H : Hp) (Q : VK) : Prop
  | mk (p ns : _) : (xs = [.ref p]) -> (SqL K H p (ns.map V.int)) -> (ns ≠ []) -> (∀ M,M ∈ ns -> (∀ a ∈ ns,M <= a) -> Q (.int M) H) -> zpx K xs H Q
theorem zg9 (hc : X.calm = true) : zbH X (.builtin "min") (zpx X.K) := by
  intro pins s σ H xs us Q I r h; obtain ⟨p,ns,rfl,hq,hne,q⟩ := h; obtain ⟨u,rfl,ru⟩ := zc4 r
  cases (show u = Value.ref p from ru)
  obtain ⟨its,rv,pl,hz⟩ := I.list hq; have hi : IntsAre its ns := zdS rv; obtain ⟨zs,hzs⟩ := hi.allInts.items; have hpl := pl.isList; rw [hzs] at hpl
  have hsz : 0 < zs.size := by
    have e1 : its.length = ns.length := by have := rv.length; rw [List.length_map] at this; omega
    have e2 : 0 < ns.length := by cases ns with | nil => exact absurd rfl hne | cons _ _ => simp
    have e3 : its.toArray.size = zs.size := by rw [hzs]; simp [intItems]
    rw [List.size_toArray] at e3; omega
  have hnum : ns = numsOf its := hi.numsOf.symm
  have hnum2 : numsOf its = zs.toList.map (·.1) := by
    have := nums_intItems zs; rw [<- hzs] at this
    simpa using this
  refine min_intList (I.ok.hd hc) hpl hsz fun v h' tk hv hk => ?_; obtain ⟨t,rfl⟩ := intItems_at hv; obtain ⟨h1,h2⟩ := argBest_lt (numAt zs) (zs.size - 1); refine ⟨.int _,H,I.kept hk,⟨t,rfl⟩,q _ ?_ fun a ha => ?_⟩
  . rw [hnum,hnum2,numAt_eq]; exact getD_mem (by rw [List.length_map,Array.length_toList]; omega)
  . rw [hnum,hnum2] at ha; obtain ⟨j,hj,rfl⟩ := mem_getD ha; rw [List.length_map,Array.length_toList] at hj; rw [<- numAt_eq]; exact h2 j (by omega)
inductive zpL (xs : List V) (H : Hp) (Q : VK) : Prop
  | mk (x n : _) : (xs = [.str x]) -> (PySem.intText? x = some n) -> (x.length <= 640) -> (Q (.int n) H) -> zpL xs H Q
theorem zk7 : zbH X (.type "int") zpL := by
  intro pins s σ H xs us Q I r h; obtain ⟨x,n,rfl,e,hl,q⟩ := h; obtain ⟨u,rfl,t,rfl⟩ := zc4 r; exact PySem.W.KIN.call_text e hl ⟨.int n,H,I.tok _,⟨_,rfl⟩,q⟩
def zp7 (x : Str) (n : Nat) : Str := ⟨(List.replicate n x.cps).foldl (· ++ ·) #[]⟩
theorem zm0 : OpR X (binaryOp .Mult) (fun x y H Q => ∃ z n,x = .str z /\ y = .int n /\ 2 <= n /\ n <= 10000 /\ z.length = 1 /\ (zp7 z n.toNat).length <= sizeLine /\ Q (.str (zp7 z n.toNat)) H) := by
  intro pins s σ H x y v u Q I rx ry h; obtain ⟨z,n,rfl,rfl,h2,hn,hz,hl,q⟩ := h; obtain ⟨t,rfl⟩ := rx; obtain ⟨t',rfl⟩ := ry; have c1 : ¬ n < 1 := by omega
  have c2 : (n == 1 || z.length == 0) = false := by
    rw [hz]; have : (n == 1) = false := by simpa using (show n ≠ 1 by omega)
    rw [this]; rfl
  have hs : sizeLine = 16777216 := sizeLine_eq; refine PySem.P.mul_str ?_ (fun _ _ => ?_) (fun _ _ => ?_) ?_
  . rw [decide_eq_false (show ¬ n < -(2 ^ 63 : Int) by omega),decide_eq_false (show ¬ n ≥ 2 ^ 63 by omega)]; rfl
  . rw [hz]; intro hgt
    have h3 : ((2 ^ 63 - 1 : Int) / n) ≥ 1 := by
      have : (n : Int) * 1 <= 2 ^ 63 - 1 := by omega
      exact Int.le_ediv_of_mul_le (by omega) (by omega)
    have h4 : ((1 : Nat) : Int) > (2 ^ 63 - 1) / n := hgt; omega
  . rw [hz,Nat.one_mul]; unfold Builtin.Str.tooLong; exact decide_eq_false (by omega)
  . rw [if_neg c1,if_neg (by rw [c2]; decide)]
    exact ⟨hl,⟨.str _,H,I.tok _,⟨_,rfl⟩,q⟩⟩
end
structure Fn (P : Program) (w : World) (K : Fg) (mg : Str -> Option Value) (base : Heap) (x : Str) (k : Nat) (sp : Sp) : Prop where
  ex : ∃ (f : Addr) (fd : FuncData) (ps : List Str),FnOk P w K mg base CX0 k f fd ps sp /\ mg x = some (.ref f) /\ PySem.W.keepIn K (.ref f) = true /\ Binds K fd ps []
theorem Fn.mk' {P : Program} {w : World} {K : Fg} {mg : Str -> Option Value} {base : Heap} {x : Str} {k : Nat} {sp : Sp} {f : Addr} {fd : FuncData} {ps : List Str} (ok : FnOk P w K mg base CX0 k f fd ps sp) (m : mg x = some (.ref f))
    (kp : PySem.W.keepIn K (.ref f) = true) (b : Binds K fd ps []) : Fn P w K mg base x k sp := ⟨f,fd,ps,ok,m,kp,b⟩
section
variable {X : Cx} {x : Str} {p pos : Pos} {e : Expr} {es : List Expr} {t : TA} {k j : Nat} {sp : Sp}
end
theorem zmA {K : Fg} : PySem.W.kitOne K (.type "int") (.type "int") = some true := by rfl
theorem zl8 {K : Fg} : PySem.W.kitOne K (.type "int") (.type "bool") = some false := by rfl
section
variable {X : Cx}
theorem zap (K : Fg) (h : X.K = K := by rfl) : IxR X (zpJ K) := h ▸ znF
theorem zai (K : Fg) (h : X.K = K := by rfl) : IxR X (zpD K) := h ▸ zoZ
theorem zij (K : Fg) (h : X.K = K := by rfl) : SlR X (zp9 K) := h ▸ znC
theorem zjc (K : Fg) (h : X.K = K := by rfl) : OpR X (compareOp .In) (rIn K false) := h ▸ zk6
theorem zbu (K : Fg) (h : X.K = K := by rfl) : OpR X (compareOp .NotIn) (rIn K true) := h ▸ zhN
theorem zcK (K : Fg) (h : X.K = K := by rfl) : zbH X (.builtin "isinstance") (zp1 K) := h ▸ zlm
theorem zau (K : Fg) (h : X.K = K := by rfl) : zbH X (.builtin "len") (zoy K) := h ▸ zhv
end
theorem zda {c A B : Prop} [Decidable c] (h : ¬ c) (b : B) : if c then A else B := by rw [if_neg h]; exact b
theorem zcI {c A B : Prop} [Decidable c] (h : c) (a : A) : if c then A else B := by rw [if_pos h]; exact a
theorem znY {c A B : Prop} [Decidable c] (h : ¬ c) (b : B) : if decide c = true then A else B := zda (by rw [decide_eq_true_eq]; exact h) b
theorem zpM {c A B : Prop} [Decidable c] (h : c) (a : A) : if decide c = true then A else B := zcI (decide_eq_true h) a
theorem znE {c A B : Prop} [Decidable c] (h1 : c -> A) (h2 : ¬ c -> B) : if decide c = true then A else B := by
  by_cases h : c
  . exact zpM h (h1 h)
  . exact znY h (h2 h)
theorem at0 {α : Type} {x : α} {r : List α} : atI (x :: r) 0 = some x := zbO (j := 0) rfl
theorem at1 {α : Type} {x y : α} {r : List α} : atI (x :: y :: r) 1 = some y := zbO (j := 1) rfl
theorem at2 {α : Type} {x y z : α} {r : List α} : atI (x :: y :: z :: r) 2 = some z := zbO (j := 2) rfl
theorem at3 {α : Type} {x y z w : α} {r : List α} : atI (x :: y :: z :: w :: r) 3 = some w := zbO (j := 3) rfl
theorem zhq {α : Type} {xs : List α} {i : Int} (h0 : 0 <= i) (h1 : i < xs.length) : ∃ v,atI xs i = some v /\ xs[i.toNat]? = some v := by
  have hl : i.toNat < xs.length := by omega
  refine ⟨xs[i.toNat],?_,by simp [hl]⟩
  have e : ((i.toNat : Nat) : Int) = i := by omega
  have := zbO (j := i.toNat) (v := xs[i.toNat]) (xs := xs) (by simp [hl])
  rw [e] at this; exact this
theorem Same.upd {H : Hp} {a : Addr} {o : HO} (h : H a = none) : Same H (L2.upd H a o) := fun b u e => by rw [zaj (zam e h)]; exact e
theorem Same.tup {K : Fg} {H H' : Hp} {a : Addr} {xs : List V} (e : Same H H') (h : SqT K H a xs) : SqT K H' a xs := by
  rcases h with (h | ⟨o,h⟩) | h
  . exact .inl (.inl (e _ _ h))
  . exact .inl (.inr ⟨o,e _ _ h⟩)
  . exact .inr h
theorem zbU (i : Int) : ∀ gs : List Int,inV (.int i) (gs.map V.int) = gs.any fun g => g == i
  | [] => rfl
  | g :: r => by
    have := zbU i r; unfold inV at this ⊢; rw [List.map_cons,List.any_cons,List.any_cons,this]
    rfl
theorem zb2 : ∀ gs : List Int,(gs.map V.int).all zef = true
  | [] => rfl
  | g :: r => by
    rw [List.map_cons,List.all_cons,zb2 r]
    rfl
theorem zd6 {K : Fg} {H : Hp} : ∀ ns : List Int,IsAll K H (ns.map PyData.int) (ns.map V.int)
  | [] => by simp [IsAll]
  | n :: r => by
    rw [List.map_cons,List.map_cons]; simp only [IsAll]; exact ⟨_,_,rfl,by simp [Is],zd6 r⟩
theorem zcu {K : Fg} {H : Hp} {a : Addr} {ns : List Int} (h : SqL K H a (ns.map V.int)) : Is K H (.list (ns.map PyData.int)) (.ref a) := by
  simp only [Is]; exact ⟨a,_,rfl,h,zd6 ns⟩
theorem zc0 : ∀ ns : List Int,zbt (ns.map PyData.int) = true
  | [] => by simp [zbt]
  | n :: r => by simp [zbt,zbr,zc0 r]
theorem zbS (ns : List Int) : Cmp (.list (ns.map PyData.int)) := ⟨PySem.W.ke_shaped_ints ns,by simp only [zbr]; exact zc0 ns⟩
theorem zcU (ns ms : List Int) : same (.list (ns.map PyData.int)) (.list (ms.map PyData.int)) = decide (ns = ms) := PySem.W.ke_same ns ms
def zlw (h : Heap) (e T : Addr) (C fl : Value) : Prop :=
  ∃ oe vs oT ts a0,h.get? e = some oe /\ (oe.cls = C /\ vs[0]? = some a0) /\ oe.data = .fields vs /\ vs[1]? = some (.ref T) /\ T ≠ e /\ h.get? T = some oT /\ oT.data = .fields ts /\ ts[3]? = some fl
def zpK (h : Heap) (e : Addr) (C : Value) : Prop := ∃ oe vs a0,h.get? e = some oe /\ (oe.cls = C /\ vs[0]? = some a0) /\ oe.data = .fields vs /\ vs[1]? = some .none
structure Fl (fr Z : List Addr) (h h' : Heap) : Prop where
  keep : ∀ b o,b ∉ Z -> b ∉ fr -> h.get? b = some o -> h'.get? b = some o
  slot : ∀ b o,b ∈ fr -> h.get? b = some o -> ∃ sl,h'.get? b = some { o with slots := sl }
structure Ls (X : Cx) (pins : List (Addr × Obj)) (H : Hp) (z : Addr) : Prop where
  un : H z = none
  new : X.s₀.heap.get? z = none
  loc : z ≠ X.env.locals
  cell : ∀ x c,X.env.cells.lookup x = some c -> c ≠ z
  pin : ∀ p ∈ X.pn ++ pins,p.1 ≠ z
theorem ObjOk.here {P : Program} {w : World} {H : Hp} {h : Heap} {a : Addr} {o : HO} (x : ObjOk P w H h a o) : ∃ ob,h.get? a = some ob := by
  cases o with
  | lst xs => obtain ⟨_,_,_,_,e⟩ := x; exact ⟨_,e⟩
  | tup xs => obtain ⟨_,_,_,_,e,_⟩ := x; exact ⟨_,e⟩
  | dK kvs => obtain ⟨_,_,_,_,o,_,_,e,_⟩ := x; exact ⟨_,e⟩
  | dT kvs => obtain ⟨_,_,_,_,o,_,_,e,_⟩ := x; exact ⟨_,e⟩
  | set S n => obtain ⟨o,_,_,_,e,_⟩ := x; exact ⟨_,e⟩
  | ins C dx fs => obtain ⟨_,_,_,e,_⟩ := x; exact ⟨_,e⟩
  | own y => obtain ⟨_,e⟩ := x; exact ⟨_,e⟩
  | xd fs => obtain ⟨_,⟨_,_,_,e,_⟩,_⟩ := x; exact ⟨_,e⟩
  | rng lo hi => obtain ⟨_,_,_,e⟩ := x; exact ⟨_,e⟩
  | frz ob u => obtain ⟨e,_⟩ := x; exact ⟨_,e⟩
  | tbl ps => exact ⟨_,(show h.get? a = some _ from x)⟩
  | met f y => exact ⟨_,(show h.get? a = some _ from x)⟩
  | ext φ => obtain ⟨_,⟨_,e⟩,_⟩ := x; exact ⟨_,e⟩
section
variable {X : Cx} {pins : List (Addr × Obj)} {σ : St} {H : Hp} {s : Shared} {h' : Heap}
theorem Inv.old {z : Addr} (I : Inv X pins σ H s) (hz : s.heap.get? z = none) (hx : z ∉ X.ex) : X.s₀.heap.get? z = none := by
  cases e : X.s₀.heap.get? z with
  | none => rfl
  | some o => obtain ⟨o',q⟩ := I.base.there z o e hx; rw [hz] at q; cases q
theorem Inv.un' {z : Addr} (I : Inv X pins σ H s) (hz : s.heap.get? z = none) : H z = none := by
  cases e : H z with
  | none => rfl
  | some o => obtain ⟨ob,q⟩ := (I.hok z o e).here; rw [hz] at q; cases q
theorem Inv.ls {z : Addr} (I : Inv X pins σ H s) (hz : s.heap.get? z = none) (hx : z ∉ X.ex) : Ls X pins H z := by
  refine ⟨I.un' hz,I.old hz hx,fun q => ?_,fun x c e q => ?_,fun p hp q => ?_⟩
  . obtain ⟨m,⟨o,_,_,ho,_⟩,_⟩ := I.loc; rw [<- q,hz] at ho; cases ho
  . obtain ⟨v,o,ho,_⟩ := I.cell x c e; rw [q,hz] at ho; cases ho
  . have := (I.pin p hp).1; rw [q,hz] at this; cases this
theorem Inv.fly {Z : List Addr} (I : Inv X pins σ H s) (hz : ∀ z ∈ Z,Ls X pins H z) (f : Fl (frs X.stack) Z s.heap h') : Inv X pins σ H { s with heap := h' } := by
  have tr : ∀ b o,H b = some o -> b ∉ Z /\ b ∉ frs X.stack := fun b o e => by
    refine ⟨fun q => ?_,fun q => ?_⟩
    . have := (hz b q).un; rw [e] at this; cases this
    . have := I.stkFree b q; rw [e] at this; cases this
  have any : ∀ b o,b ∉ Z -> s.heap.get? b = some o -> ∃ sl,h'.get? b = some { o with slots := sl } := fun b o hb e => by
    by_cases q : b ∈ frs X.stack
    . exact f.slot b o q e
    . exact ⟨o.slots,f.keep b o hb q e⟩
  have nz : ∀ b o,X.s₀.heap.get? b = some o -> b ∉ Z := fun b o e q => by rw [(hz b q).new] at e; cases e
  have nL : ∀ b o,X.s₀.heap.get? b = some o -> b ≠ X.env.locals := fun b o e => Nat.ne_of_lt (Nat.lt_of_lt_of_le (Heap.lt_size e) I.ok.above); have nf : ∀ b,b ≠ X.env.locals -> b ∉ X.fs -> b ∉ frs X.stack := fun b h1 h2 q => (List.mem_cons.mp (I.stkSub b q)).elim h1 h2
  have cK : ∀ x c,X.env.cells.lookup x = some c -> ∀ v,s.heap.IsCell c v -> h'.IsCell c v := fun x c e v ⟨o,ho,hd⟩ => by
    obtain ⟨sl,q⟩ := any c o (fun q => (hz c q).cell x c e rfl) ho; exact ⟨_,q,hd⟩
  refine ⟨I.ok,I.os,I.bare,⟨fun b o e n hb hx => f.keep b o (nz b o e) (nf b (nL b o e) hb) (I.base.keep b o e n hb hx),fun b o e n hb hx => ?_,I.base.free,fun b o e hx => ?_,I.base.tups,I.base.frzs,I.base.tbls⟩,?_,fun x c e => ?_,I.free,I.freeC,fun p hp => ?_,
    fun a o e => (I.hok a o e).stay (fun b u hb q => ?_) (fun _ q => q) fun _ _ q => q,I.len⟩
  . obtain ⟨sl,e1⟩ := I.base.slot b o e n hb hx; obtain ⟨sl',e2⟩ := any b _ (nz b o e) e1; exact ⟨sl',e2⟩
  . obtain ⟨o',e1⟩ := I.base.there b o e hx; obtain ⟨sl',e2⟩ := any b _ (nz b o e) e1; exact ⟨_,e2⟩
  . obtain ⟨m,⟨o,es,ep,ho,r⟩,hl⟩ := I.loc; obtain ⟨sl,q⟩ := any _ o (fun q => (hz _ q).loc rfl) ho; refine ⟨m,⟨_,es,ep,q,r⟩,fun i x v e1 e2 e3 => ?_⟩; obtain ⟨u,rv,l⟩ := hl i x v e1 e2 e3; refine ⟨u,rv,?_⟩
    rcases l with l | ⟨k,c,e,z⟩
    . exact .inl l
    . exact .inr ⟨k,c,e,cK x c e _ z⟩
  . obtain ⟨v,z⟩ := I.cell x c e; exact ⟨v,cK x c e v z⟩
  . obtain ⟨e,n,ne,nfs,d⟩ := I.pin p hp; exact ⟨f.keep p.1 p.2 (fun q => (hz _ q).pin p hp rfl) (nf _ ne nfs) e,n,ne,nfs,d⟩
  . rcases hb with rfl | hb
    . exact f.keep b u (tr b o e).1 (tr b o e).2 q
    . exact f.keep b u (tr b _ hb).1 (tr b _ hb).2 q
end
section
variable {M : Model} {A : Around} {E : Value -> Shared -> Prop} {s : Shared} {base : Heap} {l : List Env}
theorem zbE {h h0 : Heap} {Z : List Addr} : ∀ {l : List Env},h.FunFrames h0 l -> (∀ b ∈ frs l,b ∈ Z) -> h.FunFrames (PySem.W.hideAll h Z) l
  | [],_,_ => trivial
  | env :: r,⟨k,⟨L,o,e1,_,e3,e4⟩,q⟩,hz => by
    have hm : ∀ b ∈ frs r,b ∈ frs (env :: r) := fun b hb => by unfold frs; rw [List.filterMap_cons,e1]; exact List.mem_cons_of_mem _ hb
    exact ⟨k,⟨L,o,e1,PySem.W.hideAll_none _ (hz L (by unfold frs; rw [List.filterMap_cons,e1]; exact List.mem_cons_self ..)),e3,e4⟩,zbE q fun b hb => hz b (hm b hb)⟩
theorem zbw {h h0 : Heap} : ∀ {l : List Env},h.FunFrames h0 l -> ∀ b ∈ frs l,∃ o,h.get? b = some o /\ ∀ vs,o.data ≠ .fields vs
  | env :: r,⟨_,⟨L,o,e1,_,e3,e4⟩,q⟩,b,hb => by
    unfold frs at hb; rw [List.filterMap_cons,e1] at hb
    rcases List.mem_cons.mp hb with rfl | hb
    . exact ⟨o,e3,e4⟩
    . exact zbw q b hb
theorem zlP {h h' : Heap} {Z fr : List Addr} (k : (PySem.W.hideAll h (Z ++ fr)).StaysIn h') (fm : ∀ b ∈ fr,∃ o,h.get? b = some o /\ ∀ vs,o.data ≠ .fields vs)
    (sl : ∀ b o,h.get? b = some o -> (∀ vs,o.data ≠ .fields vs) -> ∃ sl,h'.get? b = some { o with slots := sl }) : Fl fr Z h h' :=
  ⟨fun b o h1 h2 e => k b o (PySem.W.hideAll_get _ e fun q => (List.mem_append.mp q).elim h1 h2),fun b o hb e => by
    obtain ⟨o',e1,e2⟩ := fm b hb; rw [e] at e1; cases e1
    exact sl b o e e2⟩
end
section
variable {X : Cx} {pins : List (Addr × Obj)} {σ : St} {H : Hp} {s : Shared} {e : Addr} {C : Value} {Q : Unit -> Shared -> Prop} {E : Value -> Shared -> Prop}
structure Own (X : Cx) : Prop where
  stk : X.stack = X.env :: X.outer
  fr : X.env.frame = some X.env.locals
  ex : X.ex = []
def Up (X : Cx) (pins : List (Addr × Obj)) (H : Hp) (h : Heap) (e : Addr) (C : Value) : Prop := ∃ T fl,Ls X pins H T /\ (fl = .none \/ fl = rawInt X.env.locals) /\ zlw h e T C fl
theorem zgg {Z : List Addr} {h' : Heap} {T : Addr} {oT : Obj} {ts : Array Value} (I : Inv X pins σ H s) (O : Own X) (hz : ∀ z ∈ Z,Ls X pins H z) (f : Fl (frs X.stack) Z s.heap h') (hn : (PySem.W.hideAll s.heap (Z ++ frs X.stack)).get? T = none)
    (hT : h'.get? T = some oT) (hd : oT.data = .fields ts) : Ls X pins H T := by
  cases q : s.heap.get? T with
  | none => exact I.ls q (by rw [O.ex]; simp)
  | some o =>
    by_cases hm : T ∈ Z ++ frs X.stack
    . rcases List.mem_append.mp hm with hm | hm
      . exact hz T hm
      . exfalso; obtain ⟨o',e1,e2⟩ := zbw I.stack T hm; rw [q] at e1; cases e1; obtain ⟨sl,e3⟩ := f.slot T o hm q; rw [hT] at e3; cases e3; exact e2 ts hd
    . rw [PySem.W.hideAll_get _ q hm] at hn; cases hn
theorem zjz (I : Inv X pins σ H s) (O : Own X) (le : Ls X pins H e) (hm : zpK s.heap e C \/ Up X pins H s.heap e C)
    (hq : ∀ h' T,Inv X pins σ H { s with heap := h' } -> Ls X pins H T -> zlw h' e T C .none -> Q () { s with heap := h' }) : wpAny (model X.prog X.w) X.A («leaving» X.env (.ref e)) Q E s := by
  have hfr : X.A.frames = some (X.env :: X.outer) := O.stk ▸ I.ok.frames; have stk := I.stack
  rcases hm with ⟨oe,vs,a0,he,⟨hc,h0⟩,hd,h1⟩ | ⟨T,fl,lT,hfl,oe,vs,oT,ts,a0,he,⟨hc,h0⟩,hd,h1,hTe,hT,hdT,h3⟩
  . have hz : ∀ z ∈ [e],Ls X pins H z := fun z hz => by rw [List.mem_singleton.mp hz]; exact le
    refine wpAny_leaving_firstW (base := PySem.W.hideAll s.heap ([e] ++ frs X.stack)) (a0 := a0) hfr (by rw [<- O.stk]; exact zbE stk fun b hb => List.mem_append_right _ hb) O.fr he (fun b o q => PySem.W.of_hideAll _ q) (PySem.W.hideAll_none _ (by simp)) hd h1 h0 fun h' hL => ?_
    obtain ⟨x1,_,⟨oe',vs',T,oT,ts,y1,y2,y3,y4,y5,y6,y7,y8,y9⟩,x4⟩ := hL; have f : Fl (frs X.stack) [e] s.heap h' := zlP x1 (zbw stk) x4; exact hq h' T (I.fly hz f) (zgg I O hz f y5 y7 y8) ⟨oe',vs',oT,ts,a0,y1,⟨y2.1.trans hc,y2.2⟩,y3,y4,y6,y7,y8,y9⟩
  . have hz : ∀ z ∈ [e,T],Ls X pins H z := fun z hz => by
      rcases List.mem_cons.mp hz with rfl | hz
      . exact le
      . rw [List.mem_singleton.mp hz]; exact lT
    rcases hfl with rfl | rfl
    . refine wpAny_leaving_nextW (base := PySem.W.hideAll s.heap ([e,T] ++ frs X.stack)) (cls := C) (a0 := a0) hfr (by rw [<- O.stk]; exact zbE stk fun b hb => List.mem_append_right _ hb) O.fr
        ⟨oe,vs,T,oT,ts,he,⟨hc,h0⟩,hd,h1,PySem.W.hideAll_none _ (by simp),hTe,hT,hdT,h3⟩ (fun b o q => PySem.W.of_hideAll _ q) (PySem.W.hideAll_none _ (by simp)) fun h' hL => ?_
      obtain ⟨x1,_,⟨oe',vs',T',oT',ts',y1,y2,y3,y4,y5,y6,y7,y8,y9⟩,x4⟩ := hL; have f : Fl (frs X.stack) [e,T] s.heap h' := zlP x1 (zbw stk) x4; exact hq h' T' (I.fly hz f) (zgg I O hz f y5 y7 y8) ⟨oe',vs',oT',ts',a0,y1,y2,y3,y4,y6,y7,y8,y9⟩
    . unfold «leaving»; refine wpAny_bind (wpAny_noteFrame_againW (base := PySem.W.hideAll s.heap ([e,T] ++ frs X.stack)) (cls := C) (a0 := a0) O.fr ⟨oe,vs,T,oT,ts,he,⟨hc,h0⟩,hd,h1,PySem.W.hideAll_none _ (by simp),hTe,hT,hdT,h3⟩ ?_)
      refine wpAny_setFlight_noneW (base := PySem.W.hideAll s.heap ([e,T] ++ frs X.stack)) (l := X.stack) (cls := C) (a0 := a0) (fl := rawInt X.env.locals) (fun b o q => PySem.W.of_hideAll _ q) (zbE stk fun b hb => List.mem_append_right _ hb)
        ⟨oe,vs,T,oT,ts,he,⟨hc,h0⟩,hd,h1,PySem.W.hideAll_none _ (by simp),hTe,hT,hdT,h3⟩ fun h2 z1 _ ⟨oe2,vs2,T2,oT2,ts2,u1,u2,u3,u4,u5,u6,u7,u8,u9⟩ z4 => ?_
      have f2 : Fl (frs X.stack) [e,T] s.heap h2 := zlP z1 (zbw stk) fun b o q n => ⟨o.slots,z4 b o q n⟩; exact hq h2 T2 (I.fly hz f2) (zgg I O hz f2 u5 u7 u8) ⟨oe2,vs2,oT2,ts2,a0,u1,u2,u3,u4,u6,u7,u8,u9⟩
end
def CX1 (P : Program) (w : World) : CXT := fun outer H s E x s' => ∃ e T C H',x = .ref e /\ s'.os = s.os /\ AllBare s'.gens /\ Un (frs outer) [] H H' s.heap s'.heap /\ HOk P w H' s'.heap ∧
  (H' e = none /\ s.heap.get? e = none) /\ (H' T = none /\ s.heap.get? T = none) /\ zlw s'.heap e T C .none /\ E C none H'
def XQ (X : Cx) (E : XK) (x : Value) (s' : Shared) : Prop := ∃ pins σ H e C,x = .ref e /\ Inv X pins σ H s' /\ Ls X pins H e /\ (zpK s'.heap e C \/ Up X pins H s'.heap e C) /\ E C none H
section
variable {P : Program} {w : World} {K : Fg} {mg : Str -> Option Value} {base : Heap} {N : List Str} {qual : Str} {scope : Scope} {f : Addr} {cd : Value} {A : Around} {outer : List Env} {s : Shared} {H : Hp} {E : XK}
theorem zjw {CX : CXT} : Own (zcp CX P w K mg base N qual scope f cd A outer s H E) := ⟨rfl,rfl,rfl⟩
theorem zlC {x : Value} {s' : Shared} (h : XQ (zcp (CX1 P w) P w K mg base N qual scope f cd A outer s H E) E x s') : (zcp (CX1 P w) P w K mg base N qual scope f cd A outer s H E).xe x s' := by
  obtain ⟨pins,σ,H',e,C,rfl,I,le,hm,q⟩ := h; refine zjz I zjw le hm fun h' T I' lT fl => ?_; exact ⟨e,T,C,H',rfl,I'.os,I'.bare,I'.base,I'.hok,⟨le.un,le.new⟩,⟨lT.un,lT.new⟩,fl,q⟩
end
section
variable {X : Cx} {E : XK}
theorem Ls.unwish {pins : List (Addr × Obj)} {H : Hp} {z : Addr} {F : Value -> Shared -> Prop} (l : Ls (X.wish F) pins H z) : Ls X pins H z := ⟨l.un,l.new,l.loc,l.cell,l.pin⟩
theorem XQ.unwish {F : Value -> Shared -> Prop} {x : Value} {s' : Shared} (h : XQ (X.wish F) E x s') : XQ X E x s' := by
  obtain ⟨pins,σ,H,e,C,rfl,I,le,hm,q⟩ := h; exact ⟨pins,σ,H,e,C,rfl,I.unwish,le.unwish,hm.imp id fun ⟨T,f,lT,hf,fl⟩ => ⟨T,f,lT.unwish,hf,fl⟩,q⟩
theorem zm5 {F : Value -> Shared -> Prop} (O : Own X) (hF : ∀ x s',XQ X E x s' -> X.xe x s') : zeY (CX1 X.prog X.w) X E := fun pins σ H s x s' I h => by
  obtain ⟨e,T,C,H',rfl,os,bare,un,hok,⟨e1,e2⟩,⟨t1,t2⟩,fl,q⟩ := h; have I' : Inv X pins σ H' s' := I.call' os un hok bare fun b z => nomatch z
  have ls : ∀ z,H' z = none -> s.heap.get? z = none -> Ls X pins H' z := fun z h1 h2 => by
    have l := I.ls h2 (by rw [O.ex]; simp)
    exact ⟨h1,l.new,l.loc,l.cell,l.pin⟩
  exact hF _ _ ⟨pins,σ,H',e,C,rfl,I',ls e e1 e2,.inr ⟨T,_,ls T t1 t2,.inl rfl,fl⟩,q⟩
end
theorem zng {K : Fg} {h : Heap} {C : Addr} {bmB : List Value} {newId : String} (X : K.In h) (q : PySem.W.excIn K C bmB newId = true) :
    ∃ bm N nm q bs hdct sn sub ab col dd k0 k1 k2 k3 k5 mN,h.get? C = some (excClassObj nm q C N bs bm hdct sn sub ab col dd k0 k1 k2 k3 k5 newId) /\ h.Ns N mN /\ mN "__init__" = none /\ OwnTail h bmB bm := by
  unfold PySem.W.excIn at q
  split at q
  case h_2 => cases q
  case h_1 d₁ data₁ slots₁ there =>
    split at q
    case h_2 => cases q
    case h_1 C₁ tail₁ a₀ a₁ a₂ a₃ new₁ a₅ mroIs slotsAre =>
      rw [Bool.and_eq_true,Bool.and_eq_true,Bool.and_eq_true,Bool.and_eq_true,Bool.and_eq_true] at q; obtain ⟨⟨⟨⟨⟨q1,q2⟩,q3⟩,q4⟩,q5⟩,q6⟩ := q
      cases eq_of_beq q1
      cases eq_of_beq q2
      obtain ⟨y1,y2,y3,y4,y5,y6,y7,y8,y9,y10,y11⟩ := data₁; dsimp only at mroIs q3 q5 q6; subst mroIs; have y11' : y11 = false := by simpa using q3
      subst y11'; have sl' : slots₁ = #[a₀,a₁,a₂,a₃,some (.builtin newId),a₅] := by cases slots₁; simp only at slotsAre; rw [slotsAre]
      subst sl'; exact ⟨_,_,_,_,_,_,_,_,_,_,_,_,_,_,_,_,_,X _ _ there,.of_isNs (PySem.W.isNs_of_in X q5),PySem.W.nsMap_none_of_in X q5 (eq_of_beq q6),PySem.W.tail_of_in X q4⟩
structure zpb (K : Fg) (mg : Str -> Option Value) (x : Str) (C : Addr) : Prop where
  bound : mg x = some (.ref C)
  inK : PySem.W.excIn K C [.type "ValueError",.type "Exception",.type "BaseException",.type "object"] "ValueError.__new__" = true
def zoa (C : Addr) (E : XK) (t : TA) : TS := fun _ σ H => t σ H fun vs H1 => vs.length <= 1000 /\ E (.ref C) none H1
section
variable {X : Cx} {E : XK} {x : Str} {C : Addr} {np cpos pos : Pos} {e₀ : Expr} {es : List Expr} {t : TA}
theorem ziq (k : zpb X.K X.mg x C) (hE : ∀ y s',XQ X E y s' -> X.xe y s') (hx : X.ex = []) (hg : Gl X x) (ha : PA X (e₀ :: es) t) (hc : X.calm = true)
    (he : starEach (e₀ :: es) X.env = (false,eval e₀ X.env) :: starEach es X.env := by rfl) (hpl : (backTo cpos (starEach es X.env)).any (·.1) = false := by rfl) (hd : (x == ("__debug__" : Str)) = false := by decide) :
    PS X (.Raise (some (.Call (.Name x np) (e₀ :: es) [] cpos)) none pos) (zoa C E t) := by
  intro pins s σ H D I h; obtain ⟨bm,N,nm,q,bs,hdct,sn,sub,ab,col,dd,k0,k1,k2,k3,k5,mN,hC,hN,hni,T⟩ := zng I.mod.kin k.inK
  refine wpAny_Raise_call_subU PySem.F.excBase_ValueError (by decide) PySem.F.excBase_ValueError (C := C) (N := N) (nm := nm) (q := q) (bs := bs) (bm := bm) (hdct := hdct) (sn := sn) (sub := sub) (ab := ab) (col := col) (dd := dd) (k0 := k0) (k1 := k1) (k2 := k2) (k3 := k3) (k5 := k5) (mN := mN)
    (T.hasType (X := "BaseException") (b := true) (by decide)) (I.ok.hd hc) (by rw [he]; show (false || (backTo cpos (starEach es X.env)).any (·.1)) = false; rw [hpl]; rfl) hni ?_
  refine zhC I hg k.bound ⟨rfl,?_⟩ hd; have h2 := ha cpos pins s σ H _ I h; rw [he] at h2 ⊢; refine Calls.evalArgs_plain (thn h2 fun us s2 ⟨vs,H2,I2,r,hl,w⟩ => ?_); refine ⟨rfl,?_,I2.bk _ _ hC,hN.keeps I2.bk,T.keeps I2.bk,fun h' e hm => ?_⟩
  . rw [show us.length = vs.length from r.length.symm]; exact Nat.le_of_lt (zkP hl)
  . obtain ⟨t,he,_,_⟩ := hm.there; exact hE _ _ ⟨pins,σ,H2,e,.ref C,rfl,I2.kept (t' := s2.toks) hm.keeps,I2.ls hm.new (by rw [hx]; simp),.inl ⟨_,_,_,he,⟨rfl,rfl⟩,rfl,rfl⟩,w⟩
end
theorem Fun.okX {P : Program} {w : World} {K : Fg} {mg : Str -> Option Value} {base : Heap} {x qual : Str} {st : Stmt} {f : Addr} {fd : FuncData} {N ps : List Str} {k : Nat} {sp : Sp} (F : Fun K x qual st f fd) (S : zaw N ps (zag st)) (len : ∀ vs H Q E,sp vs H Q E -> vs.length = ps.length)
    (hbody : ∀ (cdv : Value) (A : Around) (outer : List Env) (s : Shared) (H : Hp) (vs : List V) (Q : VK) (E : XK),Room k (A.deeper (envOfC qual (zag st) s.heap.objs.size f cdv)) -> sp vs H Q E →
      ∃ t,PSs ((zcp (CX1 P w) P w K mg base N qual (zag st) f cdv A outer s H E).wish (XQ (zcp (CX1 P w) P w K mg base N qual (zag st) f cdv A outer s H E) E)) (zaI st) t /\ t { nx := fun _ H' => Q .non H',rt := Q } (start N vs) H) :
    FnOk P w K mg base (CX1 P w) (k + 1) f fd ps sp := by
  obtain ⟨oc,od,kV,doc,pm,an,cdv,ct,osl,rfl,lk,hcd⟩ := F.ex; refine zmw lk hcd S len fun A outer s H vs Q E hr hsp => ?_; obtain ⟨t,h,q⟩ := hbody cdv A outer s H vs Q E hr hsp; exact ⟨t,fun pins s σ H D I hw => wpAny_mono (h pins s σ H D (I.wish _) hw) (fun _ _ q => q.unwish) fun _ _ z => zlC z,q⟩
theorem FnOk.calm {P : Program} {w : World} {K : Fg} {mg : Str -> Option Value} {base : Heap} {CX : CXT} {k : Nat} {f : Addr} {fd : FuncData} {ps : List Str} {sp : Sp} (F : FnOk P w K mg base CX0 k f fd ps sp) : FnOk P w K mg base CX k f fd ps sp :=
  ⟨F.len,fun A outer s H args us vs Q E hr he hb hv hs => codeAny_mono (F.run A outer s H args us vs Q E hr he hb hv hs) fun r s' h => by
    cases r with
    | ok f => cases f <;> exact h
    | error e => exact False.elim h⟩
theorem zkj {X : Cx} {E : XK} : ∀ y s',XQ (X.wish (XQ X E)) E y s' -> (X.wish (XQ X E)).xe y s' := fun _ _ h => h.unwish
theorem Own.wish {X : Cx} {F : Value -> Shared -> Prop} (O : Own X) : Own (X.wish F) := ⟨O.stk,O.fr,O.ex⟩
section
variable {X : Cx} {pins : List (Addr × Obj)} {σ : St} {H : Hp} {s : Shared} {e T : Addr} {C fl : Value} {Q : Unit -> Shared -> Prop} {E : Value -> Shared -> Prop} {A : Around}
end
section
variable {X : Cx} {D : zfn}
end
def zon (P : Program) (w : World) (K : Fg) (a : Addr) (kvs : List (Key × V)) : Prop :=
  (a == sysModules) = false /\ ∃ vs,KV kvs vs /\ ∀ h : Heap,K.In h -> h.DictOf (zbN P w) a vs
def zoH (P : Program) (w : World) (K : Fg) (a : Addr) (kvs : List (List Key × V)) : Prop :=
  (a == sysModules) = false /\ ∃ xs : List (List Key × Addr × Value),Paired (fun (p : List Key × V) (q : List Key × Addr × Value) => p.1 = q.1 /\ RelV p.2 q.2.2) kvs xs /\ ∀ h : Heap,K.In h -> h.DictOfH (tupleKind (zbN P w)) a xs
theorem zfy {kvs : List (List Key × V)} {xs : List (List Key × Addr × Value)} (r : Paired (fun (p : List Key × V) (q : List Key × Addr × Value) => p.1 = q.1 /\ RelV p.2 q.2.2) kvs xs) (k : List Key) : RelO (zeV kvs k) ((atKey xs k).map (·.2)) := by
  induction r with
  | nil => exact True.intro
  | @cons p q ps qs hq t ih =>
    obtain ⟨e,rv⟩ := hq
    by_cases hk : p.1 = k
    . rw [zh2 hk]; have : atKey (q :: qs) k = some q.2 := by simp [atKey,List.find?_cons,<- e,hk]
      rw [this]; exact rv
    . rw [zel hk]; have : atKey (q :: qs) k = atKey qs k := by simp [atKey,List.find?_cons,<- e,hk]
      rw [this]; exact ih
def zjf (P : Program) (w : World) (K : Fg) (H : Hp) (a : Addr) (y : V) (r : Option V) : Prop :=
  (∃ kvs k,zon P w K a kvs /\ y = kV k /\ r = zeV kvs k) \/ ∃ kvs k b,zoH P w K a kvs /\ y = .ref b /\ H b = some (.tup (k.map kV)) /\ r = zeV kvs k
section
variable {X : Cx} {pins : List (Addr × Obj)} {σ : St} {H : Hp} {s : Shared} {a : Addr} {y v : V} {u r : Value} {o : Option V} {A : Around} {E : Value -> Shared -> Prop}
theorem zkz {Q : Value -> Shared -> Prop} (hu : A.units + 1 < cLine) (I : Inv X pins σ H s) (g : zjf X.prog X.w X.K H a y (some v)) (ry : RelV y u) (h : ∀ w' s',Inv X pins σ H s' -> RelV v w' -> Q w' s') :
    wpAny (model X.prog X.w) A (getItem (.ref a) u) Q E s := by
  rcases g with ⟨kvs,k,⟨hd,vs,rel,dd⟩,ey,l⟩ | ⟨kvs,k,b,⟨hd,xs,rel,dd⟩,ey,eb,l⟩
  . subst ey; obtain ⟨w',hw,rw'⟩ := RelO.some_of (v := v) (o := valueAt vs k) (by rw [l]; exact rel.val k)
    exact wpAny_getItem_of (zj1 ry) (dd _ I.kIn).mapOf hw (h w' _ (I.tok _) rw')
  . subst ey
    cases (show u = Value.ref b from ry)
    obtain ⟨w',hw,rw'⟩ := RelO.some_of (v := v) (o := (atKey xs k).map (·.2)) (by rw [l]; exact zfy rel k)
    obtain ⟨p,hp,hp2⟩ := Option.map_eq_some_iff.mp hw; refine wpAny_getItem_heap (tupleKind_room_in1 hu) (ziY I.hok eb) (dd _ I.kIn) hp ?_; rw [hp2]; exact h w' _ (I.tok _) rw'
theorem znI {Q : Value -> Shared -> Prop} (hu : A.units + 1 < cLine) (I : Inv X pins σ H s) (g : zjf X.prog X.w X.K H a y o) (ry : RelV y u) (h : ∀ s',Inv X pins σ H s' -> Q (.bool (!o.isSome)) s') :
    wpAny (model X.prog X.w) A (compareOp .NotIn u (.ref a)) Q E s := by
  rcases g with ⟨kvs,k,⟨hd,vs,rel,dd⟩,ey,l⟩ | ⟨kvs,k,b,⟨hd,xs,rel,dd⟩,ey,eb,l⟩
  . subst ey; refine wpAny_notIn_of (zj1 ry) hd (dd _ I.kIn).mapOf ?_; rw [<- (rel.val k).isSome_eq,<- l]; exact h _ (I.tok _)
  . subst ey
    cases (show u = Value.ref b from ry)
    refine wpAny_notIn_heap (tupleKind_room_in1 hu) (ziY I.hok eb) hd (dd _ I.kIn) ?_; have q := (zfy rel k).isSome_eq; rw [Option.isSome_map] at q; rw [<- q,<- l]; exact h _ (I.tok _)
theorem zqo {Q : Value -> Shared -> Prop} (hu : A.units + 1 < cLine) (I : Inv X pins σ H s) (g : zjf X.prog X.w X.K H a y o) (ry : RelV y u) (h : ∀ s',Inv X pins σ H s' -> Q (.bool o.isSome) s') :
    wpAny (model X.prog X.w) A (compareOp .In u (.ref a)) Q E s := by
  rcases g with ⟨kvs,k,⟨hd,vs,rel,dd⟩,ey,l⟩ | ⟨kvs,k,b,⟨hd,xs,rel,dd⟩,ey,eb,l⟩
  . subst ey; refine wpAny_in_of (zj1 ry) hd (dd _ I.kIn).mapOf ?_; rw [<- (rel.val k).isSome_eq,<- l]; exact h _ (I.tok _)
  . subst ey
    cases (show u = Value.ref b from ry)
    refine wpAny_in_heap (tupleKind_room_in1 hu) (ziY I.hok eb) hd (dd _ I.kIn) ?_; have q := (zfy rel k).isSome_eq; rw [Option.isSome_map] at q; rw [<- q,<- l]; exact h _ (I.tok _)
theorem zmm (I : Inv X pins σ H s) (g : zjf X.prog X.w X.K H a y o) : s.TypeIs (.ref a) "dict" := by
  rcases g with ⟨kvs,k,⟨hd,vs,rel,dd⟩,ey,l⟩ | ⟨kvs,k,b,⟨hd,xs,rel,dd⟩,ey,eb,l⟩
  . exact (dd _ I.kIn).typeIs
  . exact (dd _ I.kIn).typeIs
end
def zpP (P : Program) (w : World) (K : Fg) (td ty : TE) : TE := fun σ H Q => td σ H fun x H1 => ty σ H1 fun y H2 => ∃ a v,x = .ref a /\ zjf P w K H2 a y (some v) /\ Q v H2
def zqP (P : Program) (w : World) (K : Fg) (ty td : TE) : TE := fun σ H Q => ty σ H fun y H1 => td σ H1 fun x H2 => ∃ a o,x = .ref a /\ zjf P w K H2 a y o /\ Q (.bl o.isSome) H2
def zm4 (P : Program) (w : World) (K : Fg) (ty td : TE) : TE := fun σ H Q => ty σ H fun y H1 => td σ H1 fun x H2 => ∃ a o,x = .ref a /\ zjf P w K H2 a y o /\ Q (.bl (!o.isSome)) H2
section
variable {X : Cx} {o i e value : Expr} {pos pos' tpos : Pos} {td ty tv : TE}
theorem zj4 (hu : X.A.units + 1 < cLine) (ho : PE X o td) (hi : PE X i ty) (hs : zo8 i) : PE X (.Subscript o i pos) (zpP X.prog X.w X.K td ty) := by
  intro pins s σ H Q I h; refine zjZ PySem.F.slot_dict_getitem.lookup hs (thn (ho pins s σ H _ I h) fun u s1 ⟨x,H1,I1,rx,q1⟩ => thn (hi pins s1 σ H1 _ I1 q1) fun iv s2 ⟨y,H2,I2,ry,a,v,ex,g,q2⟩ => ?_); subst ex; obtain rfl : u = Value.ref a := rx; exact ⟨zmm I2 g,zkz hu I2 g ry fun w' s3 I3 rw' => ⟨v,H2,I3,rw',q2⟩⟩
theorem zoS (hu : X.A.units + 1 < cLine) (hi : PE X i ty) (ho : PE X o td) : PC X .In i o (zqP X.prog X.w X.K ty td) := by
  intro pins s σ H Q I h; refine thn (hi pins s σ H _ I h) fun iv s1 ⟨y,H1,I1,ry,q1⟩ => thn (ho pins s1 σ H1 _ I1 q1) fun u s2 ⟨x,H2,I2,rx,a,ov,ex,g,q2⟩ => ?_; subst ex; obtain rfl : u = Value.ref a := rx; exact zqo hu I2 g ry fun s3 I3 => ⟨.bl ov.isSome,H2,I3,rfl,q2⟩
theorem zkG (hu : X.A.units + 1 < cLine) (hi : PE X i ty) (ho : PE X o td) : PC X .NotIn i o (zm4 X.prog X.w X.K ty td) := by
  intro pins s σ H Q I h; refine thn (hi pins s σ H _ I h) fun iv s1 ⟨y,H1,I1,ry,q1⟩ => thn (ho pins s1 σ H1 _ I1 q1) fun u s2 ⟨x,H2,I2,rx,a,ov,ex,g,q2⟩ => ?_; subst ex; obtain rfl : u = Value.ref a := rx; exact znI hu I2 g ry fun s3 I3 => ⟨.bl (!ov.isSome),H2,I3,rfl,q2⟩
end
theorem zjk {P : Program} {w : World} {K : Fg} {a : Addr} {xs : List (Str × Nat × Value)} {kvs : List (Key × V)} {n : Nat} (hl : K.lookup a = some ⟨.type "dict",none,.dict (xs.map fun x => (⟨PyData.keyHash w.params x.1,.str x.1 x.2.1,x.2.2⟩ : DictEntry)).toArray n,#[]⟩)
    (hs : (a == sysModules) = false) (hk : KV kvs (xs.map fun x => ((Sum.inr x.1 : Key),x.2.2))) (nd : (xs.map (·.1)).Nodup) : zon P w K a kvs := by
  refine ⟨hs,_,hk,fun h X => ⟨_,_,_,X _ _ hl,⟨rfl,rfl,rfl⟩,rfl,?_,?_,?_⟩⟩
  . intro e he; simp only [List.mem_toArray,List.mem_map] at he; obtain ⟨x,_,rfl⟩ := he; exact ⟨.inr x.1,zcH x.1 x.2.1,rfl⟩
  . simp only; clear hl hk nd
    induction xs with
    | nil => exact .nil
    | cons x r ih => exact .cons (zcH x.1 x.2.1) rfl ih
  . rw [List.map_map]; have : ((fun kv : Key × Value => kv.1) ∘ fun x : Str × Nat × Value => ((Sum.inr x.1 : Key),x.2.2)) = (fun x => Sum.inr x.1) := rfl; rw [this]; have e : (xs.map fun x => (Sum.inr x.1 : Key)) = (xs.map (·.1)).map Sum.inr := by rw [List.map_map]; rfl
    rw [e]; exact List.pairwise_map.mpr (List.Pairwise.imp (fun h h' => h (Sum.inr.inj h')) nd)
theorem zjE {P : Program} {w : World} {K : Fg} {a : Addr} {xs : List ((Str × Nat) × (Str × Nat) × Addr × Value)} {kvs : List (List Key × V)} {n : Nat}
    (hl : K.lookup a = some ⟨.type "dict",none,.dict (xs.map fun x => (⟨reduceHash (Builtin.Tuple.tupleHashOf [PyData.keyHash w.params x.1.1,PyData.keyHash w.params x.2.1.1]),.ref x.2.2.1,x.2.2.2⟩ : DictEntry)).toArray n,#[]⟩)
    (ht : ∀ x ∈ xs,K.lookup x.2.2.1 = some ⟨.type "tuple",none,.seq #[.str x.1.1 x.1.2,.str x.2.1.1 x.2.1.2] 0,#[]⟩)
    (hs : (a == sysModules) = false) (hk : Paired (fun (p : List Key × V) (q : List Key × Addr × Value) => p.1 = q.1 /\ RelV p.2 q.2.2) kvs (xs.map fun x => ([(Sum.inr x.1.1 : Key),Sum.inr x.2.1.1],x.2.2.1,x.2.2.2)))
    (nd : (xs.map fun x => (x.1.1,x.2.1.1)).Nodup) : zoH P w K a kvs := by
  refine ⟨hs,_,hk,fun h X => ⟨_,_,_,X _ _ hl,⟨rfl,rfl,rfl⟩,rfl,?_,?_,?_⟩⟩
  . rw [List.map_map]; rfl
  . intro y hy; obtain ⟨x,hx,rfl⟩ := List.mem_map.mp hy; exact ⟨_,_,_,X _ _ (ht x hx),rfl,rfl,.cons (zcH x.1.1 x.1.2) (.cons (zcH x.2.1.1 x.2.1.2) .nil)⟩
  . rw [List.map_map]; have e : (xs.map ((fun y : List Key × Addr × Value => y.1) ∘ fun x => ([(Sum.inr x.1.1 : Key),Sum.inr x.2.1.1],x.2.2.1,x.2.2.2))) = (xs.map fun x => (x.1.1,x.2.1.1)).map fun p => [(Sum.inr p.1 : Key),Sum.inr p.2] := by rw [List.map_map]; rfl
    rw [e]; refine List.pairwise_map.mpr (List.Pairwise.imp (fun {p q} h h' => h ?_) nd); injection h' with h1 h2
    injection h2 with h2 _
    exact Prod.ext (Sum.inr.inj h1) (Sum.inr.inj h2)
open PySem PySem.Spec PyProof.Rows PySem.Builtin
def tF (tv : TE) : TE := fun σ H Q => tv σ H fun x H1 => ∃ t : Str,x = .str t /\ t.length <= sizeLine /\ Q (.str t) H1
def tFr (tv : TE) : TE := fun σ H Q => tv σ H fun x H1 => ∃ t : Str,x = .str t /\ (reprText t).length <= sizeLine /\ Q (.str (reprText t)) H1
def zjA : List TE -> Str -> TE
  | [],out => fun _ H Q => out.length <= sizeLine /\ Q (.str out) H
  | t :: r,out => fun σ H Q => t σ H fun x H1 => ∃ y : Str,x = .str y /\ (out ++ y).length <= sizeLine /\ zjA r (out ++ y) σ H1 Q
inductive PFs (X : Cx) : List Expr -> List TE -> Prop
  | nil : PFs X [] []
  | cons {e : Expr} {t : TE} {es : List Expr} {ts : List TE} : PE X e t -> PFs X es ts -> PFs X (e :: es) (t :: ts)
section
variable {X : Cx} {e v₁ v₂ : Expr} {es : List Expr} {ts : List TE} {tv : TE} {pos : Pos}
theorem zks (h : PE X e tv) : PE X (.FormattedValue e (-1) none pos) (tF tv) := by
  intro pins s σ H Q I hq; refine wpAny_FormattedValue_plain (thn (h pins s σ H _ I hq) fun u s1 ⟨x,H1,I1,r,t,ex,hz,q⟩ => ?_); subst ex; obtain ⟨tk,rfl⟩ := r; exact formatField_str (fun t' tk' => ⟨.str t,H1,I1.tok tk',⟨t',rfl⟩,q⟩) hz
theorem ziC (h : PE X e tv) : PE X (.FormattedValue e 114 none pos) (tFr tv) := by
  intro pins s σ H Q I hq; refine wpAny_FormattedValue_repr (thn (h pins s σ H _ I hq) fun u s1 ⟨x,H1,I1,r,t,ex,hz,q⟩ => ?_); subst ex; obtain ⟨tk,rfl⟩ := r; refine wpAny_pyReprObj_str ?_ hz; exact formatField_str (fun t' tk' => ⟨.str (reprText t),H1,I1.tok tk',⟨t',rfl⟩,q⟩) hz
theorem znZ {pins : List (Addr × Obj)} {σ : St} {Q : VK} : ∀ {es : List Expr} {ts : List TE},PFs X es ts -> ∀ {out : Str} {s : Shared} {H : Hp},Inv X pins σ H s -> zjA ts out σ H Q -> wpAny (model X.prog X.w) X.A (joinParts out (evalEach es X.env)) (EP X pins σ Q) X.xe s
  | _,_,.nil,out,s,H,I,⟨hz,q⟩ => joinParts_nilE (joinParts_nil ⟨.str out,H,I.tok _,⟨_,rfl⟩,q⟩ hz)
  | _,_,.cons he hr,out,s,H,I,hq => by
    refine joinParts_consE (joinParts_cons (thn (he pins s σ H _ I hq) fun u s1 ⟨x,H1,I1,r,y,ex,hz,q⟩ => ?_)); subst ex; obtain ⟨tk,rfl⟩ := r; exact ⟨hz,znZ hr I1 q⟩
theorem zhd (h : PFs X (v₁ :: v₂ :: es) ts) : PE X (.JoinedStr (v₁ :: v₂ :: es) pos) (zjA ts Str.empty) := by
  intro pins s σ H Q I hq; rw [arm_eval_JoinedStr]; show wpAny _ _ (joinParts Str.empty (evalEach (v₁ :: v₂ :: es) X.env)) _ _ _; exact znZ h I hq
end
structure FnX (P : Program) (w : World) (K : Fg) (mg : Str -> Option Value) (base : Heap) (x : Str) (k : Nat) (sp : Sp) : Prop where
  ex : ∃ (f : Addr) (fd : FuncData) (ps : List Str),FnOk P w K mg base (CX1 P w) k f fd ps sp /\ mg x = some (.ref f) /\ PySem.W.keepIn K (.ref f) = true /\ Binds K fd ps []
theorem FnX.mk' {P : Program} {w : World} {K : Fg} {mg : Str -> Option Value} {base : Heap} {x : Str} {k : Nat} {sp : Sp} {f : Addr} {fd : FuncData} {ps : List Str} (ok : FnOk P w K mg base (CX1 P w) k f fd ps sp) (m : mg x = some (.ref f))
    (kp : PySem.W.keepIn K (.ref f) = true) (b : Binds K fd ps []) : FnX P w K mg base x k sp := ⟨f,fd,ps,ok,m,kp,b⟩
theorem Fn.x {P : Program} {w : World} {K : Fg} {mg : Str -> Option Value} {base : Heap} {x : Str} {k : Nat} {sp : Sp} (G : Fn P w K mg base x k sp) : FnX P w K mg base x k sp :=
  let ⟨f,fd,ps,ok,m,kp,b⟩ := G.ex; ⟨f,fd,ps,ok.calm,m,kp,b⟩
section
variable {X : Cx} {x : Str} {p pos : Pos} {e : Expr} {es : List Expr} {t : TA} {k j : Nat} {sp : Sp} {E : XK}
theorem zay (G : FnX X.prog X.w X.K X.mg X.base x j sp) (hx : zeY (CX1 X.prog X.w) X E) (hr : Room k X.A) (hg : Gl X x) (ha : PA X (e :: es) t) (hj : j <= k := by decide) (hdb : (x == ("__debug__" : Str)) = false := by decide)
    (he : starEach (e :: es) X.env = (false,eval e X.env) :: starEach es X.env := by rfl) (hpl : (backTo pos (starEach es X.env)).any (·.1) = false := by rfl) : PE X (.Call (.Name x p) (e :: es) [] pos) (znQ sp [] E t) := by
  obtain ⟨f,fd,ps,F,hm,hk,hb⟩ := G.ex; exact zmS F (hr.mono hj) hg hm hk hb .nil hx ha hdb he hpl
theorem zaF : zeY (CX1 X.prog X.w) X E0 := fun _ _ _ _ _ _ _ h => by
  obtain ⟨_,_,_,_,_,_,_,_,_,_,_,_,q⟩ := h; exact False.elim q
theorem znO (O : Own X) : zeY (CX1 X.prog X.w) (X.wish (XQ X E)) E := zm5 (X := X.wish (XQ X E)) (F := fun _ _ => True) O.wish fun _ _ h => h.unwish
end
section
variable {P : Program} {w : World} {K : Fg} {mg : Str -> Option Value} {base : Heap}
end
end L2
namespace HT
open PySem PySem.Spec PyProof.Rows
section
variable {prog : Program} {w : World} {A : Around} {E : Value -> Shared -> Prop} {s : Shared}
theorem getItem_tuple_all {t sl : Addr} {items : Array Value} {vl vu : Value} {lo hi : Option Int} {Q : Value -> Shared -> Prop} (ht : IsTup s.heap t items) (hs : s.heap.IsSliceOf sl vl vu .none) (pl : IsPart vl lo) (pu : IsPart vu hi)
    (hw : sIx items.size 0 lo = 0 /\ sIx items.size items.size hi = items.size) (h : Q (.ref t) s) (hsz : items.size <= sizeLine) : wpAny (model prog w) A (getItem (.ref t) (.ref sl)) Q E s := by
  obtain ⟨os,hos,hcs,hds⟩ := id hs; have hTs : s.TypeIs (.ref sl) "slice" := ⟨os,hos,hcs⟩; unfold getItem; refine wpAny_holding ?_; refine wpAny_bind (wpAny_sequenceKey ht.typeIs (by decide) ?_)
  refine wpAny_bind (wpAny_callSpecial?_slot (name := Str.ofString "__getitem__") ht.typeIs PyProof.Rows.slot_tuple_getitem
    (wpAny_call_entry PyProof.Rows.slot_tuple_getitem ht.typeIs entry_tuple_getitem ?_ (args_tuple_getitem _ _)))
  show wpAny _ _ (Builtin.Tuple.tupleItemsOf (.ref t) >>= _) _ _ s; refine wpAny_bind (tupleItemsOf_ ht ?_); refine wpAny_bind (wpAny_typeOf hTs ?_); rw [if_pos (by decide)]
  refine wpAny_bind (zcQ hs pl pu ?_); have hyes : (((sIx items.size 0 lo : Nat) : Int) == 0 && (1 : Int) == 1 && (sIx items.size items.size hi - sIx items.size 0 lo) == items.size) = true := by rw [hw.1,hw.2]; simp
  show wpAny _ _ (if (((sIx items.size 0 lo : Nat) : Int) == 0 && (1 : Int) == 1 && (sIx items.size items.size hi - sIx items.size 0 lo) == items.size) = true then _ else _) _ _ s; rw [if_pos hyes]; refine wpAny_bind (m := Builtin.Tuple.tupleIsExact _) ?_; unfold Builtin.Tuple.tupleIsExact; refine wpAny_bind (wpAny_typeOf ht.typeIs ?_); refine wpAny_pure ?_; rw [if_pos (by decide)]
  exact wpAny_bind (wpAny_rule (wpAny_pure ⟨_,rfl,wpAny_pure h⟩))
end
end HT
namespace L2
open PySem PySem.Spec PyProof.Rows
def zqa (K : Fg) : V -> Option Int -> Option Int -> Hp -> VK -> Prop := fun x lo hi H Q => ∃ a xs,x = .ref a /\ SqT K H a xs ∧
  ((HT.sIx xs.length 0 lo = 0 /\ HT.sIx xs.length xs.length hi = xs.length /\ Q (.ref a) H) \/ (¬ (HT.sIx xs.length 0 lo = 0 /\ HT.sIx xs.length xs.length hi = xs.length) /\ ∀ p,H p = none -> Q (.ref p) (upd H p (.tup (zc9 xs lo hi)))))
theorem zj6 {X : Cx} : SlR X (zqa X.K) := by
  intro pins s σ H x v vl vu lo hi sl Q I rx hs pl pu h; obtain ⟨a,xs,rfl,hx,h⟩ := h
  rcases h with ⟨h1,h2,q⟩ | ⟨hw,q⟩
  . cases rx; obtain ⟨its,r,ht,hz⟩ := I.tuple hx; have hlen : its.toArray.size = xs.length := by rw [List.size_toArray]; exact r.length.symm
    refine ⟨"tuple",_,PyProof.Rows.slot_tuple_getitem.lookup,ht.typeIs,?_⟩; exact HT.getItem_tuple_all ht hs pl pu (by rw [hlen]; exact ⟨h1,h2⟩) ⟨.ref a,H,I,rfl,q⟩ (by rw [hlen]; exact hz)
  . exact zoO pins s σ H _ v vl vu lo hi sl Q I rx hs pl pu ⟨a,xs,rfl,hx,hw,q⟩
def TyX (K : Fg) (H : Hp) (x : V) (t : Value) : Prop :=
  TyOf K H x t \/ (t = .type "tuple" /\ ∃ a ys,x = .ref a /\ SqT K H a ys) \/ (t = .type "list" /\ ∃ a ys,x = .ref a /\ SqL K H a ys)
section
variable {X : Cx} {pins : List (Addr × Obj)} {σ : St} {H : Hp} {s : Shared}
theorem zoM {x : V} {u t : Value} (I : Inv X pins σ H s) (rx : RelV x u) (ty : TyX X.K H x t) : ∃ Z,PySem.W.KitX X.K u t Z /\ Z s.heap /\ u ≠ .builtin "__main__.__loader__#opaque" := by
  rcases ty with ty | ⟨rfl,a,ys,rfl,h⟩ | ⟨rfl,a,ys,rfl,h⟩
  . cases ty with
    | non => obtain rfl : u = Value.none := rx; exact ⟨_,PySem.W.kitx_none,True.intro,fun z => nomatch z⟩
    | bl y => obtain rfl : u = Value.bool y := rx; exact ⟨_,PySem.W.kitx_bool,True.intro,fun z => nomatch z⟩
    | int i => obtain ⟨_,rfl⟩ := rx; exact ⟨_,PySem.W.kitx_int,True.intro,fun z => nomatch z⟩
    | str y => obtain ⟨_,rfl⟩ := rx; exact ⟨_,PySem.W.kitx_str,True.intro,fun z => nomatch z⟩
    | flt y => obtain ⟨_,rfl⟩ := rx; exact ⟨_,PySem.W.kitx_float,True.intro,fun z => nomatch z⟩
    | @lst a xs ea =>
      obtain rfl : u = Value.ref a := rx; obtain ⟨_,_,n,_,h1⟩ := I.hok a _ ea; exact ⟨_,PySem.W.kitx_list,⟨_,h1,rfl⟩,fun z => nomatch z⟩
    | @frz a ob xs ea =>
      obtain rfl : u = Value.ref a := rx; obtain ⟨_,_,_,n,_,h1⟩ := I.hok a _ ea; exact ⟨_,PySem.W.kitx_list,⟨_,h1,rfl⟩,fun z => nomatch z⟩
    | @tup a xs ea =>
      obtain rfl : u = Value.ref a := rx; obtain ⟨_,_,_,p⟩ := I.hok a _ ea; obtain ⟨o,h1,h2,_⟩ := p; exact ⟨_,PySem.W.kitx_tuple,⟨o,h1,h2⟩,fun z => nomatch z⟩
    | @dK a kvs ea =>
      obtain rfl : u = Value.ref a := rx; obtain ⟨_,_,vs,_,p⟩ := I.hok a _ ea; obtain ⟨o,es,ep,h1,h2,_⟩ := p; exact ⟨_,PySem.W.kitx_dict,⟨o,h1,h2.1⟩,fun z => nomatch z⟩
    | @dT a kvs ea =>
      obtain rfl : u = Value.ref a := rx; obtain ⟨_,_,xs,_,o,es,ep,h1,h2,_⟩ := I.hok a _ ea; exact ⟨_,PySem.W.kitx_dict,⟨o,h1,h2.1⟩,fun z => nomatch z⟩
    | @ins a C dx fs ea cl ha hn htk hm =>
      obtain rfl : u = Value.ref a := rx; obtain ⟨mA,O,_⟩ := zkf I.hok ea; obtain ⟨od,J,_⟩ := O.look; exact ⟨_,PySem.W.kitx_own (cl.get _) cl.hd ha hn htk hm,J,fun z => nomatch z⟩
  . obtain rfl : u = Value.ref a := rx; obtain ⟨its,rv,⟨o,e,hc,n,hd⟩,_⟩ := I.tuple h; exact ⟨_,PySem.W.kitx_tuple,⟨o,e,hc⟩,fun z => nomatch z⟩
  . obtain rfl : u = Value.ref a := rx; obtain ⟨its,rv,⟨o,n,e,hc,_⟩,_⟩ := I.list h; exact ⟨_,PySem.W.kitx_list,⟨o,e,hc⟩,fun z => nomatch z⟩
theorem zjY : ∀ {Ts : List String} {us : List Value},Vals (Ts.map V.ty) us -> us = Ts.map Value.type
  | [],us,r => by cases r; rfl
  | T :: Ts,us,r => by
    cases r with
    | cons r1 r2 =>
      rw [show _ = Value.type T from r1,zjY r2]
      rfl
end
def zp2 (K : Fg) : List V -> Hp -> VK -> Prop := fun xs H Q => ∃ x c t b,xs = [x,c] /\ TyX K H x t ∧
  ((∃ T,c = .ty T /\ PySem.W.kitOne K t (.type T) = some b) \/ ∃ (p : Addr) (Ts : List String),c = .ref p /\ H p = some (.tup (Ts.map V.ty)) /\ PySem.W.kitAny K t (Ts.map Value.type) = some b) /\ Q (.bl b) H
section
variable {X : Cx}
theorem zbA : zbH X (.builtin "isinstance") (zp2 X.K) := by
  intro pins s σ H xs us Q I r h; obtain ⟨x,c,t,b,rfl,ty,hc,q⟩ := h; obtain ⟨u,w',rfl,rx,rt⟩ := zim r; obtain ⟨Z,hz,hp,hne⟩ := zoM I rx ty
  rcases hc with ⟨T,rfl,e⟩ | ⟨p,Ts,rfl,hpp,e⟩
  . cases (show w' = Value.type T from rt)
    exact PySem.W.kia_one hz I.kIn hp e hne fun tk => ⟨.bl b,H,I.tok tk,rfl,q⟩
  . cases (show w' = Value.ref p from rt)
    obtain ⟨its,rv,⟨⟨cls,dd,data,sl⟩,ho,hc,n,hd⟩,_⟩ := I.tuple (SqT.of hpp); simp only at hc hd; subst hc hd; rw [zjY rv] at ho; exact PySem.W.kia_tup hz I.kIn hp ho e hne fun tk => ⟨.bl b,H,I.tok tk,rfl,q⟩
end
structure S1 (X : Cx) (st : Stmt) (t : TS) : Prop where
  out : PS X st t
structure SSs (X : Cx) (st : List Stmt) (t : TS) : Prop where
  out : PSs X st t
section
variable {X : Cx} {pos : Pos}
theorem zez {st : Stmt} {rest : List Stmt} {t u : TS} (h1 : S1 X st t) (h2 : SSs X rest u) : SSs X (st :: rest) (zpn t u) := ⟨zac h1.out h2.out⟩
theorem zmV {st : Stmt} {t : TS} (h1 : S1 X st t) : SSs X [st] t := ⟨zaf h1.out⟩
end
open PySem.SeqAt (noMix noMixAll)
section
variable {X : Cx}
theorem zkh : ∀ {bs : List Bool} {us : List Value},Vals (bs.map V.bl) us -> us = bs.map Value.bool
  | [],us,r => by cases r; rfl
  | b :: bs,us,r => by
    cases r with
    | cons r1 r2 =>
      rw [show _ = Value.bool b from r1,zkh r2]
      rfl
inductive zpm (K : Fg) (xs : List V) (H : Hp) (Q : VK) : Prop
  | mk (p : Addr) (bs : List Bool) : (xs = [.ref p]) -> (SqL K H p (bs.map V.bl)) -> (Q (.bl (bs.any id)) H) -> zpm K xs H Q
theorem zkx (hc : X.calm = true) : zbH X (.builtin "any") (zpm X.K) := by
  intro pins s σ H xs us Q I r h; obtain ⟨p,bs,rfl,hq,q⟩ := h; obtain ⟨u,rfl,ru⟩ := zc4 r
  cases (show u = Value.ref p from ru)
  obtain ⟨its,rv,pl,hz⟩ := I.list hq; have hl := pl.isList; have hb := zkh rv; subst hb; have hlt : p < s.heap.objs.size := by obtain ⟨_,e,_⟩ := hl; exact Heap.lt_size e
  refine call_any_walk (wpAny_pyIter_list hl ?_)
  refine ⟨s.heap.objs.size,[s.heap.objs.size,p],[s.heap.objs.size],(bs.map Value.bool).toArray.size,_,_,fun i => (bs[i]?).getD false,rfl,Walks.list (A := X.A.in1) (I.ok.hd hc) _ p (Nat.ne_of_lt hlt) (bs.map Value.bool).toArray,
    ⟨⟨_,Heap.get?_push_size _ rfl,rfl,rfl⟩,hl.push _⟩,fun i v s' Q' E' hP hQ => ?_,fun h' tk hk => ?_⟩
  . have hP' : (bs.map Value.bool)[i]? = some v := by simpa using hP
    rw [List.getElem?_map] at hP'; obtain ⟨b,e,rfl⟩ := Option.map_eq_some_iff.mp hP'; simp only [e,Option.getD_some] at hQ; exact wpAny_truthy_bool hQ
  . have e : ((List.range (bs.map Value.bool).toArray.size).any fun i => (bs[i]?).getD false) = bs.any id := by
      rw [List.size_toArray,List.length_map]; exact LSm.range_any bs
    rw [e]; exact ⟨.bl (bs.any id),H,I.kept (t' := tk) (LSm.kept_iter hk),rfl,q⟩
inductive zpS (K : Fg) (xs : List V) (H : Hp) (Q : VK) : Prop
  | mk (p : Addr) (ns : List Int) : (xs = [.ref p]) -> (SqL K H p (ns.map V.int)) -> (ns.length < 64) -> (∀ (l : Addr) (ns' : List Int),H l = none -> ns'.Perm ns -> ns'.Pairwise (· <= ·) -> Q (.ref l) (upd H l (.lst (ns'.map V.int)))) -> zpS K xs H Q
theorem zeh : zbH X (.builtin "sorted") (zpS X.K) := by
  intro pins s σ H xs us Q I r h; obtain ⟨p,ns,rfl,hq,h64,q⟩ := h; obtain ⟨u,rfl,ru⟩ := zc4 r
  cases (show u = Value.ref p from ru)
  obtain ⟨its,rv,pl,hz⟩ := I.list hq; have hi : IntsAre its ns := zdS rv; have hlen : its.length = ns.length := by have := rv.length; rw [List.length_map] at this; omega
  have hsz : sizeLine = 16777216 := sizeLine_eq; refine sorted_ints pl.isList hi (by omega) fun out ns' a1 a2 a3 => ?_
  obtain ⟨e,he⟩ := sortedAll_at s.heap its out; refine ⟨.ref _,_,I.laid (a := s.heap.objs.size + 1) (t' := s.toks) (fun b o e => sortedAll_old e) (Nat.le_succ _) (show ObjOk X.prog X.w _ _ _ (.lst (ns'.map V.int)) from ⟨?_,out.toList,e,zdH a1,?_⟩),rfl,q _ ns' (I.hok.fresh (Nat.le_succ _)) a2 a3⟩
  . rw [List.length_map,a2.length_eq]; omega
  . rw [he]
theorem zjU : ∀ {xs : List V} {us : List Value},xs.length = us.length -> (∀ (i : Nat) x y,xs[i]? = some x -> us[i]? = some y -> RelV x y) -> Vals xs us
  | [],[],_,_ => .nil
  | [],_ :: _,h,_ => by simp at h
  | _ :: _,[],h,_ => by simp at h
  | x :: xs,u :: us,h,f => .cons (f 0 x u rfl rfl) (zjU (by simpa using h) fun i y z hy hz => f (i + 1) y z (by simpa using hy) (by simpa using hz))
end
section
variable {X : Cx} {pins : List (Addr × Obj)} {σ : St} {H : Hp} {s : Shared} {h' : Heap}
theorem Inv.turned2 {t' : Nat} {i1 i2 a : Addr} {ob : HO} (I : Inv X pins σ H s) (k : ∀ b o,b ≠ i1 -> b ≠ i2 -> s.heap.get? b = some o -> h'.get? b = some o) (f1 : FpOk X pins H i1) (f2 : FpOk X pins H i2)
    (hp : s.heap.objs.size <= a) (new : ObjOk X.prog X.w (upd H a ob) h' a ob) : Inv X pins σ (upd H a ob) { s with heap := h',toks := t' } := by
  have kk : ∀ b o,b ∉ [i1,i2] -> s.heap.get? b = some o -> h'.get? b = some o := fun b o hc e => k b o (fun z => hc (by simp [z])) (fun z => hc (by simp [z])) e
  have nit : ∀ b u,H b = some u -> b ∉ [i1,i2] := fun b u e z => by
    rcases List.mem_cons.mp z with z | z
    . rw [z,f1.1] at e; cases e
    . rw [List.mem_singleton.mp z,f2.1] at e; cases e
  have hn := I.hok.fresh hp
  refine I.step (g' := s.gens) (d' := s.drawn) (ch := [i1,i2]) (fun b hb => ?_) (fun b o _ _ hc e _ => kk b o hc e) (fun b o _ _ hc e _ => ⟨o.slots,kk b o hc e⟩) (fun b o _ q n => by rw [zaj (Nat.ne_of_lt (Nat.lt_of_lt_of_le (Heap.lt_size q) hp))]; exact n)
    (fun b o hc e => ⟨o,kk b o hc e⟩) (fun b xs q => by rw [zaj (zam q hn)]; exact q) (fun b o u q => by rw [zaj (zam q hn)]; exact q) (fun b ps q => ⟨#[],by rw [zaj (zam q hn),q]; simp⟩) (fun m hm => ?_) (fun b u e => ?_) I.bare
  . rcases List.mem_cons.mp hb with rfl | hb
    . exact ⟨f1.2.2.2.1,f1.2.1,f1.2.2.2.2.1,f1.2.2.2.2.2⟩
    . rw [List.mem_singleton.mp hb]; exact ⟨f2.2.2.2.1,f2.2.1,f2.2.2.2.2.1,f2.2.2.2.2.2⟩
  . obtain ⟨o,es,ep,ho,r⟩ := hm; exact ⟨o,es,ep,k _ o (Ne.symm f1.2.1) (Ne.symm f2.2.1) ho,r⟩
  . by_cases hb : b = a
    . subst hb; rw [zab] at e; cases e; exact new
    . rw [zaj hb] at e; refine (I.hok b u e).stay (fun c v hc q => kk c v ?_ q) (fun c q => by rw [zaj (zam q hn)]; exact q) fun c xs q => by rw [zaj (zam q hn)]; exact q
      rcases hc with z | z
      . rw [z]; exact nit b u e
      . exact nit c _ z
end
section
variable {X : Cx}
end
section
variable {X : Cx}
def znh : V -> List V -> Hp -> VK -> Prop := fun x vs H Q => ∃ (l : Addr) (xs : List V) (i : Int) (y : V),x = .ref l /\ vs = [.int i,y] /\ H l = some (.lst xs) /\ 0 <= i /\ i <= xs.length /\ xs.length < sizeLine /\ Q .non (upd H l (.lst (xs.take i.toNat ++ y :: xs.drop i.toNat)))
theorem zkO : MtM X "list.insert" znh := by
  intro pins s σ H x vs v us Q I rx rv h; obtain ⟨l,xs,i,y,rfl,rfl,hH,h0,h1,hz,q⟩ := h; cases rx; have hsz : sizeLine = 16777216 := sizeLine_eq; obtain ⟨u1,u2,rfl,r1,ru⟩ := zim rv; obtain ⟨t,rfl⟩ := (show ∃ t,u1 = Value.int i t from r1); obtain ⟨z,its,n,r,hl,e⟩ := I.lstM hH
  have hf : Builtin.List.listFitsIndex i = true := by
    unfold Builtin.List.listFitsIndex; simp; omega
  refine call_meets F.slot_list_insert ⟨_,e,rfl⟩ F.entry_list_insert (F.args_list_insert_3 _ _ _) (PySem.AutoSeq1.list_insert_list_int_val_1 l its.toArray n i t u2 (by simp [hf]) (by rw [List.size_toArray]; omega)) ⟨e,?_⟩
  refine ⟨.non,_,I.lset (its' := its.take i.toNat ++ u2 :: its.drop i.toNat) hH e ?_ ((r.take i.toNat).append (.cons ru (r.drop i.toNat))) ?_,rfl,q⟩
  . have hm : min i.toNat its.length = i.toNat := by omega
    apply Array.toList_inj.mp; have hn : ¬ i < 0 := by omega
    simp [hn,hm,List.take_append,List.drop_append]; exact List.take_of_length_le (by rw [List.length_drop]; omega)
  . rw [List.length_append,List.length_cons,List.length_take,List.length_drop]; omega
end
def zp3 (t : TS) : TS := fun D σ H => ∃ J : St -> Hp -> Prop,t { D with nx := J } σ H /\ ∀ σ' H',J σ' H' -> D.nx σ' H'
theorem zdE {X : Cx} {st : Stmt} {t : TS} (h : PS X st t) : PS X st (zp3 t) := by
  intro pins s σ H D I ⟨J,h1,h2⟩; refine thn (h pins s σ H _ I h1) fun f s' q => ?_
  cases f with
  | next => obtain ⟨σ',H',I',q⟩ := q; exact ⟨σ',H',I',h2 _ _ q⟩
  | brk => exact q
  | cont => exact q
  | ret u => exact q
theorem zkX {lo : Int} {n : Nat} {idx : List Nat} {te : TE} {σ : St} {H : Hp} {Q : VK} (Iv : Addr -> Nat -> List V -> Hp -> Prop) (hl : n <= sizeLine)
    (h0 : ∀ D,H D = none -> Iv D 0 [] (upd H D (.lst []))) (hD : ∀ D i ys H',Iv D i ys H' -> H' D = some (.lst ys) /\ ys.length = i)
    (he : ∀ D i ys H' (R : VK),H D = none -> i < n -> Iv D i ys H' -> (∀ v H4,H4 D = some (.lst ys) -> Iv D (i + 1) (ys ++ [v]) (upd H4 D (.lst (ys ++ [v]))) -> R v H4) -> te (some (.int (lo + (i : Nat))) :: cap σ idx) H' R)
    (hQ : ∀ D ys H',H D = none -> Iv D n ys H' -> Q (.ref D) H') : LCW idx (Itr lo n) (zcL 0) zlM te Q σ H := by
  intro D hn; refine ⟨fun i m ys ρ H' => m = n - i /\ i <= n /\ (∃ y0,ρ = y0 :: cap σ idx) /\ Iv D i ys H',⟨n,by simp,Nat.zero_le _,⟨none,rfl⟩,h0 D hn⟩,?_⟩
  rintro i m ys ρ H' ⟨rfl,hi,⟨y0,rfl⟩,hv⟩; obtain ⟨d1,d2⟩ := hD D i ys H' hv; refine ⟨d1,?_⟩
  by_cases hlt : i < n
  . refine .inr ⟨hlt,by omega,fun x H2 y => ?_⟩
    obtain ⟨e,y⟩ := y; subst e y; show te (some (.int (lo + i)) :: cap σ idx) H2 _; exact he D i ys H2 _ hn hlt hv fun v H4 h1 h2 => ⟨h1,n - (i + 1),by omega,rfl,hlt,⟨_,rfl⟩,h2⟩
  . have e : i = n := by omega
    subst e; exact .inl ⟨Nat.le_refl _,hQ D ys H' hn hv⟩
section
variable {X : Cx}
theorem zeQ {K : Fg} {H : Hp} : ∀ bs : List Bool,IsAll K H (bs.map PyData.bool) (bs.map V.bl)
  | [] => by simp [IsAll]
  | b :: r => by
    rw [List.map_cons,List.map_cons]; simp only [IsAll]; exact ⟨_,_,rfl,by simp [Is],zeQ r⟩
theorem zj3 : ∀ bs : List Bool,PyData.canLayAll0 (bs.map PyData.bool) = true
  | [] => by simp [PyData.canLayAll0]
  | b :: r => by simp [PyData.canLayAll0,PyData.canLay0,zj3 r]
theorem zgP : ∀ bs : List Bool,PyData.depthAll (bs.map PyData.bool) = 0
  | [] => by simp [PyData.depthAll]
  | b :: r => by simp [PyData.depthAll,PyData.depth,zgP r]
theorem zf0 (bs : List Bool) : SeqAt.shaped (.list (bs.map PyData.bool)) = true := by
  have h := zgP bs; unfold SeqAt.shaped; rw [Bool.and_eq_true]; exact ⟨by simp only [PyData.canLay0]; exact zj3 bs,decide_eq_true (by simp only [PyData.depth]; omega)⟩
theorem zgR : ∀ bs cs : List Bool,noMixAll (bs.map PyData.bool) (cs.map PyData.bool) = true
  | [],cs => by cases cs <;> simp [noMixAll]
  | b :: bs,[] => by simp [noMixAll]
  | b :: bs,c :: cs => by simp [noMixAll,noMix,zgR bs cs]
theorem ze6 : ∀ bs cs : List Bool,sameAll (bs.map PyData.bool) (cs.map PyData.bool) = decide (bs = cs)
  | [],[] => by simp [sameAll]
  | [],_ :: _ => by simp [sameAll]
  | _ :: _,[] => by simp [sameAll]
  | b :: bs,c :: cs => by
    rw [List.map_cons,List.map_cons]; simp only [sameAll,same]; rw [ze6 bs cs,Bool.eq_iff_iff]; simp
theorem zm6 (hu : X.A.units + 64 < cLine) : OpR X (compareOp .Eq) (fun x y H Q => ∃ (a b : Addr) (bs cs : List Bool),x = .ref a /\ y = .ref b /\ SqL X.K H a (bs.map V.bl) /\ SqL X.K H b (cs.map V.bl) /\ Q (.bl (decide (bs = cs))) H) := by
  intro pins s σ H x y v u Q I rx ry h; obtain ⟨a,b,bs,cs,rfl,rfl,h1,h2,q⟩ := h; have i1 : Is X.K H (.list (bs.map PyData.bool)) (.ref a) := by simp only [Is]; exact ⟨a,_,rfl,h1,zeQ bs⟩
  have i2 : Is X.K H (.list (cs.map PyData.bool)) (.ref b) := by simp only [Is]; exact ⟨b,_,rfl,h2,zeQ cs⟩
  obtain ⟨as,ra⟩ := Is.reads I _ _ v i1 rx; obtain ⟨bs',rb⟩ := Is.reads I _ _ u i2 ry; refine eq_dataH_same ra rb (zf0 bs) (zf0 cs) hu (by simp only [noMix]; exact zgR bs cs) ⟨.bl _,H,I,rfl,?_⟩
  have e : same (.list (bs.map PyData.bool)) (.list (cs.map PyData.bool)) = decide (bs = cs) := by simp only [same]; exact ze6 bs cs
  rw [e]; exact q
end
open PySem PySem.Spec PyProof.Rows PySem.W
def KOut {α : Type} (N : Nat) (P : α -> Prop) : KasT α -> Prop
  | .ret a => P a
  | .ask i j k => i < N /\ j < N /\ ∀ b,KOut N P (k b)
theorem KOut.bind {α β : Type} {N : Nat} {P : α -> Prop} {P' : β -> Prop} {f : α -> KasT β} (hf : ∀ a,P a -> KOut N P' (f a)) : ∀ t : KasT α,KOut N P t -> KOut N P' (t.bind f)
  | .ret a,h => hf a h
  | .ask i j k,h => ⟨h.1,h.2.1,fun b => KOut.bind hf (k b) (h.2.2 b)⟩
def Rr (N : Nat) (p : Array Nat) : Prop := p.toList.Perm (List.range N)
theorem Rr.lt {N : Nat} {p : Array Nat} (h : Rr N p) (h0 : 0 < N) (k : Nat) : p.getD k 0 < N := by
  by_cases hk : k < p.size
  . have hm : p[k] ∈ List.range N := h.mem_iff.mp (by simp)
    have e : p.getD k 0 = p[k] := by simp [Array.getD,hk]
    rw [e]; exact List.mem_range.mp hm
  . have e : p.getD k 0 = 0 := by simp [Array.getD,hk]
    rw [e]; exact h0
theorem Rr.rev {N : Nat} {p : Array Nat} (h : Rr N p) (i j : Nat) : Rr N (kas_rev p i j) := (Array.perm_iff_toList_perm.mp (mirror_perm p i j _)).trans h
theorem Rr.bub {N : Nat} {p : Array Nat} (h : Rr N p) (i j : Nat) : Rr N (bubble p i j) := (Array.perm_iff_toList_perm.mp (bubble_perm p i j)).trans h
section
variable {N : Nat} (h0 : 0 < N)
include h0
theorem zhF {p : Array Nat} (hp : Rr N p) : ∀ f n,KOut N (fun _ => True) (kas_asc p f n)
  | 0,_ => trivial
  | f + 1,n => ⟨hp.lt h0 _,hp.lt h0 _,fun b => by
    cases b with
    | true => exact trivial
    | false => exact zhF hp f (n + 1)⟩
theorem zeb : ∀ (f : Nat) (p : Array Nat) (n q : Nat),Rr N p -> KOut N (fun r => Rr N r.1) (kas_desc f p n q)
  | 0,_,_,_,hp => hp
  | f + 1,p,n,q,hp => ⟨hp.lt h0 _,hp.lt h0 _,fun b => by
    cases b with
    | true =>
      show KOut N _ (if q > 0 then _ else _)
      split
      . exact zeb f _ _ _ (hp.rev _ _)
      . exact zeb f _ _ _ hp
    | false =>
      refine ⟨hp.lt h0 _,hp.lt h0 _,fun d => ?_⟩
      cases d with
      | true => exact hp
      | false => exact zeb f _ _ _ hp⟩
theorem ziR {p : Array Nat} (hp : Rr N p) (n r : Nat) : KOut N (fun r => Rr N r.2) (kas_tail3 n r p) := by
  refine KOut.bind (P := fun _ => True) (fun m _ => ?_) _ (zhF h0 (hp.rev _ _) _ _); exact Rr.rev hp 0 n
theorem zem {p : Array Nat} (hp : Rr N p) (n r : Nat) : KOut N (fun r => Rr N r.2) (kas_descPart n r p) := by
  refine KOut.bind (fun x hx => ?_) _ (zeb h0 _ p _ _ hp); show KOut N _ (if x.2.2 > 0 then _ else _)
  split
  . exact ziR h0 (Rr.rev hx _ _) _ _
  . exact ziR h0 hx _ _
theorem zkY {p : Array Nat} (hp : Rr N p) (r : Nat) : KOut N (fun r => Rr N r.2) (kas_count r p) := by
  refine KOut.bind (fun n _ => ?_) _ (zhF h0 hp _ _); show KOut N _ (if (n == r) = true then _ else _)
  split
  . exact hp
  . show KOut N _ (if n > 1 then _ else _)
    split
    . refine ⟨hp.lt h0 _,hp.lt h0 _,fun c => ?_⟩
      cases c with
      | true => exact hp
      | false => exact zem h0 (hp.rev _ _) _ _
    . exact zem h0 hp _ _
theorem zeS {p : Array Nat} (hp : Rr N p) (k : Nat) : ∀ f l r,KOut N (fun _ => True) (kas_place p k f l r)
  | 0,_,_ => trivial
  | f + 1,l,r => by
    show KOut N _ (if l ≥ r then _ else _)
    split
    . exact trivial
    . refine ⟨hp.lt h0 _,hp.lt h0 _,fun c => ?_⟩
      cases c with
      | true => exact zeS hp k f _ _
      | false => exact zeS hp k f _ _
theorem zki : ∀ (f : Nat) (p : Array Nat) (k : Nat),Rr N p -> KOut N (fun p => Rr N p) (kas_bin f p k)
  | 0,_,_,hp => hp
  | f + 1,p,k,hp => KOut.bind (fun _ _ => zki f _ _ (hp.bub _ _)) _ (zeS h0 hp k _ _ _)
theorem zmE : KOut N (fun p => Rr N p) (kas_sort N) := by
  refine KOut.bind (fun r hr => ?_) _ (zkY h0 (p := List.toArray (List.range N)) (by simp [Rr]) N)
  show KOut N _ (if r.1 < N then _ else _)
  split
  . exact zki h0 _ _ _ hr
  . exact hr
end
theorem Vals.get' {xs : List V} {us : List Value} (h : Vals xs us) {i : Nat} {u : Value} (hu : us[i]? = some u) : ∃ v,xs[i]? = some v /\ RelV v u := by
  induction h generalizing i with
  | nil => simp at hu
  | cons r t ih =>
    cases i with
    | zero => exact ⟨_,rfl,(Option.some.inj hu) ▸ r⟩
    | succ j => exact ih (by simpa using hu)
section
variable {prog : Program} {w : World} {A : Around} {E : Value -> Shared -> Prop} {s : Shared}
def znW (h : Heap) (v : Value) : Prop := ∃ a x y t u n o,v = .ref a /\ h.get? a = some o /\ o.cls = .type "tuple" /\ o.data = .seq #[.int x t,.int y u] n
theorem zjT : ∀ (vs : List Value),(∀ v ∈ vs,znW s.heap v) -> ∃ fs,KatTups s.heap vs fs /\ fs.length = vs.length /\ ∀ f ∈ fs,∃ i t,f = Value.int i t
  | [],_ => ⟨[],KatTups.nil,rfl,fun _ h => by simp at h⟩
  | v :: vs,h => by
    obtain ⟨fs,h1,h2,h3⟩ := zjT vs fun v hv => h v (by simp [hv])
    obtain ⟨a,x,y,t1,t2,n,o,rfl,ho,hc,hd⟩ := h v (by simp)
    refine ⟨.int x t1 :: fs,KatTups.cons ho hc hd rfl h1,by simp [h2],fun f hf => ?_⟩
    rcases List.mem_cons.mp hf with rfl | hf
    . exact ⟨_,_,rfl⟩
    . exact h3 f hf
end
section
variable {X : Cx}
end
end L2
set_option maxHeartbeats 4000000
namespace L2
open PySem PySem.Spec PyProof.Rows
section
variable {prog : Program} {w : World} {A : Around} {E : Value -> Shared -> Prop} {s : Shared}
end
section
variable {X : Cx} {e : Expr} {ta : TA} {p1 p2 c1 c2 : Pos}
end
structure EK (prog : Program) (w : World) (K : Type) [DecidableEq K] where
  is : Heap -> K -> Value -> Prop
  hash : K -> Int
  draws : K -> Nat
  inj : ∀ {h : Heap} {v : Value} {x y : K},is h x v -> is h y v -> x = y
  keeps : ∀ {h h' : Heap} {k : K} {v : Value} {d : Addr} {o : Obj} {es ep},is h k v -> h.get? d = some o -> o.data = .dict es ep -> Heap.SameBut d h h' -> is h' k v
  pyHash : ∀ {A : Around} {E : Value -> Shared -> Prop} {s : Shared} {k : K} {v : Value} {Q : Int -> Shared -> Prop},A.units + 80 < cLine -> is s.heap k v -> Q (hash k) { s with toks := s.toks + draws k } -> wpAny (model prog w) A (PySem.pyHash v) Q E s
  eqBool : ∀ {A : Around} {E : Value -> Shared -> Prop} {s : Shared} {x y : K} {v u : Value} {Q : Bool -> Shared -> Prop},A.units + 80 < cLine -> is s.heap x v -> is s.heap y u -> Q (decide (x = y)) s -> wpAny (model prog w) A (PySem.eqBool v u) Q E s
  quiet : ∀ {A : Around} {E : Value -> Shared -> Prop} {s : Shared} {k : K} {v : Value} {Q : Bool -> Shared -> Prop},is s.heap k v -> Q true s -> wpAny (model prog w) A (eqIsQuiet 7 v) Q E s
section
variable {prog : Program} {w : World} {K : Type} [DecidableEq K] (ek : EK prog w K)
inductive ItemsH (h : Heap) : List K -> List Value -> Prop
  | nil : ItemsH h [] []
  | cons {k : K} {v : Value} {ks : List K} {vs : List Value} : ek.is h k v -> ItemsH h ks vs -> ItemsH h (k :: ks) (v :: vs)
def IsNest (h : Heap) (ks : List K) (a : Addr) : Prop := ∃ o items n,h.get? a = some o /\ o.cls = .type "tuple" /\ o.data = .seq items n /\ ItemsH ek h ks items.toList
variable {ek}
theorem ItemsH.inj {h : Heap} {x y : List K} {vs : List Value} (hx : ItemsH ek h x vs) (hy : ItemsH ek h y vs) : x = y := by
  induction hx generalizing y with
  | nil => cases hy; rfl
  | cons h1 _ ih =>
    cases hy with
    | cons h2 t2 => rw [ek.inj h1 h2,ih t2]
theorem ItemsH.keeps {h h' : Heap} {x : List K} {vs : List Value} {d : Addr} {o : Obj} {es ep} (hx : ItemsH ek h x vs) (ho : h.get? d = some o) (hd : o.data = .dict es ep) (hs : Heap.SameBut d h h') : ItemsH ek h' x vs := by
  induction hx with
  | nil => exact .nil
  | cons h1 _ ih => exact .cons (ek.keeps h1 ho hd hs) ih
theorem IsNest.typeIs {s : Shared} {ks : List K} {a : Addr} (x : IsNest ek s.heap ks a) : s.TypeIs (.ref a) "tuple" := by
  obtain ⟨o,_,_,ho,hc,_⟩ := x; exact ⟨o,ho,hc⟩
theorem IsNest.inj {h : Heap} {a : Addr} {x y : List K} (hx : IsNest ek h x a) (hy : IsNest ek h y a) : x = y := by
  obtain ⟨o,items,n,ho,_,hd,hi⟩ := hx; obtain ⟨o',items',n',ho',_,hd',hi'⟩ := hy; rw [ho] at ho'; cases ho'; rw [hd] at hd'; cases hd'; exact hi.inj hi'
theorem IsNest.keeps {h h' : Heap} {ks : List K} {a d : Addr} {o : Obj} {es ep} (x : IsNest ek h ks a) (ho : h.get? d = some o) (hd : o.data = .dict es ep) (hs : Heap.SameBut d h h') : IsNest ek h' ks a := by
  obtain ⟨o',items,n,ho',hc,hd',hi⟩ := x
  have hne : a ≠ d := fun z => by
    rw [z,ho] at ho'; cases ho'; rw [hd] at hd'; exact nomatch hd'
  exact ⟨o',items,n,(hs.2 a hne).trans ho',hc,hd',hi.keeps ho hd hs⟩
def zga (ek : EK prog w K) (ks : List K) : Int := reduceHash (Builtin.Tuple.tupleHashOf (ks.map ek.hash))
def ze2 (ek : EK prog w K) (ks : List K) : Nat := (ks.map ek.draws).sum + 1
variable {A : Around} {E : Value -> Shared -> Prop} {s : Shared}
theorem zkA {ks : List K} {a : Addr} {Q : Int -> Shared -> Prop} (hu : A.units + 90 < cLine) (hk : IsNest ek s.heap ks a) (h : Q (zga ek ks) { s with toks := s.toks + ze2 ek ks }) : wpAny (model prog w) A (pyHash (.ref a)) Q E s := by
  have hT := hk.typeIs; obtain ⟨o,items,n,ho,_,hd,hi⟩ := hk; unfold pyHash
  first | unfold pyHashByItsType | skip
  first | refine wpAny_bind (wpAny_cRoomFor_or (.inr (by omega)) ?_) | skip
  refine wpAny_bind (wpAny_specialOf hT F.slot_tuple_hash.lookup ?_); show wpAny _ _ (if (some (Value.builtin "tuple.__hash__") == some Value.none) = true then _ else _) Q E s; rw [if_neg (by rw [beq_builtin_none]; exact fnt)]
  refine wpAny_bind (wpAny_specialOf hT F.slot_tuple_hash.lookup ?_); show wpAny _ _ (callSpecialIfBoundUnlessNone? (.ref a) "__hash__" _ >>= _) Q E s; refine wpAny_bind (wpAny_callSpecialIfBoundUnlessNone?_slot hT F.slot_tuple_hash (wpAny_call_entry F.slot_tuple_hash hT F.entry_tuple_hash ?_ (F.args_tuple_hash_1 _))); show wpAny _ _ (Builtin.Tuple.tupleItemsOf (.ref a) >>= _) _ _ s; refine wpAny_bind (wpAny_tupleItemsOf ho hd ?_); refine wpAny_bind ?_; rw [<- Array.forIn_toList]
  refine wpAny_forIn_list _
    (fun rest (b : Array Int) s' => ∃ done left,ks = done ++ left /\ ItemsH ek s.heap left rest /\ b.toList = done.map ek.hash /\ s' = { s with toks := s.toks + (done.map ek.draws).sum })
    _ ?_ ?_ _ _ ⟨[],ks,rfl,hi,rfl,rfl⟩
  . rintro x rest b s' ⟨done,left,rfl,hl,hb,rfl⟩
    cases hl with
    | @cons k _ ks' _ h1 hl' =>
      refine wpAny_bind (ek.pyHash ?_ h1 ?_)
      . show A.units + 1 + 80 < cLine; omega
      . first
          | exact wpAny_pure ⟨done ++ [k],ks',by simp,hl',by simp [hb],by simp [Nat.add_assoc]⟩
          | exact wpAny_bind (wpAny_pure (wpAny_pure ⟨done ++ [k],ks',by simp,hl',by simp [hb],by simp [Nat.add_assoc]⟩))
  . rintro b s' ⟨done,left,rfl,hl,hb,rfl⟩; cases hl; rw [List.append_nil] at h; show wpAny _ _ (retInt (Builtin.Tuple.tupleHashOf b.toList)) _ _ _; rw [hb]; refine wpAny_ret_mkInt ?_; show wpAny _ _ (if (decide (-(2 : Int) ^ 63 <= Builtin.Tuple.tupleHashOf (done.map ek.hash)) && decide (Builtin.Tuple.tupleHashOf (done.map ek.hash) < 2 ^ 63)) = true then _ else _) Q E _; unfold zga ze2 reduceHash at h
    by_cases hr : (decide (-(2 : Int) ^ 63 <= Builtin.Tuple.tupleHashOf (done.map ek.hash)) && decide (Builtin.Tuple.tupleHashOf (done.map ek.hash) < 2 ^ 63)) = true
    . rw [if_pos hr]; rw [if_pos hr] at h; exact wpAny_pure (by simpa [Nat.add_assoc] using h)
    . rw [if_neg hr]; rw [if_neg hr] at h; exact wpAny_bind (wpAny_rule (wpAny_pure (by simpa [Nat.add_assoc] using h)))
theorem zhK {x y : List K} {a b : Addr} {P : PySem.Fin -> Shared -> Prop} (hu : A.units + 80 < cLine) (hx : IsNest ek s.heap x a) (hy : IsNest ek s.heap y b) (h : P (.done (.ret (.bool (decide (x = y))))) s) :
    wpAny (model prog w) A (Builtin.«tuple.__eq__» ⟨[.ref a,.ref b],[]⟩) P E s := by
  have hTb := hy.typeIs; obtain ⟨oa,xs,na,hoa,_,hda,hia⟩ := hx; obtain ⟨ob,ys,nb,hob,_,hdb,hib⟩ := hy; show wpAny _ _ (isInstance (.ref b) (.type "tuple") >>= _) _ _ s; refine wpAny_bind (wpAny_isInstance hTb isSubtype_tuple_tuple ?_); simp only [Bool.not_true,Bool.false_eq_true,if_false]; refine wpAny_bind (wpAny_tupleItemsOf hoa hda ?_); refine wpAny_bind (wpAny_tupleItemsOf hob hdb ?_); refine wpAny_bind ?_
  refine wpAny_forIn_list _
    (fun rest r s' => r.1 = none /\ s' = s /\ ∃ x' y' xs' ys',rest = List.zip xs' ys' /\ ItemsH ek s.heap x' xs' /\ ItemsH ek s.heap y' ys' /\ decide (x' = y') = decide (x = y) /\ (xs'.length == ys'.length) = (xs.size == ys.size))
    _ ?_ ?_ _ _ ⟨rfl,rfl,x,y,xs.toList,ys.toList,rfl,hia,hib,rfl,by simp⟩
  . rintro ⟨u,v⟩ rest r s' ⟨hr,rfl,x',y',xs',ys',hz,hx',hy',hdec,hlen⟩
    cases hx' with
    | nil => simp at hz
    | @cons k1 u' x'' xs'' h1 hx'' =>
      cases hy' with
      | nil => simp at hz
      | @cons k2 v' y'' ys'' h2 hy'' =>
        simp only [List.zip_cons_cons,List.cons.injEq,Prod.mk.injEq] at hz; obtain ⟨⟨rfl,rfl⟩,rfl⟩ := hz; refine wpAny_bind (ek.eqBool (x := k1) (y := k2) hu h1 h2 ?_)
        by_cases hk : k1 = k2
        . subst hk; rw [decide_eq_true rfl]; simp only [Bool.not_true,Bool.false_eq_true,if_false]; refine wpAny_pure ⟨rfl,rfl,x'',y'',xs'',ys'',rfl,hx'',hy'',?_,by simpa using hlen⟩
          rw [<- hdec]
          by_cases hxy : x'' = y'' <;> simp [hxy]
        . rw [decide_eq_false hk]; simp only [Bool.not_false,if_true]; have hf : decide (x = y) = false := by rw [<- hdec]; simp [hk]
          rw [hf] at h; exact wpAny_bind (wpAny_pure (wpAny_pure (wpAny_pure h)))
  . rintro ⟨r1,r2⟩ s' ⟨hr,rfl,x',y',xs',ys',hz,hx',hy',hdec,hlen⟩; simp only at hr; subst hr; refine wpAny_pure ?_
    have hfin : (xs.size == ys.size) = decide (x = y) := by
      rw [<- hdec,<- hlen]
      cases hx' with
      | nil => cases hy' <;> simp
      | cons _ _ =>
        cases hy' with
        | nil => simp
        | cons _ _ => simp at hz
    show P (.done (.ret (.bool (xs.size == ys.size)))) s'; rw [hfin]; exact h
theorem zny {x y : List K} {a b : Addr} {Q : Bool -> Shared -> Prop} (hu : A.units + 90 < cLine) (hx : IsNest ek s.heap x a) (hy : IsNest ek s.heap y b) (h : Q (decide (x = y)) s) : wpAny (model prog w) A (eqBool (.ref a) (.ref b)) Q E s := by
  unfold eqBool
  try with_reducible refine wpAny_holding ?_
  show wpAny _ _ (if (Value.ref a == Value.ref b) = true then _ else _) Q E s
  by_cases hab : (Value.ref a == Value.ref b) = true
  . rw [if_pos hab]; have e : a = b := by have := eq_of_beq hab; injection this
    subst e; obtain rfl := hx.inj hy; exact wpAny_bind (wpAny_rule (wpAny_pure (by simpa using h)))
  . rw [if_neg hab]
    refine wpAny_bind (wpAny_richCompare_same_room (op := .Eq) hx.typeIs hy.typeIs F.slot_tuple_eq
      (wpAny_call_entry F.slot_tuple_eq hx.typeIs F.entry_tuple_eq (zhK ?_ hx hy ⟨_,rfl,(fun e => nomatch e),wpAny_truthy_bool h⟩) (F.args_tuple_eq_2 _ _)) (by omega))
    first
      | (show A.units + 1 + 80 < cLine; omega)
      | (show A.units + 1 + 1 + 80 < cLine; omega)
theorem zjI {ks : List K} {a : Addr} {Q : Bool -> Shared -> Prop} (hk : IsNest ek s.heap ks a) (h : Q true s) : wpAny (model prog w) A (eqIsQuiet 8 (.ref a)) Q E s := by
  have hT := hk.typeIs; obtain ⟨o,items,n,ho,_,hd,hi⟩ := hk; unfold eqIsQuiet; refine wpAny_bind (wpAny_specialOf hT F.slot_tuple_eq.lookup ?_); show wpAny _ _ (isInstance (.ref a) (.type "tuple") >>= _) _ _ s; refine wpAny_bind (wpAny_isInstance hT isSubtype_tuple_tuple ?_); simp only [Bool.not_true,Bool.false_eq_true,if_false]; refine wpAny_bind (wpAny_seqItems ho hd ?_); refine wpAny_bind ?_; show wpAny _ _ (forIn items _ _) _ _ s; rw [<- Array.forIn_toList]; refine wpAny_forIn_list _ (fun rest r s' => r.1 = none /\ s' = s /\ ∃ ks,ItemsH ek s.heap ks rest) _ ?_ ?_ _ _ ⟨rfl,rfl,_,hi⟩
  . rintro v rest r s' ⟨hr,rfl,ks,hl⟩
    cases hl with
    | @cons k _ ks' _ h1 hl' =>
      refine wpAny_bind (ek.quiet h1 ?_); simp only [Bool.not_true,Bool.false_eq_true,if_false]; exact wpAny_pure ⟨rfl,rfl,ks',hl'⟩
  . rintro ⟨r1,r2⟩ s' ⟨hr,rfl,_⟩; simp only at hr; subst hr; exact wpAny_pure h
end
def zcC {prog : Program} {w : World} {K : Type} [DecidableEq K] (ek : EK prog w K) : HeapKind prog w (List K) where
  is := IsNest ek
  hash := zga ek
  draws := ze2 ek
  room := fun A => A.units + 90 < cLine
  inj := fun hx hy => hx.inj hy
  keeps := fun x ho hd hs => x.keeps ho hd hs
  pyHash := fun hu hk h => zkA hu hk h
  eqBool := fun hu hx hy h => zny hu hx hy h
  quiet := fun hk h => zjI hk h
section
variable {prog : Program} {w : World} {A : Around} {E : Value -> Shared -> Prop} {s : Shared}
theorem ziu {h : Heap} {ks : List Int} {vs : List Value} (hx : ItemsAre (intKind prog w) ks vs) : ∃ as,ReadsAll h vs (ks.map PyData.int) as := by
  induction hx with
  | nil => exact ⟨_,.nil⟩
  | @cons k v ks vs h1 _ ih =>
    obtain ⟨as,ra⟩ := ih; obtain ⟨t,rfl⟩ := Value.isInt_shape h1; exact ⟨_,.cons (.int k t) ra⟩
theorem ziP {h : Heap} {ks : List Int} {a : Addr} (hk : IsTupleKey (intKind prog w) h ks a) : ∃ as,Reads h (.ref a) (.tuple (ks.map PyData.int)) as := by
  obtain ⟨o,items,n,ho,hc,hd,hi⟩ := hk; obtain ⟨as,ra⟩ := ziu (h := h) hi; exact ⟨_,.tuple ho hc hd ra⟩
theorem zfD (ks : List Int) : SeqAt.shaped (.tuple (ks.map PyData.int)) = true := by
  have h1 := (zbS ks).1; unfold SeqAt.shaped at h1 ⊢; simp only [PyData.canLay0,PyData.depth] at h1 ⊢; exact h1
theorem zf7 (i : Int) : SeqAt.shaped (.int i) = true := by
  unfold SeqAt.shaped; simp [PyData.canLay0,PyData.depth]
theorem zoi {ks : List Int} {i : Int} {a : Addr} {t : Tok} {Q : Bool -> Shared -> Prop} (hu : A.units + 80 < cLine) (hk : IsTupleKey (intKind prog w) s.heap ks a) (h : Q false s) : wpAny (model prog w) A (eqBool (.ref a) (.int i t)) Q E s := by
  obtain ⟨as,ra⟩ := ziP hk; unfold eqBool
  try with_reducible refine wpAny_holding ?_
  show wpAny _ _ (if (Value.ref a == Value.int i t) = true then _ else _) Q E s; rw [if_neg (by intro z; cases eq_of_beq z)]
  have q := eq_dataH_same (prog := prog) (w := w) (A := A) (E := E) (Q := fun v s' => v = .bool false /\ s' = s) ra (.int i t) (zfD ks) (zf7 i) (by omega) (by simp [SeqAt.noMix]) ⟨by simp [same],rfl⟩
  refine wpAny_bind (wpAny_mono (show wpAny (model prog w) A (richCompare .Eq (.ref a) (.int i t)) _ _ _ from q) (fun v s' hv => ?_) fun _ _ x => x); obtain ⟨rfl,rfl⟩ := hv; exact wpAny_truthy_bool h
theorem znM {ks : List Int} {i : Int} {a : Addr} {t : Tok} {Q : Bool -> Shared -> Prop} (hu : A.units + 80 < cLine) (hk : IsTupleKey (intKind prog w) s.heap ks a) (h : Q false s) : wpAny (model prog w) A (eqBool (.int i t) (.ref a)) Q E s := by
  obtain ⟨as,ra⟩ := ziP hk; unfold eqBool
  try with_reducible refine wpAny_holding ?_
  show wpAny _ _ (if (Value.int i t == Value.ref a) = true then _ else _) Q E s; rw [if_neg (by intro z; cases eq_of_beq z)]
  have q := eq_dataH_same (prog := prog) (w := w) (A := A) (E := E) (Q := fun v s' => v = .bool false /\ s' = s) (.int i t) ra (zf7 i) (zfD ks) (by omega) (by simp [SeqAt.noMix]) ⟨by simp [same],rfl⟩
  refine wpAny_bind (wpAny_mono (show wpAny (model prog w) A (richCompare .Eq (.int i t) (.ref a)) _ _ _ from q) (fun v s' hv => ?_) fun _ _ x => x); obtain ⟨rfl,rfl⟩ := hv; exact wpAny_truthy_bool h
theorem zkE {ks : List Int} {a : Addr} {Q : Bool -> Shared -> Prop} (hk : IsTupleKey (intKind prog w) s.heap ks a) (h : Q true s) : wpAny (model prog w) A (eqIsQuiet 7 (.ref a)) Q E s := by
  have hT := hk.typeIs; obtain ⟨o,items,n,ho,_,hd,hi⟩ := hk; unfold eqIsQuiet; refine wpAny_bind (wpAny_specialOf hT F.slot_tuple_eq.lookup ?_); show wpAny _ _ (isInstance (.ref a) (.type "tuple") >>= _) _ _ s; refine wpAny_bind (wpAny_isInstance hT isSubtype_tuple_tuple ?_); simp only [Bool.not_true,Bool.false_eq_true,if_false]; refine wpAny_bind (wpAny_seqItems ho hd ?_); refine wpAny_bind ?_; show wpAny _ _ (forIn items _ _) _ _ s; rw [<- Array.forIn_toList]; refine wpAny_forIn_list _ (fun rest r s' => r.1 = none /\ s' = s /\ ∀ v ∈ rest,carriedByValue v = true) _ ?_ ?_ _ _ ⟨rfl,rfl,hi.byValue⟩
  . rintro v rest r s' ⟨hr,rfl,hall⟩; rw [eqIsQuiet_byValue _ (hall v List.mem_cons_self)]; refine wpAny_bind (wpAny_pure ?_); simp only [Bool.not_true,Bool.false_eq_true,if_false]; exact wpAny_pure ⟨rfl,rfl,fun u hu' => hall u (List.mem_cons_of_mem _ hu')⟩
  . rintro ⟨r1,r2⟩ s' ⟨hr,rfl,_⟩; simp only at hr; subst hr; exact wpAny_pure h
end
def zeZ (prog : Program) (w : World) (h : Heap) : List Int ⊕ Int -> Value -> Prop
  | .inl ks,v => ∃ a,v = .ref a /\ IsTupleKey (intKind prog w) h ks a
  | .inr i,v => ∃ t,v = .int i t
def zbf (prog : Program) (w : World) : EK prog w (List Int ⊕ Int) where
  is := zeZ prog w
  hash := fun k => match k with
    | .inl ks => tupleKeyHash (intKind prog w) ks
    | .inr i => hashInt i
  draws := fun k => match k with
    | .inl ks => ks.length + 1
    | .inr _ => 1
  inj := by
    intro h v x y hx hy
    cases x with
    | inl ks =>
      obtain ⟨a,rfl,h1⟩ := hx
      cases y with
      | inl ks' =>
        obtain ⟨a',e,h2⟩ := hy; cases e; rw [h1.inj h2]
      | inr i => obtain ⟨t,e⟩ := hy; cases e
    | inr i =>
      obtain ⟨t,rfl⟩ := hx
      cases y with
      | inl ks' => obtain ⟨a',e,h2⟩ := hy; cases e
      | inr j => obtain ⟨t',e⟩ := hy; cases e; rfl
  keeps := by
    intro h h' k v d o es ep hk ho hd hs
    cases k with
    | inl ks => obtain ⟨a,rfl,h1⟩ := hk; exact ⟨a,rfl,h1.keeps ho hd hs⟩
    | inr i => exact hk
  pyHash := by
    intro A E s k v Q hu hk h
    cases k with
    | inl ks => obtain ⟨a,rfl,h1⟩ := hk; exact wpAny_pyHash_tuple (by omega) h1 h
    | inr i => obtain ⟨t,rfl⟩ := hk; exact wpAny_pyHash_int h
  eqBool := by
    intro A E s x y v u Q hu hx hy h
    cases x with
    | inl ks =>
      obtain ⟨a,rfl,h1⟩ := hx
      cases y with
      | inl ks' =>
        obtain ⟨a',rfl,h2⟩ := hy; exact wpAny_eqBool_tuple (by omega) h1 h2 (by simpa using h)
      | inr i =>
        obtain ⟨t,rfl⟩ := hy; exact zoi hu h1 (by simpa using h)
    | inr i =>
      obtain ⟨t,rfl⟩ := hx
      cases y with
      | inl ks' =>
        obtain ⟨a',rfl,h2⟩ := hy; exact znM hu h2 (by simpa using h)
      | inr j =>
        obtain ⟨t',rfl⟩ := hy; refine wpAny_eqBool_int ?_; rw [show (i == j) = decide ((Sum.inr i : List Int ⊕ Int) = Sum.inr j) from by rw [Bool.eq_iff_iff]; simp]
        exact h
  quiet := by
    intro A E s k v Q hk h
    cases k with
    | inl ks => obtain ⟨a,rfl,h1⟩ := hk; exact zkE h1 h
    | inr i =>
      obtain ⟨t,rfl⟩ := hk; rw [eqIsQuiet_byValue _ rfl]; exact wpAny_pure h
abbrev NK := List (List Int ⊕ Int)
def zdL (P : Program) (w : World) (d : Addr) (xs : List (NK × Addr × Value)) (h : Heap) : Prop :=
  (d == sysModules) = false /\ ∃ o es ep,h.get? d = some o /\ o.ExactDict /\ o.data = .dict es ep /\ es.toList = xs.map (entryOfKey (zcC (zbf P w))) /\ (xs.map (·.1)).Nodup
def elAt (K : Fg) (H : Hp) : List Int ⊕ Int -> V -> Prop
  | .inl ks,v => ∃ t,v = .ref t /\ SqT K H t (ks.map V.int)
  | .inr i,v => v = .int i
def KeyAt (K : Fg) (H : Hp) (k : NK) (a : Addr) : Prop := ∃ vs,SqT K H a vs /\ Paired (elAt K H) k vs
def zbZ (ks : List NK) (k : NK) : Bool := ks.any fun x => decide (x = k)
theorem zmN {ks : List NK} {k : NK} : zbZ ks k = true ↔ k ∈ ks := by
  unfold zbZ; rw [List.any_eq_true]; constructor
  . rintro ⟨x,hx,h⟩; rw [<- of_decide_eq_true h]; exact hx
  . intro h; exact ⟨k,h,decide_eq_true rfl⟩
def NDict (P : Program) (w : World) (K : Fg) (H : Hp) (d : Addr) (ks : List NK) : Prop :=
  ∃ xs : List (NK × Addr × Value),H d = some (.ext (zdL P w d xs)) /\ xs.map (·.1) = ks /\ (∀ x ∈ xs,KeyAt K H x.1 x.2.1) /\ xs.length <= 100000
theorem SqT.moved {K : Fg} {H H' : Hp} {a : Addr} {xs : List V} (ht : ∀ b ys,H b = some (.tup ys) -> H' b = some (.tup ys)) (hf : ∀ b o u,H b = some (.frz o u) -> H' b = some (.frz o u)) (h : SqT K H a xs) : SqT K H' a xs := by
  rcases h with (h | ⟨ob,h⟩) | h
  . exact .inl (.inl (ht _ _ h))
  . exact .inl (.inr ⟨ob,hf _ _ _ h⟩)
  . exact .inr h
theorem KeyAt.moved {K : Fg} {H H' : Hp} {k : NK} {a : Addr} (ht : ∀ b ys,H b = some (.tup ys) -> H' b = some (.tup ys)) (hf : ∀ b o u,H b = some (.frz o u) -> H' b = some (.frz o u)) (h : KeyAt K H k a) : KeyAt K H' k a := by
  obtain ⟨vs,h1,h2⟩ := h; refine ⟨vs,SqT.moved ht hf h1,Paired.imp' (fun k v hv => ?_) h2⟩
  cases k with
  | inl ks => obtain ⟨t,rfl,h⟩ := hv; exact ⟨t,rfl,SqT.moved ht hf h⟩
  | inr i => exact hv
theorem KeyAt.keep {K : Fg} {H H' : Hp} {k : NK} {a : Addr} (s : Same H H') (h : KeyAt K H k a) : KeyAt K H' k a := h.moved (fun b ys e => s _ _ e) fun b o u e => s _ _ e
theorem NDict.keep {P : Program} {w : World} {K : Fg} {H H' : Hp} {d : Addr} {ks : List NK} (s : Same H H') (h : NDict P w K H d ks) : NDict P w K H' d ks := by
  obtain ⟨xs,h1,h2,h3,h4⟩ := h; exact ⟨xs,s _ _ h1,h2,fun x hx => (h3 x hx).keep s,h4⟩
theorem NDict.updL {P : Program} {w : World} {K : Fg} {H : Hp} {d g : Addr} {ks : List NK} {zs : List V} {o : HO} (hg : H g = some (.lst zs)) (h : NDict P w K H d ks) : NDict P w K (upd H g o) d ks := by
  obtain ⟨xs,h1,h2,h3,h4⟩ := h; refine ⟨xs,?_,h2,fun x hx => (h3 x hx).moved (fun b ys e => ?_) (fun b o u e => ?_),h4⟩
  . rw [zaj (za2 h1 hg (by intro z; cases z))]; exact h1
  . rw [zaj (za2 e hg (by intro z; cases z))]; exact e
  . rw [zaj (za2 e hg (by intro z; cases z))]; exact e
section
variable {X : Cx} {pins : List (Addr × Obj)} {σ : St} {H : Hp} {s : Shared}
theorem ziT : ∀ {ks : List Int} {us : List Value},Vals (ks.map V.int) us -> ItemsAre (intKind X.prog X.w) ks us
  | [],us,r => by cases r; exact .nil
  | k :: ks,us,r => by
    cases r with
    | cons r1 r2 =>
      obtain ⟨t,rfl⟩ := (show ∃ t,_ = Value.int k t from r1); exact .cons (by simp [intKind,Value.isInt]) (ziT r2)
theorem zj0 {t : Addr} {ks : List Int} (I : Inv X pins σ H s) (h : SqT X.K H t (ks.map V.int)) : IsTupleKey (intKind X.prog X.w) s.heap ks t := by
  obtain ⟨its,rv,⟨o,e,hc,n,hd⟩,_⟩ := I.tuple h; exact ⟨o,its.toArray,n,e,hc,hd,by simpa using ziT rv⟩
theorem zht {k : NK} {a : Addr} (I : Inv X pins σ H s) (h : KeyAt X.K H k a) : IsNest (zbf X.prog X.w) s.heap k a := by
  obtain ⟨vs,h1,h2⟩ := h; obtain ⟨its,rv,⟨o,e,hc,n,hd⟩,_⟩ := I.tuple h1; refine ⟨o,its.toArray,n,e,hc,hd,?_⟩
  have : ∀ {k : NK} {vs : List V} {us : List Value},Paired (elAt X.K H) k vs -> Vals vs us -> ItemsH (zbf X.prog X.w) s.heap k us := by
    intro k vs us hp
    induction hp generalizing us with
    | nil => intro r; cases r; exact .nil
    | @cons k v ks vs hv _ ih =>
      intro r
      cases r with
      | cons r1 r2 =>
        refine .cons ?_ (ih r2)
        cases k with
        | inl ks =>
          obtain ⟨t,rfl,ht⟩ := hv; exact ⟨t,r1,zj0 I ht⟩
        | inr i =>
          have hv' : v = .int i := hv; subst hv'; exact r1
  simpa using this h2 rv
theorem zhG {d : Addr} {xs : List (NK × Addr × Value)} (I : Inv X pins σ H s) (h1 : H d = some (.ext (zdL X.prog X.w d xs))) (h3 : ∀ x ∈ xs,KeyAt X.K H x.1 x.2.1) : (d == sysModules) = false /\ s.heap.DictOfH (zcC (zbf X.prog X.w)) d xs := by
  obtain ⟨⟨hs,o,es,ep,e,hx,hd,he,hn⟩,_⟩ := I.hok d _ h1; exact ⟨hs,o,es,ep,e,hx,hd,he,fun x hm => zht I (h3 x hm),hn⟩
theorem zeK {xs : List (NK × Addr × Value)} {k : NK} : (atKey xs k).isSome = zbZ (xs.map (·.1)) k := by
  rw [Bool.eq_iff_iff,zmN]; unfold atKey; rw [Option.isSome_map,List.find?_isSome,List.mem_map]; constructor
  . rintro ⟨x,hx,h⟩; exact ⟨x,hx,of_decide_eq_true h⟩
  . rintro ⟨x,hx,rfl⟩; exact ⟨x,hx,decide_eq_true rfl⟩
end
section
variable {X : Cx} {pos : Pos}
def zoN (P : Program) (w : World) (K : Fg) : TE := fun _ H Q => ∀ (p : Addr) (H' : Hp),H p = none -> Same H H' -> NDict P w K H' p [] -> Q (.ref p) H'
theorem zlO {P : Program} {w : World} {H : Hp} {h : Heap} {d : Addr} {xs : List (NK × Addr × Value)} (hx : zdL P w d xs h) : ObjOk P w H h d (.ext (zdL P w d xs)) := by
  refine ⟨hx,?_,fun h1 h2 q k => ?_⟩
  . obtain ⟨_,o,_,_,e,_⟩ := hx; exact ⟨o,e⟩
  . obtain ⟨a,o,es,ep,e,r⟩ := q; exact ⟨a,o,es,ep,k _ e,r⟩
theorem zo5 {P : Program} {w : World} {K : Fg} {H : Hp} {p : Addr} : NDict P w K (upd H p (.ext (zdL P w p []))) p [] := ⟨[],zab,rfl,fun x hx => by simp at hx,by simp⟩
theorem ziO : PE X (.Dict [] [] pos) (zoN X.prog X.w X.K) := by
  intro pins s σ H Q I h; refine wpAny_Dict_empty ⟨.ref s.heap.objs.size,_,I.laid (a := s.heap.objs.size) (o := .ext (zdL X.prog X.w s.heap.objs.size [])) (t' := s.toks) (fun _ _ q => Heap.get?_push_of_some _ q) (Nat.le_refl _) (zlO ?_),rfl,h _ _ (I.hok.fresh (Nat.le_refl _)) (Same.upd (I.hok.fresh (Nat.le_refl _))) zo5⟩; exact ⟨beq_eq_false_iff_ne.mpr (Ne.symm (Nat.ne_of_lt I.big)),_,#[],0,Heap.get?_push_size _ rfl,⟨rfl,rfl,rfl⟩,rfl,rfl,List.nodup_nil⟩
theorem zky (hu : X.A.units + 100 < cLine) : OpR X (compareOp .NotIn) (fun x y H Q => ∃ (a d : Addr) (k : NK) (ks : List NK),x = .ref a /\ y = .ref d /\ KeyAt X.K H k a /\ NDict X.prog X.w X.K H d ks /\ Q (.bl (!zbZ ks k)) H) := by
  intro pins s σ H x y v u Q I rx ry h; obtain ⟨a,d,k,ks,rfl,rfl,hk,⟨xs,h1,rfl,h3,h4⟩,q⟩ := h; cases rx; cases ry; obtain ⟨hs,dd⟩ := zhG I h1 h3; refine wpAny_notIn_heap (knd := zcC (zbf X.prog X.w)) (show X.A.units + 1 + 90 < cLine by omega) (zht I hk) hs dd ?_
  rw [zeK]; exact ⟨.bl _,H,I.tok _,rfl,q⟩
theorem zos (hu : X.A.units + 100 < cLine) : OpR X (compareOp .In) (fun x y H Q => ∃ (a d : Addr) (k : NK) (ks : List NK),x = .ref a /\ y = .ref d /\ KeyAt X.K H k a /\ NDict X.prog X.w X.K H d ks /\ Q (.bl (zbZ ks k)) H) := by
  intro pins s σ H x y v u Q I rx ry h; obtain ⟨a,d,k,ks,rfl,rfl,hk,⟨xs,h1,rfl,h3,h4⟩,q⟩ := h; cases rx; cases ry; obtain ⟨hs,dd⟩ := zhG I h1 h3; refine wpAny_in_heap (knd := zcC (zbf X.prog X.w)) (show X.A.units + 1 + 90 < cLine by omega) (zht I hk) hs dd ?_
  rw [zeK]; exact ⟨.bl _,H,I.tok _,rfl,q⟩
theorem ze7 (xs : List (NK × Addr × Value)) (k : NK) (a : Addr) (v : Value) : (storedH xs k a v).map (·.1) = if zbZ (xs.map (·.1)) k = true then xs.map (·.1) else xs.map (·.1) ++ [k] := by
  unfold storedH; rw [zeK]
  by_cases h : zbZ (xs.map (·.1)) k = true
  . rw [if_pos h,if_pos h,List.map_map]; refine List.map_congr_left fun x _ => ?_; show (putAt k v x).1 = x.1; unfold putAt
    split <;> rfl
  . rw [if_neg h,if_neg h,List.map_append]
    rfl
theorem zli {xs : List (NK × Addr × Value)} {k : NK} {a : Addr} {v : Value} {y : NK × Addr × Value} (h : y ∈ storedH xs k a v) : (y.1 = k /\ y.2.1 = a) \/ ∃ x ∈ xs,y.1 = x.1 /\ y.2.1 = x.2.1 := by
  unfold storedH at h
  split at h
  . obtain ⟨x,hx,rfl⟩ := List.mem_map.mp h; refine .inr ⟨x,hx,?_⟩; unfold putAt
    split <;> exact ⟨rfl,rfl⟩
  . rcases List.mem_append.mp h with h | h
    . exact .inr ⟨y,h,rfl,rfl⟩
    . rw [List.mem_singleton.mp h]; exact .inl ⟨rfl,rfl⟩
def zpQ (P : Program) (w : World) (K : Fg) : V -> V -> V -> Hp -> (Hp -> Prop) -> Prop := fun o i v H Q => ∃ (d a : Addr) (k : NK) (ks : List NK),o = .ref d /\ i = .ref a /\ KeyAt K H k a /\ NDict P w K H d ks /\ ks.length < 100000 ∧
  ∀ φ,NDict P w K (upd H d (.ext φ)) d (if zbZ ks k = true then ks else ks ++ [k]) -> Q (upd H d (.ext φ))
theorem zmh (hu : X.A.units + 100 < cLine) : znL X (zpQ X.prog X.w X.K) := by
  intro pins s σ H o i v ov iv u Q I ro ri rv h; obtain ⟨d,a,k,ks,rfl,rfl,hk,⟨xs,h1,rfl,h3,h4⟩,hl,q⟩ := h; cases ro; cases ri; have hsz : sizeLine = 16777216 := sizeLine_eq; obtain ⟨hs,dd⟩ := zhG I h1 h3; refine wpAny_setItem_heap (knd := zcC (zbf X.prog X.w)) (show X.A.units + 1 + 90 < cLine by omega) (zht I hk) dd (fun h' dd' sb => ?_) (by omega)
  have hne : ∀ b ob,H b = some ob -> (∀ φ,ob ≠ .ext φ) -> b ≠ d := fun b ob e hob z => by rw [z,h1] at e; exact hob _ (Option.some.inj e).symm
  have mv : ∀ {k : NK} {c : Addr},KeyAt X.K H k c -> KeyAt X.K (upd H d (.ext (zdL X.prog X.w d (storedH xs k a u)))) k c := fun {k c} hk => hk.moved
    (fun b ys e => by rw [zaj (hne b _ e (by intro φ z; cases z))]; exact e) (fun b o u e => by rw [zaj (hne b _ e (by intro φ z; cases z))]; exact e)
  have mv' : ∀ {k' : NK} {c : Addr} {φ : Heap -> Prop},KeyAt X.K H k' c -> KeyAt X.K (upd H d (.ext φ)) k' c := fun {k' c φ} hk => hk.moved
    (fun b ys e => by rw [zaj (hne b _ e (by intro φ z; cases z))]; exact e) (fun b o u e => by rw [zaj (hne b _ e (by intro φ z; cases z))]; exact e)
  obtain ⟨o',es,ep,e',hx',hd',he',hk',hn'⟩ := dd'; have new : zdL X.prog X.w d (storedH xs k a u) h' := ⟨hs,o',es,ep,e',hx',hd',he',hn'⟩
  have J : Inv X pins σ (upd H d (.ext (zdL X.prog X.w d (storedH xs k a u)))) { s with heap := h',toks := s.toks + (zcC (zbf X.prog X.w)).draws k } :=
    I.write (x := d) (e := d) (by rw [h1]; exact True.intro) (.inl rfl) (fun b ob hb q => (sb.2 b hb).trans q) ⟨_,e'⟩ (zlO new)
  refine ⟨_,J,q _ ⟨storedH xs k a u,zab,ze7 xs k a u,fun y hy => ?_,?_⟩⟩
  . rcases zli hy with ⟨e1,e2⟩ | ⟨x,hx,e1,e2⟩
    . rw [e1,e2]; exact mv' hk
    . rw [e1,e2]; exact mv' (h3 x hx)
  . have e := congrArg List.length (ze7 xs k a u); rw [List.length_map] at e; rw [e]; rw [List.length_map] at hl
    split
    . rw [List.length_map]; omega
    . rw [List.length_append,List.length_map]; show _ + 1 <= _; omega
end
section
variable {X : Cx} {pins : List (Addr × Obj)} {σ : St} {H : Hp} {s : Shared} {scope : Scope} {x x' : Str} {ns : List Str} {idx : List Nat} {fp : List Addr}
end
section
variable {X : Cx} {elt iter : Expr} {x x' : Str} {px px' pt : Pos} {kt : Nat} {ifs : List Expr} {scope : Scope} {pos : Pos} {ns : List Str} {idx : List Nat} {wi : TI} {g : TG} {tt : TT} {te : TE}
end
theorem zhc : ∀ {ds : List PyData},zbt ds = true -> ∀ y ∈ ds,zbr y = true
  | [],_,y,hy => by cases hy
  | d :: ds,h,y,hy => by
    simp only [zbt,Bool.and_eq_true] at h
    rcases List.mem_cons.mp hy with rfl | hy
    . exact h.1
    . exact zhc h.2 y hy
section
variable {X : Cx}
theorem zbc (K : Fg) (h : X.K = K := by rfl) : zbH X (.type "list") (zob K) := h ▸ zhM
end
end L2
namespace HT
open PySem PyProof.Rows
def b2z (b : Bool) : Int := if b then 1 else 0
inductive Two : List Value -> List Value -> List Int -> List Int -> Prop
  | nil : Two [] [] [] []
  | int {vs ws : List Value} {ns ms : List Int} (a : Int) (t : Tok) (c : Int) (u : Tok) : Two vs ws ns ms -> Two (.int a t :: vs) (.int c u :: ws) (a :: ns) (c :: ms)
  | bool {vs ws : List Value} {ns ms : List Int} (x y : Bool) : Two vs ws ns ms -> Two (.bool x :: vs) (.bool y :: ws) (b2z x :: ns) (b2z y :: ms)
theorem Two.len {vs ws : List Value} {ns ms : List Int} (h : Two vs ws ns ms) : vs.length = ns.length /\ ws.length = ms.length /\ ns.length = ms.length := by
  induction h with
  | nil => exact ⟨rfl,rfl,rfl⟩
  | int _ _ _ _ _ ih => exact ⟨by simp [ih.1],by simp [ih.2.1],by simp [ih.2.2]⟩
  | bool _ _ _ ih => exact ⟨by simp [ih.1],by simp [ih.2.1],by simp [ih.2.2]⟩
theorem zkN (A : Around) (s : Shared) (x y : Bool) : ∃ e,SeqAt.EqAt A s (.bool x) (.bool y) e /\ (e = true ↔ b2z x = b2z y) :=
  ⟨(x == y),SeqAt.EqAt.bool_bool x y,by cases x <;> cases y <;> simp [b2z]⟩
theorem zku (A : Around) (s : Shared) (x y : Bool) (prog : Program) (w : World) (E : Value -> Shared -> Prop) (Q : Value -> Shared -> Prop) (h : Q (.bool (decide (b2z x < b2z y))) s) :
    wpAny (model prog w) A (richCompare .Lt (.bool x) (.bool y)) Q E s :=
  (PyProof.Rows.lt_bool (by cases x <;> cases y <;> exact h) : wpAny (model prog w) A (compareOp .Lt (.bool x) (.bool y)) Q E s)
section
open PySem.SeqAt
open PySem.AutoSeq1 (wpAny_loadPart')
open PySem.MeetsSeq PySem.MeetsSeq2 PySem.MeetsSeq3
theorem zhA (l b : Addr) (items items2 : Array Value) (n n2 : Nat) (dd dd2 : Option Addr) (sl sl2 : Array (Option Value)) (ns ms : List Int) (hi : Two items.toList items2.toList ns ms) :
    Meets (Builtin.«tuple.__lt__» ⟨[.ref l,.ref b],[]⟩)
      (fun _ R s => s.heap.get? l = some { cls := .type "tuple",dict := dd,data := .seq items n,slots := sl } /\ s.heap.get? b = some { cls := .type "tuple",dict := dd2,data := .seq items2 n2,slots := sl2 } ∧
        R (.ok (.ret (.bool (lexLt ns ms)))) s) :=
  .of_wp fun prog w A R s h => by
    obtain ⟨hp,g,d,tk,os⟩ := s; obtain ⟨hl,hb,h⟩ := h; have f2 := AutoSeq1.sub_tuple_tuple; have z0 := hi.len; have z1 : items.size = ns.length := by rw [<- z0.1]; simp
    have z2 : items2.size = ms.length := by rw [<- z0.2.1]; simp
    have z3 := z0.2.2
    wp_walk using wpAny_loadPart' hl,wpAny_loadPart' hb,wpAny_forIn_list _ (fun rest b s' => b.1 = none /\ s' = ⟨hp,g,d,tk,os⟩ /\ ∃ (vs ws : List Value) (ns' ms' : List Int),rest = vs.zip ws ∧
      Two vs ws ns' ms' /\ R (.ok (.ret (.bool (lexLt ns' ms')))) ⟨hp,g,d,tk,os⟩) _
    case turn =>
      rintro ⟨y,x⟩ rest b s' ⟨hb',rfl,vs,ws,ns',ms',hz,hvi,hR⟩
      cases hvi with
      | nil => rw [List.zip_nil_left] at hz; cases hz
      | int a t c u hvi' =>
          rw [List.zip_cons_cons] at hz; injection hz with hyx hrest
          injection hyx with hy hx
          subst hy hx; rw [lexLt_cons] at hR; obtain ⟨e,he,hiff⟩ := zmC A.in1 ⟨hp,g,d,tk,os⟩ a t c u; refine wpAny_bind (he prog w _ _ ?_)
          cases e with
          | true =>
            rw [if_pos (hiff.mp rfl)] at hR
            wp_walk
            exact ⟨rfl,rfl,_,_,_,_,hrest,hvi',hR⟩
          | false =>
            rw [if_neg (fun q => absurd (hiff.mpr q) fnt)] at hR; have hri := zmi A.in1 ⟨hp,g,d,tk,os⟩ a t c u prog w
            wp_walk using hri
            exact ⟨_,rfl,by simpa using hR⟩
      | bool p q hvi' =>
          rw [List.zip_cons_cons] at hz; injection hz with hyx hrest
          injection hyx with hy hx
          subst hy hx; rw [lexLt_cons] at hR; obtain ⟨e,he,hiff⟩ := zkN A.in1 ⟨hp,g,d,tk,os⟩ p q; refine wpAny_bind (he prog w _ _ ?_)
          cases e with
          | true =>
            rw [if_pos (hiff.mp rfl)] at hR
            wp_walk
            exact ⟨rfl,rfl,_,_,_,_,hrest,hvi',hR⟩
          | false =>
            rw [if_neg (fun z => absurd (hiff.mpr z) fnt)] at hR; have hri := zku A.in1 ⟨hp,g,d,tk,os⟩ p q prog w
            wp_walk using hri
            exact ⟨_,rfl,by simpa using hR⟩
    case fin =>
      rintro ⟨b1,b2⟩ s' ⟨hb',rfl,vs,ws,ns',ms',hz,hvi,hR⟩; simp only at hb'; subst hb'
      have hv : lexLt ns' ms' = decide (items.size < items2.size) := by
        cases hvi with
        | nil =>
          rw [lexLt_nil_nil]; exact (decide_eq_false (by omega)).symm
        | int a t c u _ => rw [List.zip_cons_cons] at hz; cases hz
        | bool p q _ => rw [List.zip_cons_cons] at hz; cases hz
      rw [hv] at hR
      wp_walk
      exact ⟨_,rfl,by simpa [Builtin.Tuple.tupleCompareSizes] using hR⟩
    case h =>
      exact ⟨rfl,rfl,items.toList,items2.toList,ns,ms,rfl,hi,h⟩
end
section
variable {prog : Program} {w : World} {A : Around} {E : Value -> Shared -> Prop} {s : Shared}
theorem lt_tupTwo {l b : Addr} {items items2 : Array Value} {ns ms : List Int} {Q : Value -> Shared -> Prop} (hl : IsTup s.heap l items) (hb : IsTup s.heap b items2) (hi : Two items.toList items2.toList ns ms)
    (hu : A.units < cLine) (h : Q (.bool (lexLt ns ms)) s) : wpAny (model prog w) A (richCompare .Lt (.ref l) (.ref b)) Q E s := by
  obtain ⟨⟨cls,dd,data,sl⟩,ho,hc,n,hd⟩ := id hl; obtain ⟨⟨cls2,dd2,data2,sl2⟩,ho2,hc2,n2,hd2⟩ := id hb; simp only at hc hd hc2 hd2; subst hc hd hc2 hd2
  exact richCompare_meets_room (op := .Lt) ⟨_,ho,rfl⟩ ⟨_,ho2,rfl⟩ PySem.F.slot_tuple_lt PySem.F.entry_tuple_lt (PySem.F.args_tuple_lt_2 _ _) (zhA l b items items2 n n2 dd dd2 sl sl2 ns ms hi)
    ⟨ho,ho2,show Value.bool (lexLt ns ms) ≠ Value.notImplemented /\ Q (.bool (lexLt ns ms)) s from ⟨(fun x => nomatch x),h⟩⟩ hu
end
end HT
namespace L2
open PySem PySem.Spec PyProof.Rows
def zd9 (f c : Addr) (q : Str) (params : Arguments) (body : Expr) (scope : Scope) : Heap -> Prop := fun h => ∃ pm ctv,h.get? f = some (PySem.W.kla_obj "<lambda>" q params body scope [] pm c ctv)
def zbR (c : Addr) (q : Str) : Heap -> Prop := fun h => ∃ o vs t,h.get? c = some o /\ o.data = .fields vs /\ vs[1]? = some (.str q t)
theorem zlu {P : Program} {w : World} {H : Hp} {h : Heap} {c : Addr} {q : Str} (x : zbR c q h) : ObjOk P w H h c (.ext (zbR c q)) :=
  ⟨x,let ⟨o,_,_,e,_⟩ := x; ⟨o,e⟩,fun h1 h2 z k => let ⟨o,vs,t,e,r⟩ := z; ⟨o,vs,t,k _ e,r⟩⟩
theorem zkl {P : Program} {w : World} {H : Hp} {h : Heap} {f c : Addr} {q : Str} {params : Arguments} {body : Expr} {scope : Scope} (x : zd9 f c q params body scope h) : ObjOk P w H h f (.ext (zd9 f c q params body scope)) :=
  ⟨x,let ⟨_,_,e⟩ := x; ⟨_,e⟩,fun h1 h2 z k => let ⟨pm,ct,e⟩ := z; ⟨pm,ct,k _ e⟩⟩
theorem znr {P : Program} {w : World} {K : Fg} {mg : Str -> Option Value} {base : Heap} {A : Around} {outer : List Env} {s : Shared} {H : Hp} {f c : Addr} {q : Str} {params : Arguments} {body : Expr} {scope : Scope} {N ps : List Str} {us : List Value} {vs : List V} {Q : VK} {E : XK} {te : TE} {k : Nat}
    (S : zaw N ps scope) (hr : Room (k + 1) A) (e0 : Env0 P w K mg base A outer s H) (hf : zd9 f c q params body scope s.heap) (hc : zbR c q s.heap)
    (hb : ∀ pm ctv,bindArgs (PySem.W.kla_fn "<lambda>" q params body scope [] pm (.ref c) ctv) ⟨us,[]⟩ = pure (ps.zip us)) (hl : vs.length = ps.length) (r : Vals vs us)
    (ht : PE (zcp CX0 P w K mg base N q scope f (.ref c) A outer s H E) body te) (hq : te (start N vs) H Q) : codeAny (model P w) A (.call (.ref f) ⟨us,[]⟩) (CR CX0 outer P w H s Q E) s := by
  obtain ⟨pm,ctv,ho⟩ := hf; have lim : s.heap.NoLimit := e0.mod.nolimit.keeps fun b o e => (e0.bs b o e).1
  have hkind : ∀ y ∈ ps.zip us,scope.names.lookup y.1 = some .local \/ (scope.names.lookup y.1 = some .cell /\ ((cellsFrom (s.heap.objs.size + 1) scope.names []).lookup y.1).isSome = true) := fun ⟨n,v⟩ hy => by
    rcases S.par n (List.of_mem_zip hy).1 with q | q
    . exact .inl q
    . exact .inr ⟨q,PySem.W.cellsFrom_some _ _ _ (.inl q)⟩
  have hcd : s.heap.CodeRec (.ref c) q := let ⟨o,vs,t,e,r⟩ := hc; ⟨c,o,vs,t,rfl,e,r⟩; refine PySem.W.kla_callFunE hr.depth ho rfl S.co S.gen rfl hcd ?_; rw [hb]; refine wpAny_pure (wpAny_newFunctionEnv_cells S.kind hkind fun env he s1 x => ?_); subst he; refine ⟨lim.keeps x.toInCall.keep,PySem.W.kla_codeExpr ?_⟩; have I : Inv (zcp CX0 P w K mg base N q scope f (.ref c) A outer s H E) [] (start N vs) H s1 := zhf S hr.hd e0 hl r x; refine wpAny_mono (ht [] s1 (start N vs) H _ I hq) (fun u s' hs => ?_) fun e s' hs => hs; obtain ⟨v,H',J,rv,qq⟩ := hs; exact ⟨v,H',J.os,J.bare,J.base,J.hok,rv,qq⟩
def BAt (mg : Str -> Option Value) (base : Heap) : Prop := ∃ bm o,mg "__builtins__" = some (.ref bm) /\ bm ≠ builtinsNs /\ bm ≠ mainGlobals /\ base.get? bm = some o /\ o.cls = .type "module" /\ o.dict = some builtinsNs /\ o.data = .plain
def LamTab (Pt : Addr) (pos : Pos) (q : Str) (H : Hp) : Prop := H Pt = some (.tbl #[]) \/ ∃ c,H Pt = some (.tbl #[rawInt pos.line,rawInt pos.col,.ref c]) /\ H c = some (.ext (zbR c q))
def SameP (Pt : Addr) (H H' : Hp) : Prop := ∀ b o,H b = some o -> b ≠ Pt -> H' b = some o
theorem Same.p {Pt : Addr} {H H' : Hp} (a : Same H H') : SameP Pt H H' := fun c o h _ => a c o h
theorem LamTab.keep {Pt : Addr} {pos : Pos} {q : Str} {H H' : Hp} (s : Same H H') (h : LamTab Pt pos q H) : LamTab Pt pos q H' := by
  rcases h with h | ⟨c,h1,h2⟩
  . exact .inl (s _ _ h)
  . exact .inr ⟨c,s _ _ h1,s _ _ h2⟩
def zqx (Pt : Addr) (pos : Pos) (q : Str) (params : Arguments) (body : Expr) (scope : Scope) : TE := fun _ H Q => LamTab Pt pos q H /\ ∀ (f c : Addr) (H' : Hp),H f = none -> SameP Pt H H' -> LamTab Pt pos q H' →
  H' f = some (.ext (zd9 f c q params body scope)) -> H' c = some (.ext (zbR c q)) -> Q (.ref f) H'
section
variable {X : Cx}
theorem zo6 {params : Arguments} {body : Expr} {scope : Scope} {pos : Pos} {c Pt : Addr} (hB : BAt X.mg X.base) (hcode : X.env.code = .ref c) (hC : PySem.W.codeHdIn X.K c Pt = true) (hdef : defaultsOf params X.env = ([],[]) := by rfl)
    (hcl : closureFor scope X.env = pure [] := by rfl) : PE X (.Lambda params body scope pos) (zqx Pt pos (X.env.qual ++ "<lambda>") params body scope) := by
  intro pins s σ H Q I h; obtain ⟨hT,hQ⟩ := h; refine PySem.W.kla_eval hdef ?_; have hns : s.heap.Ns mainGlobals X.mg := let ⟨o,es,ep,e,r⟩ := I.ok.mod.glob; ⟨o,es,ep,I.bk _ _ e,r⟩; have hCd := PySem.W.codeHd_of_K I.kIn hC; obtain ⟨bm,ob,b1,b2,b3,b4,b5,b6,b7⟩ := hB; have gPt : ∀ ps,H Pt = some (.tbl ps) -> s.heap.get? Pt = some (PySem.W.tabObj ps) := fun ps e => I.hok Pt _ e; have nPt : H Pt ≠ none := by rcases hT with e | ⟨_,e,_⟩ <;> rw [e] <;> simp
  have old : ∀ b o,X.base.get? b = some o -> b ≠ Pt := fun b o e z => nPt (by rw [<- z]; exact (I.bs b o e).2)
  have hbm : s.heap.BuiltinsAt X.mg Pt := ⟨bm,ob,b1,b2,b3,old _ _ b4,I.bk _ _ b4,b5,b6,b7⟩; have hgP : mainGlobals ≠ Pt := let ⟨o,_,_,e,_⟩ := I.ok.mod.glob; old _ _ e
  rcases hT with hT | ⟨c1,hT,hc1⟩
  . -- the first time
    refine PySem.W.kla_makeFunction (ps := #[]) hcl I.ok.glob hns hcode hCd (gPt _ hT) True.intro rfl hgP hbm fun c' ctv h' tk hx hge hlt hrec htb => ?_; obtain ⟨c2,oc,vsc,tc,e2,hoc,hdc,hvc⟩ := hrec; cases e2; have hcE : zbR c' (X.env.qual ++ "<lambda>") h' := ⟨oc,vsc,tc,hoc,hdc,hvc⟩; have fresh : ∀ b,s.heap.objs.size <= b -> H b = none := fun b hb => I.hok.fresh hb; have hsz : s.heap.objs.size <= h'.objs.size := Nat.le_trans hge (Nat.le_of_lt hlt); have nc : c' ≠ h'.objs.size := Nat.ne_of_lt hlt; have Pc : Pt ≠ c' := fun z => nPt (by rw [z]; exact fresh _ hge)
    have Pf : Pt ≠ h'.objs.size := fun z => nPt (by rw [z]; exact fresh _ hsz)
    have hp2 : (h'.push (PySem.W.kla_obj "<lambda>" (X.env.qual ++ "<lambda>") params body scope [] ((X.mg "__name__").getD .none) c' ctv)).get? Pt = some (PySem.W.tabObj #[rawInt pos.line,rawInt pos.col,.ref c']) := Heap.get?_push_of_some _ htb; have kp : ∀ b o,b ≠ Pt -> s.heap.get? b = some o -> (h'.push (PySem.W.kla_obj "<lambda>" (X.env.qual ++ "<lambda>") params body scope [] ((X.mg "__name__").getD .none) c' ctv)).get? b = some o := fun b o hb e => Heap.get?_push_of_some _ (hx b o hb e); have hcF : zbR c' (X.env.qual ++ "<lambda>") (h'.push (PySem.W.kla_obj "<lambda>" (X.env.qual ++ "<lambda>") params body scope [] ((X.mg "__name__").getD .none) c' ctv)) := ⟨oc,vsc,tc,Heap.get?_push_of_some _ hoc,hdc,hvc⟩; have hlF : zd9 h'.objs.size c' (X.env.qual ++ "<lambda>") params body scope (h'.push (PySem.W.kla_obj "<lambda>" (X.env.qual ++ "<lambda>") params body scope [] ((X.mg "__name__").getD .none) c' ctv)) := ⟨_,_,Heap.get?_push_size _ rfl⟩; generalize hh : h'.push (PySem.W.kla_obj "<lambda>" (X.env.qual ++ "<lambda>") params body scope [] ((X.mg "__name__").getD .none) c' ctv) = h2 at hp2 kp hcF hlF ⊢
    have at_ne : ∀ b,b ≠ Pt -> b ≠ c' -> b ≠ h'.objs.size -> upd (upd (upd H Pt (.tbl #[rawInt pos.line,rawInt pos.col,.ref c'])) c' (.ext (zbR c' (X.env.qual ++ "<lambda>")))) h'.objs.size (.ext (zd9 h'.objs.size c' (X.env.qual ++ "<lambda>") params body scope)) b = H b :=
      fun b n1 n2 n3 => by rw [zaj n3,zaj n2,zaj n1]
    have at_P : upd (upd (upd H Pt (.tbl #[rawInt pos.line,rawInt pos.col,.ref c'])) c' (.ext (zbR c' (X.env.qual ++ "<lambda>")))) h'.objs.size (.ext (zd9 h'.objs.size c' (X.env.qual ++ "<lambda>") params body scope)) Pt = some (.tbl #[rawInt pos.line,rawInt pos.col,.ref c']) := by
      rw [zaj Pf,zaj Pc,zab]
    have at_c : upd (upd (upd H Pt (.tbl #[rawInt pos.line,rawInt pos.col,.ref c'])) c' (.ext (zbR c' (X.env.qual ++ "<lambda>")))) h'.objs.size (.ext (zd9 h'.objs.size c' (X.env.qual ++ "<lambda>") params body scope)) c' = some (.ext (zbR c' (X.env.qual ++ "<lambda>"))) := by
      rw [zaj nc,zab]
    have at_f : upd (upd (upd H Pt (.tbl #[rawInt pos.line,rawInt pos.col,.ref c'])) c' (.ext (zbR c' (X.env.qual ++ "<lambda>")))) h'.objs.size (.ext (zd9 h'.objs.size c' (X.env.qual ++ "<lambda>") params body scope)) h'.objs.size = some (.ext (zd9 h'.objs.size c' (X.env.qual ++ "<lambda>") params body scope)) := zab; generalize upd (upd (upd H Pt (.tbl #[rawInt pos.line,rawInt pos.col,.ref c'])) c' (.ext (zbR c' (X.env.qual ++ "<lambda>")))) h'.objs.size (.ext (zd9 h'.objs.size c' (X.env.qual ++ "<lambda>") params body scope)) = H1 at at_ne at_P at_c at_f; have oldne : ∀ b u,H b = some u -> b ≠ c' /\ b ≠ h'.objs.size := fun b u e => ⟨zam e (fresh _ hge),zam e (fresh _ hsz)⟩
    have un : Un (frs X.stack) [] H H1 s.heap h2 := by
      refine ⟨fun b o e n _ _ => kp b o (fun z => nPt (by rw [<- z]; exact n)) e,fun b o e n _ _ => ⟨o.slots,kp b o (fun z => nPt (by rw [<- z]; exact n)) e⟩,fun b o e n _ => ?_,fun b o e _ => ?_,fun b xs e => ?_,fun b o u e => ?_,fun b ps e => ?_⟩
      . have hb := Heap.lt_size e; rw [at_ne b (fun z => nPt (by rw [<- z]; exact n)) (Nat.ne_of_lt (Nat.lt_of_lt_of_le hb hge)) (Nat.ne_of_lt (Nat.lt_of_lt_of_le hb hsz))]
        exact n
      . by_cases hb : b = Pt
        . rw [hb]; exact ⟨_,hp2⟩
        . exact ⟨o,kp b o hb e⟩
      . have := oldne b _ e; rw [at_ne b (za2 e hT (by intro z; cases z)) this.1 this.2]
        exact e
      . have := oldne b _ e; rw [at_ne b (za2 e hT (by intro z; cases z)) this.1 this.2]
        exact e
      . by_cases hb : b = Pt
        . rw [hb,hT] at e; cases e; exact ⟨#[rawInt pos.line,rawInt pos.col,.ref c'],by rw [hb,at_P]; simp⟩
        . have := oldne b _ e; exact ⟨#[],by rw [at_ne b hb this.1 this.2,e]; simp⟩
    have hok : HOk X.prog X.w H1 h2 := by
      intro a o e
      by_cases e1 : a = h'.objs.size
      . subst e1; rw [at_f] at e; cases e; exact zkl hlF
      . by_cases e2 : a = c'
        . subst e2; rw [at_c] at e; cases e; exact zlu hcF
        . by_cases e3 : a = Pt
          . subst e3; rw [at_P] at e; cases e; exact hp2
          . rw [at_ne a e3 e2 e1] at e; refine (I.hok a o e).stay (fun b u hb eb => kp b u ?_ eb) (fun b eb => ?_) fun b xs eb => un.tups b xs eb
            . rcases hb with rfl | hb
              . exact e3
              . exact za2 hb hT (by intro z; cases z)
            . have := oldne b _ eb; rw [at_ne b (za2 eb hT (by intro z; cases z)) this.1 this.2]
              exact eb
    refine ⟨.ref h'.objs.size,H1,I.call (h' := h2) (g' := s.gens) (d' := s.drawn) (t' := tk) (ch := []) un hok I.bare (fun b z => absurd z (by simp)),rfl,hQ _ c' H1 (fresh _ hsz) (fun b o e n => ?_) (.inr ⟨c',at_P,at_c⟩) at_f at_c⟩
    have := oldne b _ e; rw [at_ne b n this.1 this.2]; exact e
  . -- its code is there
    have hf : codeAmong pos (#[rawInt pos.line,rawInt pos.col,Value.ref c1] : Array Value).toList = some (.ref c1) := by
      have := codeAmong_snoc (pos := pos) (c := .ref c1) [] True.intro rfl; exact this
    refine PySem.W.kla_makeFunctionHit (cv := .ref c1) hcl I.ok.glob hns hcode hCd (gPt _ hT) True.intro hf hbm fun ctv h' tk hk hsz => ?_; have fr : H h'.objs.size = none := I.hok.fresh hsz; refine ⟨.ref h'.objs.size,_,I.laid (a := h'.objs.size) (o := .ext (zd9 h'.objs.size c1 (X.env.qual ++ "<lambda>") params body scope)) (t' := tk) (fun b u e => Heap.get?_push_of_some _ (hk b u e)) hsz (zkl ⟨_,_,Heap.get?_push_size _ rfl⟩),rfl,?_⟩; have sm := Same.upd (o := .ext (zd9 h'.objs.size c1 (X.env.qual ++ "<lambda>") params body scope)) fr; exact hQ _ c1 _ fr (Same.p sm) (LamTab.keep sm (.inr ⟨c1,hT,hc1⟩)) zab (sm _ _ hc1)
end
def zlV (X : Cx) (f : Value) (ks : List Str) (r : List V -> List V -> Hp -> VK -> Prop) : Prop :=
  ∀ (pins : List (Addr × Obj)) (s : Shared) (σ : St) (H : Hp) (vs : List V) (us : List Value) (zs : List V) (ws : List Value) (Q : VK),Inv X pins σ H s -> Vals vs us -> Vals zs ws -> r vs zs H Q →
    wpAny (model X.prog X.w) X.A (call f us (ks.zip ws)) (EP X pins σ Q) X.xe s
def zqm (r : List V -> List V -> Hp -> VK -> Prop) (t tk : TA) : TE := fun σ H Q => t σ H fun vs H1 => tk σ H1 fun zs H2 => r vs zs H2 Q
section
variable {X : Cx} {x : Str} {p pos : Pos} {e : Expr} {es : List Expr} {kws : List Keyword} {t tk : TA} {id : String} {ks : List Str} {r : List V -> List V -> Hp -> VK -> Prop}
theorem zk9 (hc : zlV X (.builtin id) ks r) (hg : Gl X x) (hm : X.mg x = none) (hv : bootBuiltins x = some (.builtin id)) (ha : PA X (e :: es) t) (hkw : PK X kws tk) (hn : x ≠ "__name__" := by decide) (hdb : (x == ("__debug__" : Str)) = false := by decide)
    (hks : (backToKw pos (keywordEach kws X.env)).filterMap (·.1) = ks := by rfl)
    (he : backTo pos (starEach (e :: es) X.env) = (false,eval e X.env) :: backTo pos (starEach es X.env) := by rfl) (hpl : (backTo pos (starEach (e :: es) X.env)).any (·.1) = false := by rfl)
    (hall : (backToKw pos (keywordEach kws X.env)).all (·.1.isSome) = true := by rfl) (hnn : (backToKw pos (keywordEach kws X.env)).any (·.1.isNone) = false := by rfl) : PE X (.Call (.Name x p) (e :: es) kws pos) (zqm r t tk) := by
  intro pins s σ H Q I h; refine wpAny_Call_Name_kw (zdY I hg hm hv ?_ hn hdb); refine PyProof.Rows.callWith_kw (thn (ha pos pins s σ H _ I h) fun us s1 ⟨vs,H1,I1,r1,q1⟩ => ?_) he hpl hall hnn; refine thn (hkw pos pins s1 σ H1 _ I1 q1) fun ws s2 ⟨zs,H2,I2,rz,q2⟩ => ?_; rw [hks]; exact hc pins s2 σ H2 vs us zs ws Q I2 r1 rz q2
end
def kz (x : Bool × Int) : List Int := [HT.b2z x.1,x.2]
theorem zj2 (a : Bool × Int) : HT.lexLt (kz a) (kz a) = false := by simp [kz,HT.lexLt]
theorem zj8 (a b c d : Int) : HT.lexLt [a,b] [c,d] = if a = c then decide (b < d) else decide (a < c) := by
  rw [HT.lexLt_cons,HT.lexLt_cons,HT.lexLt_nil_nil]
  by_cases h : a = c
  . rw [if_pos h,if_pos h]
    by_cases h2 : b = d
    . rw [if_pos h2,decide_eq_false (by omega)]
    . rw [if_neg h2]
  . rw [if_neg h,if_neg h]
theorem zkL {a b c : Bool × Int} (h1 : HT.lexLt (kz a) (kz b) = true) (h2 : HT.lexLt (kz c) (kz b) = false) : HT.lexLt (kz c) (kz a) = false := by
  unfold kz at *; rw [zj8] at *; generalize HT.b2z a.1 = a1 at *; generalize HT.b2z b.1 = b1 at *; generalize HT.b2z c.1 = c1 at *
  split at h1 <;> split at h2 <;> split <;> simp only [decide_eq_true_eq,decide_eq_false_iff_not] at * <;> omega
def znp (K : Fg) (q : Str) (params : Arguments) (body : Expr) (scope : Scope) (N : List Str) (te : TE) : List V -> List V -> Hp -> VK -> Prop := fun vs zs H Q => ∃ (p : Addr) (xs : List V) (f c : Addr) (kb : Nat -> Bool × Int),vs = [.ref p] /\ zs = [.ref f,.non] /\ SqL K H p xs ∧
  H f = some (.ext (zd9 f c q params body scope)) /\ H c = some (.ext (zbR c q)) ∧
  (∀ (i : Nat) (v : V) (Hj : Hp),xs[i]? = some v -> Same H Hj -> te (start N [v]) Hj fun r H2 => ∃ t,r = .ref t /\ H2 t = some (.tup [.bl (kb i).1,.int (kb i).2]) /\ Same Hj H2) ∧
  (xs = [] -> Q .non H) /\ ∀ (i : Nat) (v : V) (H' : Hp),xs[i]? = some v -> (∀ j,j < xs.length -> HT.lexLt (kz (kb j)) (kz (kb i)) = false) -> Same H H' -> Q v H'
theorem zkW (a v d : Value) : argsOk "min" ⟨[a],[(Str.ofString "key",v),(Str.ofString "default",d)]⟩ := by unfold argsOk; kernel_rfl
section
variable {X : Cx}
theorem FpOk.call {pins : List (Addr × Obj)} {H H' : Hp} {h h' : Heap} {b : Addr} {o : Obj} (x : FpOk X pins H b) (e : h.get? b = some o) (un : Un (frs X.stack) [] H H' h h') (I : ∀ b ∈ frs X.stack,b ∈ X.env.locals :: X.fs) : FpOk X pins H' b /\ h'.get? b = some o := by
  refine ⟨⟨un.free b o e x.1 (by simp),x.2⟩,un.keep b o e x.1 (fun z => ?_) (by simp)⟩
  rcases List.mem_cons.mp (I b z) with z | z
  . exact x.2.1 z
  . exact x.2.2.1 z
theorem ziE {params : Arguments} {body : Expr} {scope : Scope} {N : List Str} {a : Str} {q : Str} {te : TE} {k : Nat} (S : zaw N [a] scope) (hr : Room (k + 2) X.A) (hcalm : X.calm = true)
    (hb : ∀ (c : Addr) (u pm ctv : Value),bindArgs (PySem.W.kla_fn "<lambda>" q params body scope [] pm (.ref c) ctv) ⟨[u],[]⟩ = pure [(a,u)])
    (ht : ∀ (f c : Addr) (A : Around) (outer : List Env) (s : Shared) (H : Hp) (E : XK),PE (zcp CX0 X.prog X.w X.K X.mg X.base N q scope f (.ref c) A outer s H E) body te) :
    zlV X (.builtin "min") ["key","default"] (znp X.K q params body scope N te) := by
  intro pins s σ H vs us zs ws Q I rv rz h; obtain ⟨p,xs,f,c,kb,rfl,rfl,hS,hf,hc,turn,q0,q1⟩ := h; obtain ⟨u,rfl,ru⟩ := zc4 rv
  cases (show u = Value.ref p from ru)
  obtain ⟨u1,u2,rfl,r1,r2⟩ := zim rz
  cases (show u1 = Value.ref f from r1)
  cases (show u2 = Value.none from r2)
  have hh : X.A.handled = none := I.ok.hd hcalm; have hname : (toString "min" ++ toString ".loop" : String) = "min.loop" := by decide
  have one : ∀ (i : Nat) (x : V) (v : Value) (H1 : Hp) (s1 : Shared),xs[i]? = some x -> RelV x v -> Same H H1 -> Inv X pins σ H1 s1 →
      wpAny (model X.prog X.w) X.A.in1 (call (.ref f) [v]) (fun u s2 => ∃ (t : Addr) (H2 : Hp),u = .ref t /\ Inv X pins σ H2 s2 /\ H2 t = some (.tup [.bl (kb i).1,.int (kb i).2]) /\ Same H1 H2 /\ Un (frs X.stack) [] H1 H2 s1.heap s2.heap) (fun _ _ => False) s1 := by
    intro i x v H1 s1 hx rx sm I1; have hlam : zd9 f c q params body scope s1.heap := (I1.hok f _ (sm _ _ hf)).1; have hcod : zbR c q s1.heap := (I1.hok c _ (sm _ _ hc)).1; refine wpAny_call (codeAny_mono (znr (k := k) (us := [v]) (vs := [x]) (E := E0) S (hr.in1) I1.env0.in1 hlam hcod (fun pm ctv => hb c v pm ctv) rfl (.cons rx .nil) (ht f c _ _ _ _ _) (turn i x H1 hx sm)) fun r s2 hq => ?_)
    cases r with
    | error e => exact hq
    | ok fl =>
      cases fl with
      | ret u =>
        have hq' : CE X.stack X.prog X.w H1 s1 (fun r H2 => ∃ t,r = .ref t /\ H2 t = some (.tup [.bl (kb i).1,.int (kb i).2]) /\ Same H1 H2) u s2 := hq; obtain ⟨v',H',os,bare,un,hok,rr,t,e1,e2,e3⟩ := hq'; subst e1; exact ⟨t,H',rr,I1.call' os un hok bare (fun b z => absurd z (by simp)),e2,e3,un⟩
      | next => exact False.elim hq
      | brk => exact False.elim hq
      | cont => exact False.elim hq
  have pair_of : ∀ {H1 : Hp} {s1 : Shared} {t : Addr} {b : Bool} {z : Int},Inv X pins σ H1 s1 -> H1 t = some (.tup [.bl b,.int z]) -> ∃ tk,IsTup s1.heap t #[.bool b,.int z tk] := by
    intro H1 s1 t b z I1 e; obtain ⟨its,rt,tt,_⟩ := I1.tuple (SqT.of (K := X.K) e)
    cases rt with
    | cons ra rr =>
      cases rr with
      | cons rb r0 =>
        cases r0; obtain ⟨tk,rfl⟩ := (show ∃ t,_ = Value.int z t from rb)
        cases (show _ = Value.bool b from ra)
        exact ⟨tk,tt⟩
  have unit1 : X.A.in1.units < cLine := by have := hr.un; show X.A.units + 1 < cLine; omega
  have loop : ∀ (r j i : Nat) (Ia Sa t : Addr) (H1 : Hp) (s1 : Shared) (vb : Value) (cn : Nat),xs.length - (j + 1) = r -> j + 1 <= xs.length -> i <= j -> Inv X pins σ H1 s1 -> Same H H1 -> s1.heap.IsListIter Ia p (j + 1) -> Ia ≠ Sa -> p ≠ Ia →
      FpOk X pins H1 Ia -> FpOk X pins H1 Sa -> s1.heap.get? Sa = some (seqObj "list" #[vb,.ref t] cn) -> (∃ x,xs[i]? = some x /\ RelV x vb) -> H1 t = some (.tup [.bl (kb i).1,.int (kb i).2]) -> (∀ j',j' <= j -> HT.lexLt (kz (kb j')) (kz (kb i)) = false) →
      codeAny (model X.prog X.w) X.A (.builtin "min.loop" ⟨[.ref Ia,.ref f,.ref Sa],[(Str.ofString "default",.none)]⟩) (fun r s' => match r with | .ok (.ret v) => EP X pins σ Q v s' | .ok _ => False | .error e => X.xe e s') s1 := by
    intro r
    induction r with
    | zero =>
      intro j i Ia Sa t H1 s1 vb cn hr0 hj hij I1 sm hit hIS hpI fI fS hSa hvb htt hbest; obtain ⟨its,rv',pl,hz⟩ := I1.list (sm.seq hS); have hlen := rv'.length; have W := Walks.list (prog := X.prog) (w := X.w) (A := X.A.in1) hh Ia p hpI its.toArray; refine codeAny_builtin PySem.F.entry_min_loop ?_; rw [Around.under_plainId PySem.F.plain_min_loop _]; show wpAny _ X.A.in1 (seqItems? (.ref Sa) >>= _) _ _ _; refine wpAny_bind (wpAny_seqItems hSa rfl ?_); show wpAny _ X.A.in1 (tryCatch (pyNext (.ref Ia)) _ >>= _) _ _ _; refine wpAny_bind (wpAny_tryCatch (W.done _ _ _ ⟨by rw [List.size_toArray,<- hlen,show xs.length = j + 1 by omega]; exact hit,pl.isList⟩ fun h' tk' hk' => ?_))
      have I2 : Inv X pins σ H1 { s1 with heap := h',toks := tk' } := I1.turned (it := Ia) (fun b o hb e => hk' b o (by simpa using hb) e) fI.1 fI.2.1 fI.2.2.2.1 fI.2.2.2.2.1 fI.2.2.2.2.2
      have hS2 : h'.get? Sa = some (seqObj "list" #[vb,.ref t] cn) := hk' Sa _ (by simpa using hIS.symm) hSa
      have s3 := Heap.SameBut.update h' Sa (Obj.mapSeq fun _ => (#[] : Array Value)); show wpAny _ X.A.in1 (updateSeq Sa (fun _ => #[]) >>= _) _ _ _; refine wpAny_bind ?_; refine wpAny_updateSeq hS2 rfl (wpAny_bind (wpAny_letGo (wpAny_pure ?_))); have I3 : Inv X pins σ H1 { s1 with heap := h'.update Sa (Obj.mapSeq fun _ => (#[] : Array Value)),toks := tk' } := Inv.turned (s := { s1 with heap := h',toks := tk' }) (it := Sa) I2 (fun b o hb e => (s3.2 b hb).trans e) fS.1 fS.2.1 fS.2.2.2.1 fS.2.2.2.2.1 fS.2.2.2.2.2
      obtain ⟨x,hx,rx⟩ := hvb; exact ⟨x,H1,I3,rx,q1 i x H1 hx (fun j' hj' => hbest j' (by omega)) sm⟩
    | succ r ih =>
      intro j i Ia Sa t H1 s1 vb cn hr0 hj hij I1 sm hit hIS hpI fI fS hSa hvb htt hbest; obtain ⟨its,rv',pl,hz⟩ := I1.list (sm.seq hS); have hlen := rv'.length; have W := Walks.list (prog := X.prog) (w := X.w) (A := X.A.in1) hh Ia p hpI its.toArray; refine codeAny_builtin PySem.F.entry_min_loop ?_; rw [Around.under_plainId PySem.F.plain_min_loop _]; show wpAny _ X.A.in1 (seqItems? (.ref Sa) >>= _) _ _ _; refine wpAny_bind (wpAny_seqItems hSa rfl ?_); show wpAny _ X.A.in1 (tryCatch (pyNext (.ref Ia)) _ >>= _) _ _ _; refine wpAny_bind (wpAny_tryCatch (W.item (j + 1) _ _ _ (by rw [List.size_toArray]; omega) ⟨hit,pl.isList⟩ fun v h' tk' hP hst' hk' => ?_))
      have hv : its[j + 1]? = some v := by simpa using hP
      have hxj : ∃ x,xs[j + 1]? = some x := ⟨_,List.getElem?_eq_getElem (by omega)⟩
      obtain ⟨x,hx⟩ := hxj; obtain ⟨v',hv',rxv⟩ := rv'.get hx; rw [hv] at hv'; cases hv'; have I2 : Inv X pins σ H1 { s1 with heap := h',toks := tk' } := I1.turned (it := Ia) (fun b o hb e => hk' b o (by simpa using hb) e) fI.1 fI.2.1 fI.2.2.2.1 fI.2.2.2.2.1 fI.2.2.2.2.2
      have hS2 : h'.get? Sa = some (seqObj "list" #[vb,.ref t] cn) := hk' Sa _ (by simpa using hIS.symm) hSa
      obtain ⟨oI,hoI,hoc,hod⟩ := id hst'.1; show wpAny _ X.A.in1 (tryCatch (holding [v] (call (.ref f) [v])) _ >>= _) _ _ _; refine wpAny_bind (wpAny_tryCatch (wpAny_holding (wpAny_mono (one (j + 1) x v H1 _ hx rxv sm I2) (fun u s2 he => ?_) fun _ _ hF => hF.elim))); obtain ⟨t2,H2,rfl,I3,ht2,sm2,un⟩ := he; obtain ⟨fI2,hI2⟩ := fI.call hoI un I1.stkSub; obtain ⟨fS2,hS3⟩ := fS.call hS2 un I1.stkSub; have hit2 : s2.heap.IsListIter Ia p (j + 1 + 1) := ⟨oI,hI2,hoc,hod⟩; have sm12 := sm.trans sm2; obtain ⟨k1,tup1⟩ := pair_of I3 ht2; obtain ⟨k2,tup2⟩ := pair_of I3 (sm2 _ _ htt); show wpAny _ X.A.in1 (tryCatch (holding [v,.ref t2] (richCompare .Lt (.ref t2) (.ref t) >>= _)) _ >>= _) _ _ _; refine wpAny_bind (wpAny_tryCatch (wpAny_holding (wpAny_bind (HT.lt_tupTwo tup1 tup2 (HT.Two.bool _ _ (HT.Two.int _ _ _ _ HT.Two.nil)) unit1 ?_)))); refine wpAny_bind (wpAny_holding (wpAny_truthy_bool ?_)); refine wpAny_bind (wpAny_letGo (wpAny_pure ?_)); have ekz : HT.lexLt [HT.b2z (kb (j + 1)).1,(kb (j + 1)).2] [HT.b2z (kb i).1,(kb i).2] = HT.lexLt (kz (kb (j + 1))) (kz (kb i)) := rfl; rw [ekz]
      cases hb' : HT.lexLt (kz (kb (j + 1))) (kz (kb i)) with
      | true =>
        have s3 := Heap.SameBut.update s2.heap Sa (Obj.mapSeq fun _ => #[v,.ref t2]); obtain ⟨c2,hc2⟩ : ∃ c2,(s2.heap.update Sa (Obj.mapSeq fun _ => #[v,.ref t2])).get? Sa = some (seqObj "list" #[v,.ref t2] c2) := ⟨_,get?_update_seq hS3 fun _ => #[v,.ref t2]⟩; simp only [if_true]; refine wpAny_bind ?_; refine wpAny_updateSeq hS3 rfl (wpAny_bind (wpAny_letGo ?_)); rw [hname]; have I4 : Inv X pins σ H2 { s2 with heap := s2.heap.update Sa (Obj.mapSeq fun _ => #[v,.ref t2]),toks := s2.toks } := I3.turned (it := Sa) (t' := s2.toks) (fun b o hb e => (s3.2 b hb).trans e) fS2.1 fS2.2.1 fS2.2.2.2.1 fS2.2.2.2.2.1 fS2.2.2.2.2.2
        refine wpAny_pure ⟨plainId_quiet PySem.F.plain_min_loop _,ih (j + 1) (j + 1) Ia Sa t2 H2 _ v c2 (by omega) (by omega) (Nat.le_refl _) I4 sm12 ⟨oI,(s3.2 Ia hIS).trans hI2,hoc,hod⟩ hIS hpI fI2 fS2 hc2 ⟨x,hx,rxv⟩ ht2 fun j' hj' => ?_⟩
        by_cases e : j' = j + 1
        . subst e; exact zj2 _
        . exact zkL hb' (hbest j' (by omega))
      | false =>
        simp only [Bool.false_eq_true,if_false]; refine wpAny_bind (wpAny_letGo ?_); rw [hname]; refine wpAny_pure ⟨plainId_quiet PySem.F.plain_min_loop _,ih (j + 1) i Ia Sa t H2 _ vb cn (by omega) (by omega) (by omega) I3 sm12 hit2 hIS hpI fI2 fS2 hS3 hvb (sm2 _ _ htt) fun j' hj' => ?_⟩
        by_cases e : j' = j + 1
        . subst e; exact hb'
        . exact hbest j' (by omega)
  obtain ⟨its,rv',pl,hz⟩ := I.list hS; have hlen := rv'.length; refine PyProof.Rows.kmk_tree PySem.F.kind_min PySem.F.plain_min PySem.F.entry_min (zkW _ _ _) ?_; show wpAny _ X.A.in1 (Builtin.Builtins.bindParams "min" ["key","default"] 0 ⟨[],[(Str.ofString "key",.ref f),(Str.ofString "default",.none)]⟩ >>= _) _ _ s; refine wpAny_bind (wpAny_of_eq (show Builtin.Builtins.bindParams "min" ["key","default"] 0 ⟨[],[(Str.ofString "key",.ref f),(Str.ofString "default",.none)]⟩ = pure [some (.ref f),some .none] from rfl) ?_); refine wpAny_bind (wpAny_pure ?_); refine wpAny_bind (wpAny_pyIter_list pl.isList ?_); refine wpAny_bind (wpAny_newList ?_ (Nat.zero_le _)); rw [hname]; refine wpAny_pure ⟨plainId_quiet PySem.F.plain_min_loop _,?_⟩; have hS1 : (s.heap.push { cls := .type "list_iterator",data := .fields #[.ref p,.int 0 0] }).objs.size = s.heap.objs.size + 1 := size_push' ..; have kp : ∀ b o,s.heap.get? b = some o -> ((s.heap.push { cls := .type "list_iterator",data := .fields #[.ref p,.int 0 0] }).push (seqObj "list" #[] 0)).get? b = some o := fun b o e => Heap.get?_push_of_some _ (Heap.get?_push_of_some _ e); have gI : ((s.heap.push { cls := .type "list_iterator",data := .fields #[.ref p,.int 0 0] }).push (seqObj "list" #[] 0)).get? s.heap.objs.size = some { cls := .type "list_iterator",data := .fields #[.ref p,.int 0 0] } := Heap.get?_push_of_some _ (Heap.get?_push_size _ rfl); have gS : ((s.heap.push { cls := .type "list_iterator",data := .fields #[.ref p,.int 0 0] }).push (seqObj "list" #[] 0)).get? (s.heap.push { cls := .type "list_iterator",data := .fields #[.ref p,.int 0 0] }).objs.size = some (seqObj "list" #[] 0) := Heap.get?_push_size _ rfl; rw [hS1] at gS ⊢; have hpl : p < s.heap.objs.size := let ⟨o,ho,_⟩ := pl.isList; Heap.lt_size ho; have fI : FpOk X pins H s.heap.objs.size := I.fpOk (Nat.le_refl _) (I.hok.fresh (Nat.le_refl _)); have fS : FpOk X pins H (s.heap.objs.size + 1) := I.fpOk (Nat.le_succ _) (I.hok.fresh (Nat.le_succ _)); have hIS : s.heap.objs.size ≠ s.heap.objs.size + 1 := Nat.ne_of_lt (Nat.lt_succ_self _); have hpI : p ≠ s.heap.objs.size := Nat.ne_of_lt hpl; have I0 : Inv X pins σ H { s with heap := (s.heap.push { cls := .type "list_iterator",data := .fields #[.ref p,.int 0 0] }).push (seqObj "list" #[] 0),toks := s.toks } := I.kept (t' := s.toks) kp
  generalize (s.heap.push { cls := .type "list_iterator",data := .fields #[.ref p,.int 0 0] }).push (seqObj "list" #[] 0) = hp0 at kp gI gS I0 ⊢; generalize s.heap.objs.size = Ia at gI gS fI fS hIS hpI ⊢; obtain ⟨its0,rv0,pl0,_⟩ := I0.list hS; have hlen0 := rv0.length; have W := Walks.list (prog := X.prog) (w := X.w) (A := X.A.in1) hh Ia p hpI its0.toArray; refine codeAny_builtin PySem.F.entry_min_loop ?_; rw [Around.under_plainId PySem.F.plain_min_loop _]; show wpAny _ X.A.in1 (seqItems? (.ref _) >>= _) _ _ _; refine wpAny_bind (wpAny_seqItems gS rfl ?_); show wpAny _ X.A.in1 (tryCatch (pyNext (.ref Ia)) _ >>= _) _ _ _
  by_cases hne : xs.length = 0
  . refine wpAny_bind (wpAny_tryCatch (W.done _ _ _ ⟨by rw [List.size_toArray,<- hlen0,hne]; exact ⟨_,gI,rfl,rfl⟩,pl0.isList⟩ fun h' tk' hk' => ?_))
    have I2 : Inv X pins σ H { s with heap := h',toks := tk' } := Inv.turned (s := { s with heap := hp0,toks := s.toks }) (it := Ia) I0 (fun b o hb e => hk' b o (by simpa using hb) e) fI.1 fI.2.1 fI.2.2.2.1 fI.2.2.2.2.1 fI.2.2.2.2.2
    show wpAny _ X.A.in1 (rule _ >>= _) _ _ _; refine wpAny_bind (wpAny_rule (wpAny_pure ?_)); exact ⟨.non,H,I2,rfl,q0 (List.length_eq_zero_iff.mp hne)⟩
  . refine wpAny_bind (wpAny_tryCatch (W.item 0 _ _ _ (by rw [List.size_toArray]; omega) ⟨⟨_,gI,rfl,rfl⟩,pl0.isList⟩ fun v h' tk' hP hst' hk' => ?_))
    have hv : its0[0]? = some v := by simpa using hP
    obtain ⟨x,hx⟩ : ∃ x,xs[0]? = some x := ⟨_,List.getElem?_eq_getElem (by omega)⟩
    obtain ⟨v',hv',rxv⟩ := rv0.get hx; rw [hv] at hv'; cases hv'; have I2 : Inv X pins σ H { s with heap := h',toks := tk' } := Inv.turned (s := { s with heap := hp0,toks := s.toks }) (it := Ia) I0 (fun b o hb e => hk' b o (by simpa using hb) e) fI.1 fI.2.1 fI.2.2.2.1 fI.2.2.2.2.1 fI.2.2.2.2.2
    have hS2 : h'.get? (Ia + 1) = some (seqObj "list" #[] 0) := hk' _ _ (by simpa using hIS.symm) gS
    obtain ⟨oI,hoI,hoc,hod⟩ := id hst'.1; show wpAny _ X.A.in1 (tryCatch (holding [v] (call (.ref f) [v])) _ >>= _) _ _ _; refine wpAny_bind (wpAny_tryCatch (wpAny_holding (wpAny_mono (one 0 x v H _ hx rxv (Same.refl _) I2) (fun u s2 he => ?_) fun _ _ hF => hF.elim))); obtain ⟨t2,H2,rfl,I3,ht2,sm2,un⟩ := he; obtain ⟨fI2,hI2⟩ := fI.call hoI un I.stkSub; obtain ⟨fS2,hS3⟩ := fS.call hS2 un I.stkSub; have s3 := Heap.SameBut.update s2.heap (Ia + 1) (Obj.mapSeq fun _ => #[v,.ref t2]); obtain ⟨c2,hc2⟩ : ∃ c2,(s2.heap.update (Ia + 1) (Obj.mapSeq fun _ => #[v,.ref t2])).get? (Ia + 1) = some (seqObj "list" #[v,.ref t2] c2) := ⟨_,get?_update_seq hS3 fun _ => #[v,.ref t2]⟩; show wpAny _ X.A.in1 (updateSeq (Ia + 1) (fun _ => #[v,.ref t2]) >>= _) _ _ _; refine wpAny_bind ?_; refine wpAny_updateSeq hS3 rfl ?_; rw [hname]; have I4 : Inv X pins σ H2 { s2 with heap := s2.heap.update (Ia + 1) (Obj.mapSeq fun _ => #[v,.ref t2]),toks := s2.toks } := I3.turned (it := Ia + 1) (t' := s2.toks) (fun b o hb e => (s3.2 b hb).trans e) fS2.1 fS2.2.1 fS2.2.2.2.1 fS2.2.2.2.2.1 fS2.2.2.2.2.2
    refine wpAny_pure ⟨plainId_quiet PySem.F.plain_min_loop _,loop _ 0 0 Ia (Ia + 1) t2 H2 _ v c2 rfl (by omega) (Nat.le_refl _) I4 sm2 ⟨oI,(s3.2 Ia hIS).trans hI2,hoc,hod⟩ hIS hpI fI2 fS2 hc2 ⟨x,hx,rxv⟩ ht2 fun j' hj' => ?_⟩
    have e : j' = 0 := by omega
    subst e; exact zj2 _
end
end L2
namespace HT
open PySem PySem.SeqAt PySem.MeetsSeq PySem.MeetsSeq2 PySem.MeetsSeq3 PySem.SeqRoads2
open PySem.AutoSeq1 (wpAny_loadPart')
theorem zlc (l : Addr) (items : Array Value) (n : Nat) (x : Value) (e : Value -> Bool) (j : Nat) (hj : j < items.size) (hit : e items[j] = true) (k : Nat) (hs1 : items.size <= sizeLine) :
    ∀ i : Nat,j - i = k -> i <= j -> (∀ m (hm : m < items.size),i <= m -> m < j -> e items[m] = false) -> Meets (Builtin.«list.remove.loop» ⟨[.ref l,x,rawInt i],[]⟩)
      (fun A R s => s.heap.get? l = some { cls := .type "list",dict := none,data := .seq items n,slots := #[] } /\ (∀ y,y ∈ items -> EqAt A.in1 s y x (e y)) /\ R (.ok (.ret .none)) { s with heap := s.heap.update l (Obj.mapSeq fun xs => xs.eraseIdxIfInBounds j) }) := by
  induction k with
  | zero =>
    intro i hk hij hno prog w A R s h; obtain ⟨hp,g,d,tk,os⟩ := s; obtain ⟨hl,he,h⟩ := h; have hij' : i = j := by omega
    subst hij'
    wp_walk using wpAny_loadPart' hl
    have hi : items[((i : Nat) : Int).toNat]? = some items[i] := by simp [hj]
    rw [hi]; refine wpAny_bind (he _ (Array.getElem_mem hj) prog w _ _ ?_); rw [hit]; have hz' : (items.eraseIdxIfInBounds i).size <= sizeLine + 1 := Nat.le_trans (size_erased items _) (Nat.le_succ_of_le hs1)
    wp_walk using (wpAny_updateSeq hl rfl (hz := hs1) (_hz' := hz')),wpAny_loadPart' hl
    simpa using h
  | succ k ih =>
    intro i hk hij hno prog w A R s h; obtain ⟨hp,g,d,tk,os⟩ := s; obtain ⟨hl,he,h⟩ := h; have hlt : i < items.size := by omega
    wp_walk using wpAny_loadPart' hl
    have hi : items[((i : Nat) : Int).toNat]? = some items[i] := by simp [hlt]
    have hc : ((i : Int) + 1) = ((i + 1 : Nat) : Int) := by push_cast; rfl
    rw [hi]; refine wpAny_bind (he _ (Array.getElem_mem hlt) prog w _ _ ?_); rw [hno i hlt (Nat.le_refl _) (by omega)]
    wp_walk
    rw [hc]
    exact ⟨plainId_quiet plain_remove_loop _,codeAny_builtin entry_remove_loop (by
      rw [Around.under_plainId plain_remove_loop _]
      exact ih (i + 1) (by omega) (by omega) (fun m hm h1 h2 => hno m hm (by omega) h2) prog w A R _ ⟨hl,he,h⟩)⟩
theorem remove_data (l : Addr) (items : Array Value) (n : Nat) (x : Value) (e : Value -> Bool) (j : Nat) (hj : j < items.size) (hit : e items[j] = true) (hno : ∀ m (hm : m < items.size),m < j -> e items[m] = false) (hs1 : items.size <= sizeLine) :
    Meets (Builtin.«list.remove» ⟨[.ref l,x],[]⟩)
      (fun A R s => s.heap.get? l = some { cls := .type "list",dict := none,data := .seq items n,slots := #[] } /\ (∀ y,y ∈ items -> EqAt A.in1 s y x (e y)) /\ R (.ok (.ret .none)) { s with heap := s.heap.update l (Obj.mapSeq fun xs => xs.eraseIdxIfInBounds j) }) := by
  intro prog w A R s h; obtain ⟨hp,g,d,tk,os⟩ := s; obtain ⟨hl,he,h⟩ := h
  wp_walk using wpAny_loadPart' hl
  exact ⟨plainId_quiet plain_remove_loop _,codeAny_builtin entry_remove_loop (by
    rw [Around.under_plainId plain_remove_loop _]
    exact zlc l items n x e j hj hit _ hs1 0 rfl (Nat.zero_le _) (fun m hm _ h2 => hno m hm h2) prog w A R _ ⟨hl,he,h⟩)⟩
end HT
namespace L2
open PySem PySem.Spec PyProof.Rows
section
variable {X : Cx}
def zqd (K : Fg) : V -> List V -> Hp -> VK -> Prop := fun x vs H Q => ∃ (l : Addr) (xs : List V) (y : V) (ds : List PyData) (d : PyData) (j : Nat) (e : PyData),x = .ref l /\ vs = [y] /\ H l = some (.lst xs) /\ IsAll K H ds xs /\ Is K H d y /\ Cmp (.list ds) /\ Cmp d ∧
  ds[j]? = some e /\ same e d = true /\ (∀ i,i < j -> ∀ e',ds[i]? = some e' -> same e' d = false) /\ Q .non (upd H l (.lst (xs.eraseIdx j)))
theorem zk3 (hu : X.A.units + 100 < cLine) : MtM X "list.remove" (zqd X.K) := by
  intro pins s σ H x vs v us Q I rx rv h; obtain ⟨l,xs,y,ds,d,j,e,rfl,rfl,hH,hA,hd,c1,c2,hj,hs,hno,q⟩ := h; cases rx; obtain ⟨u,rfl,ru⟩ := rv.one; obtain ⟨z,its,n,r,hl,eH⟩ := I.lstM hH; obtain ⟨as,ra⟩ := IsAll.reads I ds xs its hA r; obtain ⟨bs,rb⟩ := Is.reads I d y u hd ru; have hn := c1.2; simp only [zbr] at hn; have hcl : PyData.canLayAll0 ds = true := SeqAt.canLay_of_shaped c1.1; have hcd : d.canLay0 = true := SeqAt.canLay_of_shaped c2.1; have hm := SeqAt.readsAll_map ds its as hcl ra
  have at_ : ∀ (i : Nat) (hi : i < its.toArray.size) (e' : PyData),ds[i]? = some e' -> PyData.eqv (SeqAt.readOf s.heap its.toArray[i]) d = same e' d := by
    intro i hi e' he'
    have h1 : SeqAt.readOf s.heap its.toArray[i] = e' := by
      rw [<- hm,List.getElem?_map] at he'; have : its[i]? = some its.toArray[i] := by simp
      rw [this] at he'; exact Option.some.inj he'
    rw [h1,<- SeqAt.same_eq_eqv e' d (zek e' d (zhc hn e' (List.mem_of_getElem? he')) c2.2)]
  have hlen : its.length = ds.length := by rw [<- hm,List.length_map]
  have hjl : j < ds.length := by
    rcases Nat.lt_or_ge j ds.length with h | h
    . exact h
    . rw [List.getElem?_eq_none h] at hj; cases hj
  have hsz : its.toArray.size <= sizeLine := by rw [List.size_toArray]; omega
  refine call_meets F.slot_list_remove ⟨_,eH,rfl⟩ F.entry_list_remove (F.args_list_remove_2 _ _)
    (HT.remove_data l its.toArray n u (fun y => PyData.eqv (SeqAt.readOf s.heap y) d) j (by rw [List.size_toArray]; omega) (by rw [at_ j (by rw [List.size_toArray]; omega) e hj]; exact hs)
      (fun m hm' hlt => by
        have : m < ds.length := by rw [List.size_toArray] at hm'; omega
        rw [at_ m hm' ds[m] (List.getElem?_eq_getElem this)]
        exact hno m hlt _ (List.getElem?_eq_getElem this)) hsz) ⟨eH,?_,?_⟩
  . exact SeqAt.items_eqAt (vs := its.toArray) (by simpa using ra) rb hcl hcd (room_in_shaped (A := X.A) c2.1 (by omega))
  . refine ⟨.non,_,I.lset (its' := its.eraseIdx j) hH eH ?_ (r.eraseIdx j) ?_,rfl,q⟩
    . show its.toArray.eraseIdxIfInBounds j = (its.eraseIdx j).toArray; rw [List.eraseIdxIfInBounds_toArray]
    . have := zhg xs j; omega
end
end L2
namespace HT
open PySem PySem.SeqAt PySem.MeetsSeq PySem.MeetsSeq2 PySem.MeetsSeq3 PySem.SeqRoads2
open PySem.AutoSeq1 (wpAny_loadPart')
section
variable {prog : Program} {w : World} {A : Around} {E : Value -> Shared -> Prop} {s : Shared}
theorem zjs {j t : Addr} {i : Nat} {ys : Array Value} {x : Value} {Q : Value -> Shared -> Prop} (ji : s.heap.IsTupleIter j t i) (ht : s.heap.IsTuple t ys) (hx : ys[i]? = some x)
    (hQ : ∀ h',h'.IsTupleIter j t (i + 1) -> Heap.SameBut j s.heap h' -> Q x { s with heap := h' }) : wpAny (model prog w) A (Builtin.SmallTypes.nextOf (.ref j)) Q E s := by
  obtain ⟨o,o1,o2,o3⟩ := id ji; obtain ⟨p,p1,_,pn,p3⟩ := ht; unfold Builtin.SmallTypes.nextOf; refine wpAny_bind (wpAny_callSpecial?_slot (name := Str.ofString "__next__") ji.typeIs F.slot_tuple_iterator_next (wpAny_call_entry F.slot_tuple_iterator_next ji.typeIs F.entry_tuple_iterator_next ?_ (F.args_tuple_iterator_next_1 _))); show wpAny _ _ (field (.ref j) 0 >>= _) _ _ s; refine wpAny_bind (wpAny_field o1 o3 (x := .ref t) rfl ?_); show wpAny _ _ (if (Value.ref t == Value.none) = true then _ else _) _ _ s; rw [if_neg (show ¬ ((Value.ref t == Value.none) = true) from fnt)]; show wpAny _ _ (field (.ref j) 1 >>= _) _ _ s; refine wpAny_bind (wpAny_field o1 o3 (x := .int i 0) rfl ?_); show wpAny _ _ (seqItems? (.ref t) >>= _) _ _ s; refine wpAny_bind (wpAny_seqItems p1 p3 ?_); simp only [Int.toNat_natCast,hx]; refine wpAny_bind (wpAny_setField o1 o3 (by simp) (wpAny_pure ⟨x,rfl,wpAny_pure (hQ _ ?_ (Heap.SameBut.update ..))⟩))
  exact ⟨_,Heap.get?_update_self _ o1 (Obj.isFreed_of_fields (Obj.data_mapFields o3 _)),(Obj.cls_mapFields ..).trans o2,by rw [Obj.data_mapFields o3]; simp [rawInt]⟩
theorem zdu {j t : Addr} {i : Nat} {ys : Array Value} {Q : Value -> Shared -> Prop} (hh : A.handled = none) (ji : s.heap.IsTupleIter j t i) (ht : s.heap.IsTuple t ys) (hx : ys[i]? = none)
    (hE : ∀ h' e,Heap.ExtBut j s.heap h' -> (∃ o,h'.get? e = some o /\ o.cls = .type "StopIteration") -> E (.ref e) { s with heap := h' }) : wpAny (model prog w) A (Builtin.SmallTypes.nextOf (.ref j)) Q E s := by
  obtain ⟨o,o1,o2,o3⟩ := id ji; obtain ⟨p,p1,_,pn,p3⟩ := ht; unfold Builtin.SmallTypes.nextOf; refine wpAny_bind (wpAny_callSpecial?_slot (name := Str.ofString "__next__") ji.typeIs F.slot_tuple_iterator_next (wpAny_call_entry F.slot_tuple_iterator_next ji.typeIs F.entry_tuple_iterator_next ?_ (F.args_tuple_iterator_next_1 _))); show wpAny _ _ (field (.ref j) 0 >>= _) _ _ s; refine wpAny_bind (wpAny_field o1 o3 (x := .ref t) rfl ?_); show wpAny _ _ (if (Value.ref t == Value.none) = true then _ else _) _ _ s; rw [if_neg (show ¬ ((Value.ref t == Value.none) = true) from fnt)]; show wpAny _ _ (field (.ref j) 1 >>= _) _ _ s; refine wpAny_bind (wpAny_field o1 o3 (x := .int i 0) rfl ?_); show wpAny _ _ (seqItems? (.ref t) >>= _) _ _ s; refine wpAny_bind (wpAny_seqItems p1 p3 ?_); simp only [Int.toNat_natCast,hx]; refine wpAny_bind (wpAny_rule (wpAny_bind (wpAny_setField o1 o3 (by simp) ?_)))
  show wpAny _ _ (newExc (.type "StopIteration") [] >>= _) _ _ _; refine wpAny_bind ?_; simp only [newExc,newTuple]; refine wpAny_bind (wpAny_newObj_type ?_ (by size_fits)); refine wpAny_bind (m := firstArgMember _ _) (wpAny_of_eq (a := Value.none) (by first | rfl | (simp only [firstArgMember]; rfl)) ?_)
  refine wpAny_newObj_type ?_ (by size_fits); simp only [raiseNew]
  refine wpAny_bind (wpAny_handled ?_); first | rw [show A.in1.handled = none from hh] | rw [hh]
  refine wpAny_bind (wpAny_pure (wpAny_throw ?_)); exact hE _ _ (((Heap.SameBut.update ..).extBut.push _).push _) ⟨_,Heap.get?_push_size _ rfl,rfl⟩
end
theorem draws_tup {prog : Program} {w : World} {A : Around} (hh : A.handled = none) (j t : Addr) (hne : t ≠ j) (ys : Array Value) :
    Draws prog w A j [j,t] ys.size (fun i v => ys[i]? = some v) (fun i h => h.IsTupleIter j t i /\ h.IsTuple t ys) where
  live := fun _ _ st => let ⟨o,ho,_⟩ := st.1; ⟨o,ho⟩
  frame := fun _ _ _ st hk => ⟨st.1.at fun o e => hk j (by simp) o e,let ⟨o,e,r⟩ := st.2; ⟨o,hk t (by simp) o e,r⟩⟩
  item := fun i s Q E hi st hQ => zjs st.1 st.2 (x := ys[i]) (by simp [hi]) fun h' i' s' => hQ _ h' s.toks (by simp [hi]) ⟨i',st.2.extBut s'.extBut hne⟩ s'
  done := fun s Q E st hE => zdu hh st.1 st.2 (by simp) hE
theorem zk0 (t : Addr) (ys : Array Value) (n : Nat) (dc : Option Addr) (sl : Array (Option Value)) :
    Meets (Builtin.«enumerate.__new__» ⟨[.type "enumerate",.ref t],[]⟩) (fun _ R s => s.heap.get? t = some { cls := .type "tuple",dict := dc,data := .seq ys n,slots := sl } ∧
      R (.ok (.ret (.ref (s.heap.push { cls := .type "tuple_iterator",data := .fields #[.ref t,.int 0 0] }).objs.size)))
        { s with heap := (s.heap.push { cls := .type "tuple_iterator",data := .fields #[.ref t,.int 0 0] }).push { cls := .type "enumerate",data := .fields #[.none,.bool false,.ref s.heap.objs.size,rawInt 0,.none,.none] } }) :=
  .of_wp fun prog w A R s h => by
    obtain ⟨hp,g,d,tk,os⟩ := s; obtain ⟨hl,h⟩ := h; have hsub := sub_enumerate; have hL : Heap.IsTuple (Shared.heap ⟨hp,g,d,tk,os⟩) t ys := ⟨_,hl,rfl,n,rfl⟩
    wp_walk using wpAny_loadPart' hl
    refine wpAny_stack_any fun st => wpAny_pure ?_
    split
    . rename_i c _ _ _ _ _
      cases (c == Value.type "enumerate")
      . wp_walk using wpAny_loadPart' hl,wpAny_pyIter_tuple hL
        exact ⟨_,rfl,h⟩
      . wp_walk using wpAny_loadPart' hl,wpAny_pyIter_tuple hL
        exact ⟨_,rfl,h⟩
    . wp_walk using wpAny_loadPart' hl,wpAny_pyIter_tuple hL
      exact ⟨_,rfl,h⟩
section
variable {prog : Program} {w : World} {A : Around} {E : Value -> Shared -> Prop} {s : Shared}
theorem call_enumT {t : Addr} {ys : Array Value} {Q : Value -> Shared -> Prop} (hL : s.heap.IsTuple t ys)
    (h : ∀ h',IsEnum h' (s.heap.objs.size + 1) s.heap.objs.size 0 .none -> h'.IsTupleIter s.heap.objs.size t 0 -> (∀ b o,s.heap.get? b = some o -> h'.get? b = some o) -> Q (.ref (s.heap.objs.size + 1)) { s with heap := h' }) :
    wpAny (model prog w) A (call (.type "enumerate") [.ref t]) Q E s := by
  obtain ⟨⟨c,dct,dt,sl⟩,hl,hc,n,hd⟩ := hL
  replace hc : c = .type "tuple" := hc
  replace hd : dt = .seq ys n := hd
  subst hc hd; refine callType_new F.called_enumerate (by decide) (F.typeCall_enumerate_1 _) (F.newCall_enumerate_1 _) (fun obj => F.args_object_init_2 obj _) F.entry_enumerate_new (zk0 t ys n dct sl) ⟨hl,?_⟩
  have hz : (s.heap.push { cls := .type "tuple_iterator",data := .fields #[.ref t,.int 0 0] }).objs.size = s.heap.objs.size + 1 := Heap.size_push ..; show _ /\ _; rw [hz]
  have he : IsEnum ((s.heap.push { cls := .type "tuple_iterator",data := .fields #[.ref t,.int 0 0] }).push { cls := .type "enumerate",data := .fields #[.none,.bool false,.ref s.heap.objs.size,rawInt 0,.none,.none] }) (s.heap.objs.size + 1) s.heap.objs.size 0 .none := by
    have q := Heap.get?_push_size (s.heap.push { cls := .type "tuple_iterator",data := .fields #[.ref t,.int 0 0] }) (o := { cls := .type "enumerate",data := .fields #[.none,.bool false,.ref s.heap.objs.size,rawInt 0,.none,.none] }) rfl; rw [hz] at q; exact q
  exact ⟨⟨_,he,rfl⟩,h _ he ⟨_,Heap.get?_push_of_some _ (Heap.get?_push_size _ rfl),rfl,rfl⟩ fun b o x => Heap.get?_push_of_some _ (Heap.get?_push_of_some _ x)⟩
theorem enum_endT {e j t : Addr} {i : Nat} {k : Int} {ys : Array Value} {old : Value} {Q : Option Value -> Shared -> Prop} (hh : A.handled = none) (he : IsEnum s.heap e j k old) (ji : s.heap.IsTupleIter j t i) (ht : s.heap.IsTuple t ys) (hx : ys[i]? = none)
    (hQ : ∀ h',Heap.ExtBut j s.heap h' -> Q none { s with heap := h' }) : wpAny (model prog w) A (pyNext (.ref e)) Q E s := by
  have tE : s.TypeIs (.ref e) "enumerate" := ⟨_,he,rfl⟩; unfold pyNext; refine wpAny_bind (wpAny_attempt (wpAny_callSpecial?_slot (name := Str.ofString "__next__") tE F.slot_enumerate_next (wpAny_call_entry F.slot_enumerate_next tE F.entry_enumerate_next ?_ (F.args_enumerate_next_1 _)))); show wpAny _ _ (field (.ref e) 2 >>= _) _ _ _; refine wpAny_bind (wpAny_field he rfl (x := .ref j) rfl ?_); refine wpAny_bind (zdu (A := A.in1) hh ji ht hx fun h' x eb hx' => ?_); obtain ⟨o,o1,o2⟩ := hx'; refine wpAny_bind (wpAny_isInstance (T := "StopIteration") (b := true) ⟨o,o1,o2⟩ isSubtype_stop (wpAny_pure (hQ _ eb)))
end
end HT
namespace L2
open PySem PySem.Spec PyProof.Rows
def zlI (K : Fg) (a : Addr) : It :=
  ⟨fun i H => ∃ xs x,SqT K H a xs /\ xs[i]? = some x,fun i H x H' => ∃ t,x = .ref t /\ H t = none /\ ∀ xs y,SqT K H a xs -> xs[i]? = some y -> H' = upd H t (.tup [.int i,y]),fun i H => ∃ xs,SqT K H a xs /\ xs.length <= i⟩
theorem zjB {P : Program} {w : World} {K : Fg} {elts : List Expr} {x1 : Nat} {tpos : Pos} (a e it : Addr) (hei : e ≠ it) : zjh P w K (.Tuple elts x1 tpos) (zlI K a) [e,it] e (fun i h => (∃ old,IsEnum h e it ((i : Nat) : Int) old) /\ h.IsTupleIter it a i) where
  mem := by simp
  obj := fun i h ⟨⟨old,he⟩,st⟩ b hb => by
    rcases List.mem_cons.mp hb with rfl | hb
    . exact ⟨_,he,fun v z => by cases (show Data.fields _ = Data.cell v from z)⟩
    . rw [List.mem_singleton.mp hb]; obtain ⟨o,e,c,d⟩ := st; exact ⟨o,e,fun v z => by rw [d] at z; cases z⟩
  keep := fun i h h' ⟨⟨old,he⟩,st⟩ k => ⟨⟨old,k e (by simp) _ he⟩,st.at fun o q => k it (by simp) o q⟩
  item := by
    intro X hP hw hK hc i pins s σ H E I hf st hg; subst hP hw hK; obtain ⟨⟨old,he⟩,st⟩ := st; obtain ⟨xs,x,hq,hx⟩ := hg; obtain ⟨its,rv,p,hz⟩ := I.tuple hq; have pT : s.heap.IsTuple a its.toArray := p; obtain ⟨u,hu,ru⟩ := rv.get hx; have g1 := hf e (by simp)
    have g2 := hf it (by simp)
    have hsz : sizeLine = 16777216 := sizeLine_eq
    have hai : a ≠ it := fun z => by
      obtain ⟨o,q1,q2,_⟩ := pT; obtain ⟨o',q3,q4,_⟩ := st; rw [z,q3] at q1; cases q1; rw [q4] at q2; exact absurd q2 (by decide)
    have hae : e ∉ [it,a] := fun z => by
      rcases List.mem_cons.mp z with z | z
      . exact hei z
      . obtain ⟨o,q1,q2,_⟩ := pT; rw [<- List.mem_singleton.mp z,he] at q1; cases q1; exact absurd (show Value.type "enumerate" = Value.type "tuple" from q2) (by decide)
    have hlt : i < its.toArray.size := by
      rcases Nat.lt_or_ge i its.length with h | h
      . simpa using h
      . rw [List.getElem?_eq_none h] at hu; cases hu
    refine wpAny_pyNext_enum_itemD (HT.draws_tup (A := X.A.in1) (I.ok.hd hc) it a hai its.toArray) he ⟨st,pT⟩ hlt hei hae fun y h' tk hy heo hit' ht' hz' k' => ?_
    have hyu : y = u := by
      have : its[i]? = some y := by simpa using hy
      rw [hu] at this; exact (Option.some.inj this).symm
    subst hyu; refine ⟨_,rfl,wpAny_letOwnedTupleGo_enum heo fun h2 he2 hs2 => ?_⟩; have hlt : e < s.heap.objs.size := Heap.lt_size he; have k2 : ∀ b o,b ≠ e -> b ≠ it -> s.heap.get? b = some o -> h2.get? b = some o := fun b o b1 b2 q => hs2.extBut b o b1 (k' b o b1 b2 q); have ht2 : h2.get? s.heap.objs.size = some { cls := .type "tuple",data := .seq #[.int i tk,y] } := hs2.extBut _ _ (Nat.ne_of_gt hlt) ht'; have hfr := I.hok.fresh (Nat.le_refl s.heap.objs.size)
    have I2 : Inv X pins σ (upd H s.heap.objs.size (.tup [.int i,x])) { s with heap := h2,toks := tk + 1 } :=
      I.turned2 k2 g1 g2 (Nat.le_refl _) (show ObjOk X.prog X.w _ h2 _ (.tup [.int i,x]) from ⟨by show 2 <= sizeLine; omega,[.int i tk,y],.cons ⟨_,rfl⟩ (.cons ru .nil),⟨_,ht2,rfl,_,rfl⟩⟩)
    have hcast : ((i + 1 : Nat) : Int) = (i : Int) + 1 := by push_cast; rfl
    refine ⟨.ref s.heap.objs.size,_,I2,rfl,⟨_,rfl,hfr,fun ys y hy hyi => ?_⟩,⟨⟨y,hcast ▸ he2⟩,hit'.1.extBut hs2.extBut (Ne.symm hei)⟩,fun b hb => ?_⟩
    . rw [I.tuple_inj hy hq,hx] at hyi; rw [Option.some.inj hyi]
    . have hb' : b < s.heap.objs.size := by
        rcases List.mem_cons.mp hb with rfl | hb
        . exact hlt
        . rw [List.mem_singleton.mp hb]; obtain ⟨o,q,_⟩ := st; exact Heap.lt_size q
      rw [zaj (Nat.ne_of_lt hb')]; exact (hf b hb).1
  done := by
    intro X hP hw hK hc i pins s σ H E I hf st hg; subst hP hw hK; obtain ⟨⟨old,he⟩,st⟩ := st; obtain ⟨xs,hq,hx⟩ := hg; obtain ⟨its,rv,p,hz⟩ := I.tuple hq; have pT : s.heap.IsTuple a its.toArray := p; obtain ⟨f0,f1,f2,f3,f4,f5⟩ := hf it (by simp)
    have hl := rv.length
    have hai : a ≠ it := fun z => by
      obtain ⟨o,q1,q2,_⟩ := pT; obtain ⟨o',q3,q4,_⟩ := st; rw [z,q3] at q1; cases q1; rw [q4] at q2; exact absurd q2 (by decide)
    have nx : its.toArray[i]? = none := by simp; omega
    exact HT.enum_endT (I.ok.hd hc) he st pT nx fun h' eb => ⟨rfl,I.turned (t' := s.toks) (fun b o hb e => eb b o hb e) f0 f1 f3 f4 f5⟩
  self := fun _ _ _ _ _ ⟨⟨_,he⟩,_⟩ h => wpAny_pyIter_enum he h
def zoY (K : Fg) (ta : TA) : TI := fun σ H R => ta σ H fun vs H1 => ∃ a,vs = [.ref a] /\ (∃ xs,SqT K H1 a xs) /\ R (zlI K a) H1
section
variable {X : Cx}
theorem zl9 {a : Expr} {ta : TA} {p pos tpos : Pos} {elts : List Expr} {x1 : Nat} (hg : Gl X "enumerate") (hm : X.mg "enumerate" = none) (ha : PA X [a] ta) (hs : starEach [a] X.env = [(false,eval a X.env)] := by rfl) :
    PI X (.Tuple elts x1 tpos) (.Call (.Name "enumerate" p) [a] [] pos) (zoY X.K ta) := by
  intro pins s σ H R I h; refine Call_ (zdY I hg hm boot_enumerate (PyProof.Rows.callWith_type1 (thn (ha pos pins s σ H _ I h) fun us s1 ⟨vs,H1,I1,r1,q1⟩ => ?_) hs rfl)); obtain ⟨l,e,⟨xs,hq⟩,q⟩ := q1; subst e
  cases r1 with
  | cons r rr =>
    cases rr; cases r; obtain ⟨its,rv,pl,hz⟩ := I1.tuple hq; refine HT.call_enumT (show s1.heap.IsTuple l its.toArray from pl) fun h' he hit kp => ?_; refine wpAny_pyIter_enum (s := { s1 with heap := h' }) he ⟨s1.heap.objs.size + 1,[s1.heap.objs.size + 1,s1.heap.objs.size],_,_,H1,rfl,I1.kept (t' := s1.toks) kp,zjB l _ _ (Nat.succ_ne_self _),⟨⟨_,he⟩,hit⟩,fun b hb => ?_,q⟩
    rcases List.mem_cons.mp hb with rfl | hb
    . exact I1.fpOk (Nat.le_succ _) (I1.hok.fresh (Nat.le_succ _))
    . rw [List.mem_singleton.mp hb]; exact I1.fpOk (Nat.le_refl _) (I1.hok.fresh (Nat.le_refl _))
theorem zkK {K : Fg} {a : Addr} {xs : List V} {g : TG} {tb : TS} {D : zfn} {σ : St} {H : Hp} (Pv : Nat -> St -> Hp -> Prop) (h0 : Pv 0 σ H) (hl : ∀ i σ H,i <= xs.length -> Pv i σ H -> SqT K H a xs)
    (hs : ∀ i x t σ H,xs[i]? = some x -> Pv i σ H -> H t = none -> g (.ref t) σ (upd H t (.tup [.int i,x])) fun σ2 H2 => tb { D with nx := Pv (i + 1),ct := Pv (i + 1),bk := D.nx } σ2 H2) (hd : ∀ σ H,Pv xs.length σ H -> D.nx σ H) :
    ∃ W : Nat -> Nat -> St -> Hp -> Prop,(∃ m,W 0 m σ H) /\ ∀ i m σ H,W i m σ H →
      ((zlI K a).stop i H /\ D.nx σ H) \/ ((zlI K a).go i H /\ ∃ N : St -> Hp -> Prop,(∀ σ' H',N σ' H' -> ∃ m',m' < m /\ W (i + 1) m' σ' H') /\ ∀ x H',(zlI K a).yld i H x H' -> g x σ H' fun σ2 H2 => tb { D with nx := N,ct := N,bk := D.nx } σ2 H2) := by
  refine ⟨fun i m σ H => m = xs.length - i /\ i <= xs.length /\ Pv i σ H,⟨xs.length,by simp,Nat.zero_le _,h0⟩,?_⟩
  rintro i m σ H ⟨rfl,hi,p⟩; have hq := hl i σ H hi p
  by_cases hlt : i < xs.length
  . refine .inr ⟨⟨xs,xs[i],hq,List.getElem?_eq_getElem hlt⟩,fun σ' H' => Pv (i + 1) σ' H',fun σ' H' p' => ⟨xs.length - (i + 1),by omega,rfl,by omega,p'⟩,?_⟩
    rintro x H' ⟨t,rfl,ht,hH⟩; rw [hH xs _ hq (List.getElem?_eq_getElem hlt)]; exact hs i _ t σ H (List.getElem?_eq_getElem hlt) p ht
  . have e : i = xs.length := by omega
    subst e; exact .inl ⟨⟨xs,hq,Nat.le_refl _⟩,hd σ H p⟩
end
def Mv (H H' : Hp) : Prop := ∀ b o,H b = some o -> (∀ ps,o ≠ .tbl ps) -> H' b = some o
theorem Mv.refl (H : Hp) : Mv H H := fun _ _ h _ => h
theorem Mv.trans {H H1 H2 : Hp} (a : Mv H H1) (b : Mv H1 H2) : Mv H H2 := fun c o h n => b c o (a c o h n) n
theorem Same.mv {H H' : Hp} (a : Same H H') : Mv H H' := fun c o h _ => a c o h
theorem SameP.mv {Pt : Addr} {pos : Pos} {q : Str} {H H' : Hp} (hT : LamTab Pt pos q H) (a : SameP Pt H H') : Mv H H' := fun c o h n => a c o h fun z => by
  subst z
  rcases hT with e | ⟨_,e,_⟩ <;> rw [e] at h <;> exact n _ (Option.some.inj h).symm
theorem Mv.lst {H H' : Hp} (m : Mv H H') {a : Addr} {xs : List V} (h : H a = some (.lst xs)) : H' a = some (.lst xs) := m _ _ h fun _ z => by cases z
theorem Mv.tups {H H' : Hp} (m : Mv H H') {a : Addr} {xs : List V} (h : H a = some (.tup xs)) : H' a = some (.tup xs) := m _ _ h fun _ z => by cases z
theorem Mv.seq {K : Fg} {H H' : Hp} {a : Addr} {xs : List V} (m : Mv H H') (h : SqL K H a xs) : SqL K H' a xs := by
  rcases h with (h | ⟨o,h⟩) | h
  . exact .inl (.inl (m _ _ h fun _ z => by cases z))
  . exact .inl (.inr ⟨o,m _ _ h fun _ z => by cases z⟩)
  . exact .inr h
theorem Mv.tup {K : Fg} {H H' : Hp} {a : Addr} {xs : List V} (m : Mv H H') (h : SqT K H a xs) : SqT K H' a xs := by
  rcases h with (h | ⟨o,h⟩) | h
  . exact .inl (.inl (m _ _ h fun _ z => by cases z))
  . exact .inl (.inr ⟨o,m _ _ h fun _ z => by cases z⟩)
  . exact .inr h
theorem KeyAt.mv {K : Fg} {H H' : Hp} {k : NK} {a : Addr} (m : Mv H H') (h : KeyAt K H k a) : KeyAt K H' k a := h.moved (fun b ys e => m.tups e) fun b o u e => m _ _ e fun _ z => by cases z
theorem NDict.mv {P : Program} {w : World} {K : Fg} {H H' : Hp} {d : Addr} {ks : List NK} (m : Mv H H') (h : NDict P w K H d ks) : NDict P w K H' d ks := by
  obtain ⟨xs,h1,h2,h3,h4⟩ := h; exact ⟨xs,(m _ _ h1 fun _ z => by cases z),h2,fun x hx => (h3 x hx).mv m,h4⟩
theorem LamTab.upd {Pt : Addr} {pos : Pos} {q : Str} {H : Hp} {a : Addr} {o u : HO} (h : LamTab Pt pos q H) (ha : H a = some o) (n1 : ∀ ps,o ≠ .tbl ps) (n2 : ∀ φ,o ≠ .ext φ) : LamTab Pt pos q (upd H a u) := by
  rcases h with h | ⟨c,h1,h2⟩
  . refine .inl ?_; rw [zaj (za2 h ha fun z => n1 _ z.symm)]; exact h
  . refine .inr ⟨c,?_,?_⟩
    . rw [zaj (za2 h1 ha fun z => n1 _ z.symm)]; exact h1
    . rw [zaj (za2 h2 ha fun z => n2 _ z.symm)]; exact h2
structure FunC (K : Fg) (x qual : Str) (st : Stmt) (f : Addr) (fd : FuncData) (c : Addr) : Prop where
  ex : ∃ (oc : Value) (od : Option Addr) (kV doc pm : Value) (an : Option Addr) (ct : Value) (osl : Array (Option Value)),
    fd = PySem.W.fnOf x qual (za1 st) (zaI st) (zag st) .none kV doc pm an (.ref c) ct /\ K.lookup f = some ⟨oc,od,.func fd,osl⟩ /\ PySem.W.codeIn K (.ref c) qual = true
  kp : PySem.W.keepIn K (.ref f) = true
theorem FunC.fn {K : Fg} {x qual : Str} {st : Stmt} {f : Addr} {fd : FuncData} {c : Addr} (F : FunC K x qual st f fd c) : Fun K x qual st f fd :=
  ⟨let ⟨oc,od,kV,doc,pm,an,ct,osl,e,l,h⟩ := F.ex; ⟨oc,od,kV,doc,pm,an,.ref c,ct,osl,e,l,h⟩,F.kp⟩
section
variable {P : Program} {w : World} {K : Fg} {mg : Str -> Option Value} {base : Heap}
theorem FunC.ok {x qual : Str} {st : Stmt} {f : Addr} {fd : FuncData} {c : Addr} {N ps : List Str} {k : Nat} {sp : Sp} (F : FunC K x qual st f fd c) (S : zaw N ps (zag st)) (len : ∀ vs H Q E,sp vs H Q E -> vs.length = ps.length)
    (hbody : ∀ (A : Around) (outer : List Env) (s : Shared) (H : Hp) (vs : List V) (Q : VK) (E : XK),Room k (A.deeper (envOfC qual (zag st) s.heap.objs.size f (.ref c))) -> sp vs H Q E →
      ∃ t,PSs (zcp CX0 P w K mg base N qual (zag st) f (.ref c) A outer s H E).nox (zaI st) t /\ t { nx := fun _ H' => Q .non H',rt := Q } (start N vs) H) : FnOk P w K mg base CX0 (k + 1) f fd ps sp := by
  obtain ⟨oc,od,kV,doc,pm,an,ct,osl,rfl,lk,hcd⟩ := F.ex; refine zmw lk hcd S len fun A outer s H vs Q E hr hsp => ?_; obtain ⟨t,h,q⟩ := hbody A outer s H vs Q E hr hsp; exact ⟨t,h.nox,q⟩
theorem znx {x qual : Str} {st : Stmt} {f c : Addr} {oc : Value} {od an : Option Addr} {osl : Array (Option Value)} {kV doc pm ct : Value} (l : K.lookup f = some ⟨oc,od,.func (PySem.W.fnOf x qual (za1 st) (zaI st) (zag st) .none kV doc pm an (.ref c) ct),osl⟩)
    (h : PySem.W.codeIn K (.ref c) qual = true) (k : PySem.W.keepIn K (.ref f) = true) : FunC K x qual st f (PySem.W.fnOf x qual (za1 st) (zaI st) (zag st) .none kV doc pm an (.ref c) ct) c := ⟨⟨oc,od,kV,doc,pm,an,ct,osl,rfl,l,h⟩,k⟩
end
theorem zk1 {P : Program} {w : World} {K : Fg} {mg mb : Str -> Option Value} {CX : CXT} {k : Nat} {fa a : Addr} {fd : FuncData} {x : Str} {sp : Sp} {s₁ : Shared} {vs : List Value} {ns : List Int} {c Pt : Addr}
    (KX : K.In s₁.heap) (hns : s₁.heap.Ns mainGlobals mg) (hb : s₁.heap.Ns builtinsNs mb) (hbb : ∀ x : Str,x ≠ "__name__" -> mb x = bootBuiltins x) (hlim : s₁.heap.NoLimit) (hg : s₁.gens = #[])
    (hT : s₁.heap.TableAt c Pt #[]) (hPK : K.lookup Pt = none) (hbm : ∃ bm ob,mg "__builtins__" = some (.ref bm) /\ bm ≠ builtinsNs /\ s₁.heap.get? bm = some ob /\ ob.cls = .type "module" /\ ob.dict = some builtinsNs /\ ob.data = .plain)
    (ha : s₁.heap.get? a = some { cls := .type "list",data := .seq vs.toArray }) (hi : IntsAre vs ns) (hl : ns.length <= sizeLine) (hr : Room k callerA)
    (F : ∀ base : Heap,K.In base -> base.Ns mainGlobals mg -> BAt mg base -> FnOk P w K mg base CX k fa fd [x] sp) (hbind : ∀ (s : Shared) (u : Value),BindsTo s fd ⟨[u],[]⟩ [(x,u)])
    (hsp : ∀ H : Hp,H Pt = some (.tbl #[]) -> SqL K H a (ns.map V.int) -> sp [.ref a] H (fun v _ => v = .bl true) fun _ _ _ => False)
    (hCX : ∀ H e s',CX [] H s₁ (fun _ _ _ => False) e s' -> False) :
    codeAny (model P w) callerA (.call (.ref fa) ⟨[.ref a],[]⟩) (fun r s' => r = .ok (.ret (.bool true)) /\ OldK s₁.heap s'.heap /\ s'.os = s₁.os /\ AllBare s'.gens) s₁ := by
  have rv := zdH hi; have lenV := hi.length; have oP : s₁.heap.get? Pt = some { cls := .none,data := .fields #[] } := hT.2
  have neP : Pt ≠ a := fun z => by
    rw [z,ha] at oP; cases oP
  have core : ∀ H : Hp,H Pt = some (.tbl #[]) -> (∀ b,b ≠ Pt -> H b = none \/ ∃ o xs,H b = some (.frz o (.lst xs))) -> SqL K H a (ns.map V.int) -> HOk P w H s₁.heap -> (∀ b,H b ≠ none -> b = a \/ b = Pt) -> (H a ≠ none -> K.lookup a = none) →
      codeAny (model P w) callerA (.call (.ref fa) ⟨[.ref a],[]⟩) (fun r s' => r = .ok (.ret (.bool true)) /\ OldK s₁.heap s'.heap /\ s'.os = s₁.os /\ AllBare s'.gens) s₁ := by
    intro H hP hO hS hok hA hK; have base_of : ∀ {b : Addr} {o : Obj},s₁.heap.get? b = some o -> H b = none -> (zgt s₁.heap H).get? b = some o := fun e n => zma e n
    have noA : ∀ {b : Addr} {o : Obj},s₁.heap.get? b = some o -> (∀ xs n,o.data ≠ .seq xs n) -> (∀ xs,o.data ≠ .fields xs) -> H b = none := fun {b o} e d1 d2 => by
      cases q : H b with
      | none => rfl
      | some u =>
        rcases hA b (by rw [q]; simp) with e' | e'
        . subst e'; rw [ha] at e; cases e; exact absurd rfl (d1 _ _)
        . subst e'; rw [oP] at e; cases e; exact absurd rfl (d2 _)
    have nsK : ∀ {b : Addr} {m : Str -> Option Value},s₁.heap.Ns b m -> (zgt s₁.heap H).Ns b m := fun {b m} ⟨o,es,ep,e,d,r⟩ => ⟨o,es,ep,base_of e (noA e (fun xs n z => by rw [d] at z; cases z) fun xs z => by rw [d] at z; cases z),d,r⟩
    have hKb : K.In (zgt s₁.heap H) := fun b o e => base_of (KX b o e) (by
      cases q : H b with
      | none => rfl
      | some u =>
        rcases hA b (by rw [q]; simp) with e' | e'
        . subst e'; rw [hK (by rw [q]; simp)] at e; cases e
        . subst e'
          rw [hPK] at e; cases e)
    have hM : Mod K mg (zgt s₁.heap H) := ⟨hKb,nsK hns,⟨mb,nsK hb,hbb⟩,let ⟨mc,h1,h2⟩ := hlim; ⟨mc,nsK h1,h2⟩⟩
    have hB : BAt mg (zgt s₁.heap H) := by
      obtain ⟨bm,ob,b1,b2,b3,b4,b5,b6⟩ := hbm; refine ⟨bm,ob,b1,b2,fun z => ?_,base_of b3 (noA b3 (fun xs n z => by rw [b6] at z; cases z) fun xs z => by rw [b6] at z; cases z),b4,b5,b6⟩
      obtain ⟨o,es,ep,e,d,_⟩ := hns; rw [<- z,b3] at e; cases e; rw [b6] at d; cases d
    have e0 : Env0 P w K mg (zgt s₁.heap H) callerA [] s₁ H := ⟨rfl,hM,fun b o e => znN e,Nat.le_of_eq (zkQ _ _),trivial,fun b hb => absurd (show b ∈ ([] : List Addr) from hb) (by simp),hok,.of_eq hg⟩
    refine codeAny_mono ((F _ hKb (nsK hns) hB).run callerA [] s₁ H ⟨[.ref a],[]⟩ [.ref a] [.ref a] _ _ hr e0 (hbind s₁ (.ref a)) (.cons rfl .nil) (hsp H hP hS)) fun r s' h => ?_
    cases r with
    | error e => exact (hCX H e s' h).elim
    | ok fl =>
      cases fl with
      | next => exact False.elim h
      | brk => exact False.elim h
      | cont => exact False.elim h
      | ret u =>
        obtain ⟨v,H',os,bare,un,hok',r',q⟩ := h; have q' : v = .bl true := q; subst q'; obtain rfl : u = Value.bool true := r'; obtain ⟨more,hm⟩ := un.tbls Pt _ hP; have oP' : s'.heap.get? Pt = some { cls := .none,data := .fields (#[] ++ more) } := hok' Pt _ hm
        have kp : ∀ b o,b ≠ Pt -> s₁.heap.get? b = some o -> s'.heap.get? b = some o := fun b o hb e => by
          cases q : H b with
          | none => exact un.keep b o e q (by intro z; exact absurd (show b ∈ ([] : List Addr) from z) (by simp)) (by simp)
          | some u =>
            rcases hO b hb with z | ⟨ob,xs,z⟩
            . rw [q] at z; cases z
            . have z2 := un.frzs b ob _ z; obtain ⟨e1,_⟩ := hok b _ z; obtain ⟨e2,_⟩ := hok' b _ z2; rw [e] at e1; cases e1; exact e2
        refine ⟨rfl,⟨fun b o e => ?_,fun b o e => ?_⟩,os,bare⟩
        . by_cases hb : b = Pt
          . subst hb; rw [oP] at e; cases e; exact .inr (.inl ⟨hT.isCodeTable,rfl,#[],more,rfl,oP'⟩)
          . exact .inl (kp b o hb e)
        . by_cases hb : b = Pt
          . exact ⟨_,hb ▸ oP'⟩
          . exact ⟨o,kp b o hb e⟩
  cases hk : K.lookup a with
  | some o =>
    have e := KX a o hk; rw [ha] at e; cases e; refine core (fun b => if b = Pt then some (.tbl #[]) else none) (if_pos rfl) (fun b hb => .inl (if_neg hb)) (.inr ⟨_,vs.toArray,_,hk,rfl,rfl,rfl,by rw [List.size_toArray,lenV]; exact hl,by simpa using rv⟩) (fun b u z => ?_) (fun b z => ?_) fun z => absurd (if_neg (Ne.symm neP)) z
    . by_cases hb : b = Pt
      . have z' := (if_pos hb).symm.trans z; cases z'; subst hb; exact oP
      . have z' := (if_neg hb).symm.trans z; cases z'
    . by_cases hb : b = Pt
      . exact .inr hb
      . exact absurd (if_neg hb) z
  | none =>
    refine core (fun b => if b = Pt then some (.tbl #[]) else if b = a then some (.frz { cls := .type "list",data := .seq vs.toArray } (.lst (ns.map V.int))) else none) (if_pos rfl) (fun b hb => ?_) (.inl (.inr ⟨{ cls := .type "list",data := .seq vs.toArray },(if_neg (Ne.symm neP)).trans (if_pos rfl)⟩)) (fun b u z => ?_) (fun b z => ?_) fun _ => hk
    . by_cases hb2 : b = a
      . exact .inr ⟨_,_,(if_neg hb).trans (if_pos hb2)⟩
      . exact .inl ((if_neg hb).trans (if_neg hb2))
    . by_cases hb : b = Pt
      . have z' := (if_pos hb).symm.trans z; cases z'; subst hb; exact oP
      . by_cases hb2 : b = a
        . have z' := ((if_neg hb).trans (if_pos hb2)).symm.trans z; cases z'; subst hb2; exact ⟨ha,by rw [List.length_map]; exact hl,vs,_,rv,ha⟩
        . have z' := ((if_neg hb).trans (if_neg hb2)).symm.trans z; cases z'
    . by_cases hb : b = Pt
      . exact .inr hb
      . by_cases hb2 : b = a
        . exact .inl hb2
        . exact absurd ((if_neg hb).trans (if_neg hb2)) z
theorem walk_ofP {l : PySem.W.OpenLaw} {n k : Nat} {q : Program} {loose : List Str} {XP : (Str -> Option Value) -> Heap -> Prop} {YP : World -> Heap -> Prop} {d : DefRec} {K : Params -> Fg} {CX : World -> CXT} {sp : World -> Addr -> Sp} {x lam : Str}
    (hn : l.most = some n) (hn2 : n <= sizeLine) (hdf : d.params.defaults = []) (hr : Room k callerA)
    (hY : ∀ (w : World) (h : Heap),YP w h -> (K w.params).In h) (hrec : ∃ dl ∈ recsOf q,dl.name = lam)
    (F : ∀ (w : World) (mg : Str -> Option Value) (fa : Addr) (h : Heap),(K w.params).In h -> h.Ns mainGlobals mg -> mg d.name = some (.ref fa) →
      ∃ (fd : FuncData) (f c Pt : Addr) (o : Obj) (fl : FuncData),(∀ (s : Shared) (u : Value),BindsTo s fd ⟨[u],[]⟩ [(x,u)]) /\ mg lam = some (.ref f) /\ (K w.params).lookup f = some o /\ o.data = .func fl /\ fl.code = .ref c /\ PySem.W.codeHdIn (K w.params) c Pt = true /\ (K w.params).lookup Pt = none ∧
        ∀ base : Heap,(K w.params).In base -> base.Ns mainGlobals mg -> BAt mg base -> FnOk l.prog w (K w.params) mg base (CX w) k fa fd [x] (sp w Pt))
    (hsp : ∀ (w : World) (Pt : Addr) (H : Hp) (a : Addr) (ns : List Int),ns.length <= n -> H Pt = some (.tbl #[]) -> SqL (K w.params) H a (ns.map V.int) -> sp w Pt [.ref a] H (fun v _ => v = .bl true) fun _ _ _ => False)
    (hCX : ∀ (w : World) (H : Hp) (s : Shared) (e : Value) (s' : Shared),CX w [] H s (fun _ _ _ => False) e s' -> False) :
    PySem.W.WalkO q loose XP YP l.row.toRowW d [] (fun f vs => PySem.call f vs) := by
  refine Att.attach_call hn hdf fun w s₀ s₁ mg mb fa o pm cd doc a vs ns G Y ho hd hcd hmg hobj hints hlen hg => ?_; have KX := hY w _ Y; obtain ⟨fd,f,c,Pt,ol,fl,hb,m1,k1,d1,c1,hC,hPK,hF⟩ := F w mg fa _ KX G.T.g hmg; obtain ⟨dl,hdl,hnm⟩ := hrec; obtain ⟨a',o',fd',c',P',t1,t2,t3,t4,_,t6⟩ := G.T.tab dl hdl; rw [hnm,m1] at t1; cases t1; have e1 := KX _ _ k1; rw [t2] at e1; cases e1; rw [t3] at d1; cases d1; rw [t4] at c1; cases c1
  have eP : P' = Pt := by
    obtain ⟨⟨oc,vc,g1,_,g3,g4⟩,_⟩ := t6; have hh := PySem.W.codeHd_of_K KX hC; unfold PySem.W.codeHdIn at hC
    split at hC
    . rename_i ws _ hk
      have e2 := KX _ _ hk; rw [g1] at e2; cases e2; cases g3; rw [g4] at hC; simp only [Bool.and_eq_true,beq_iff_eq] at hC; exact hC.1.1.1.1.1
    . cases hC
  subst eP; exact zk1 KX G.T.g G.T.b G.T.builtins G.T.nolimit hg t6 hPK G.T.bmain hobj hints (Nat.le_trans hlen hn2) hr hF hb (fun H hO hS => hsp w _ H a ns hlen hO hS) fun H e s' => hCX w H s₁ e s'
theorem zcM {α : Type} {K : Fg} {a : Addr} {zs : List (V × α)} {idx : List Nat} {tt : TT} {te : TE} {σ : St} {H : Hp} {Q : VK} (p : V × α -> Bool) (f : V × α -> V) (hq : SqL K H a (zs.map (·.1))) (hl : zs.length <= sizeLine)
    (ht : ∀ z ∈ zs,∀ D ys (R : Bool -> Hp -> Prop),H D = none -> R (p z) (upd H D (.lst ys)) -> tt (some z.1 :: cap σ idx) (upd H D (.lst ys)) R)
    (he : ∀ z ∈ zs,p z = true -> ∀ D ys (R : VK),H D = none -> R (f z) (upd H D (.lst ys)) -> te (some z.1 :: cap σ idx) (upd H D (.lst ys)) R)
    (hQ : ∀ D,H D = none -> Q (.ref D) (upd H D (.lst ((zs.filter p).map f)))) : LCW idx (Itl K a) (zcL 0) tt te Q σ H := by
  intro D hD; refine ⟨fun i m ys ρ H' => m = zs.length - i /\ i <= zs.length /\ ys = ((zs.take i).filter p).map f /\ (∃ y0,ρ = y0 :: cap σ idx) /\ H' = upd H D (.lst ys),⟨zs.length,by simp,Nat.zero_le _,by simp,⟨none,rfl⟩,rfl⟩,?_⟩
  rintro i m ys ρ H' ⟨rfl,hi,hys,⟨y0,rfl⟩,rfl⟩; refine ⟨zab,?_⟩; have hqD : ∀ us,SqL K (upd H D (.lst us)) a (zs.map (·.1)) := fun us => Same.seq (Same.upd hD) hq
  by_cases hlt : i < zs.length
  . have hz : zs[i]? = some zs[i] := List.getElem?_eq_getElem hlt; have hx1 : (zs.map (·.1))[i]? = some zs[i].1 := by rw [List.getElem?_map,hz]; rfl
    refine .inr ⟨⟨_,_,hqD ys,hx1⟩,?_,fun x H' y => ?_⟩
    . rw [hys,List.length_map]; have h1 := List.length_filter_le p (zs.take i); have h2 : (zs.take i).length = i := by rw [List.length_take]; omega
      omega
    . obtain ⟨e,y⟩ := y; subst e; have hx := y _ (hqD ys); rw [hx1] at hx; cases hx; have hmem : zs[i] ∈ zs := List.getElem_mem hlt; have htk : zs.take (i + 1) = zs.take i ++ [zs[i]] := by rw [List.take_add_one,hz]; rfl
      show tt (some zs[i].1 :: cap σ idx) (upd H D (.lst ys)) _; refine ht _ hmem D ys _ hD ?_
      cases hp : p zs[i] with
      | true =>
        rw [if_pos rfl]; refine he _ hmem hp D ys _ hD ⟨zab,zs.length - (i + 1),by omega,rfl,hlt,?_,⟨_,rfl⟩,zhl⟩
        rw [htk,List.filter_append,List.map_append,hys]; simp [hp]
      | false =>
        rw [if_neg fnt]; refine ⟨zs.length - (i + 1),by omega,rfl,hlt,?_,⟨_,rfl⟩,rfl⟩
        rw [htk,List.filter_append,List.map_append,hys]; simp [hp]
  . have e : i = zs.length := by omega
    subst e; refine .inl ⟨⟨_,hqD ys,by rw [List.length_map]; exact Nat.le_refl _⟩,?_⟩
    rw [hys,List.take_length]; exact hQ D hD
def hpn (o : Obj) : Nat -> Heap
  | 0 => { }
  | n + 1 => (hpn o n).push o
theorem zie (o : Obj) : ∀ n,(hpn o n).objs.size = n
  | 0 => rfl
  | n + 1 => by
    show ((hpn o n).push o).objs.size = _; rw [Heap.size_push,zie o n]
theorem zhI {P : Program} {w : World} {c : Addr} {q : Str} {xs : List (NK × Addr × Value)} : zbR c q ≠ zdL P w c xs := fun z => by
  have e : (hpn { cls := .type "code",data := .fields #[.none,.str q 0] } (c + 1)).get? c = some { cls := .type "code",data := .fields #[.none,.str q 0] } := by
    have := Heap.get?_push_size (hpn { cls := .type "code",data := .fields #[.none,.str q 0] } c) (o := { cls := .type "code",data := .fields #[.none,.str q 0] }) rfl; rw [zie] at this; exact this
  have h1 : zbR c q (hpn { cls := .type "code",data := .fields #[.none,.str q 0] } (c + 1)) := ⟨_,_,0,e,rfl,rfl⟩; rw [z] at h1; obtain ⟨_,o,es,ep,h2,_,h3,_⟩ := h1; rw [e] at h2; cases h2; cases h3
theorem LamTab.updN {P : Program} {w : World} {K : Fg} {Pt : Addr} {pos : Pos} {q : Str} {H : Hp} {d : Addr} {ks : List NK} {u : HO} (h : LamTab Pt pos q H) (hN : NDict P w K H d ks) : LamTab Pt pos q (L2.upd H d u) := by
  obtain ⟨xs,h1,_⟩ := hN
  rcases h with h | ⟨c,h2,h3⟩
  . refine .inl ?_; rw [zaj (za2 h h1 fun z => by cases z)]
    exact h
  . refine .inr ⟨c,?_,?_⟩
    . rw [zaj (za2 h2 h1 fun z => by cases z)]
      exact h2
    . have hcd : c ≠ d := fun z => by
        subst z; rw [h3] at h1; exact zhI (HO.ext.inj (Option.some.inj h1))
      rw [zaj hcd]; exact h3
section
variable {X : Cx}
end
def zjb (K : Fg) (c : Addr) : Bool := match K.lookup c with
  | some o => (match o.data with
    | .fields vs => (match (vs[11]? : Option Value) with
      | some (.ref P) => PySem.W.codeHdIn K c P && (K.lookup P).isNone
      | _ => false)
    | _ => false)
  | none => false
theorem zl0 {K : Fg} {c : Addr} (h : zjb K c = true) : ∃ Pt,PySem.W.codeHdIn K c Pt = true /\ K.lookup Pt = none := by
  unfold zjb at h
  split at h
  . split at h
    . split at h
      . rename_i P _
        rw [Bool.and_eq_true,Option.isNone_iff_eq_none] at h; exact ⟨P,h.1,h.2⟩
      . cases h
    . cases h
  . cases h
end L2
namespace HT
open PySem L2 PyProof.Rows
section
variable {P : Program} {w : World} {A : Around} {E : Value -> Shared -> Prop} {s : Shared} {d : Addr} {ob : Obj} {ep : Nat} {k : List Int ⊕ Int} {key v : Value}
theorem zgL {Q : Option Nat -> Shared -> Prop} (hu : A.units + 80 < cLine) (hk : zeZ P w s.heap k key) (ho : s.heap.get? d = some ob) (hd : ob.data = .dict #[] ep) (q : Q none s) : wpAny (model P w) A (dictFind d key ((zbf P w).hash k)) Q E s := by
  cases k with
  | inl ks =>
    obtain ⟨a,rfl,ha⟩ := hk; exact wpAny_dictFind_heap (knd := tupleKind (intKind P w)) (xs := []) (k := ks) (by show A.units < cLine; omega) ha ho hd rfl (fun x hx => by cases hx) List.nodup_nil (fun _ => q) fun j p hj => by simp at hj
  | inr i =>
    obtain ⟨t,rfl⟩ := hk; exact wpAny_dictFind_of (knd := intKind P w) (k := i) (by simp [intKind,Value.isInt]) ho hd (fun e he => by simp at he) (by rw [show (#[] : Array DictEntry).findIdx? (fun e => (intKind P w).is i e.key) = none by simp]; exact q)
theorem zlv {Q : Option Nat -> Shared -> Prop} {key2 : Value} (hu : A.units + 80 < cLine) (hk : zeZ P w s.heap k key) (hk2 : zeZ P w s.heap k key2) (ho : s.heap.get? d = some ob) (hd : ob.data = .dict #[⟨(zbf P w).hash k,key2,v⟩] ep) (q : Q (some 0) s) : wpAny (model P w) A (dictFind d key ((zbf P w).hash k)) Q E s := by
  cases k with
  | inl ks =>
    obtain ⟨a,rfl,ha⟩ := hk; obtain ⟨b,rfl,hb⟩ := hk2; refine wpAny_dictFind_heap (knd := tupleKind (intKind P w)) (xs := [(ks,b,v)]) (k := ks) (by show A.units < cLine; omega) ha ho hd rfl (fun x hx => by rw [List.mem_singleton.mp hx]; exact hb) (by simp) (fun h => absurd rfl (h 0 (b,v))) fun j p hj => ?_
    cases j with
    | zero => exact q
    | succ j => simp at hj
  | inr i =>
    obtain ⟨t,rfl⟩ := hk; obtain ⟨t2,rfl⟩ := hk2; refine wpAny_dictFind_of (knd := intKind P w) (k := i) (by simp [intKind,Value.isInt]) ho hd (fun e he => ?_) ?_
    . have : e = ⟨(zbf P w).hash (.inr i),.int i t2,v⟩ := by simpa using he
      subst this; exact ⟨i,by simp [intKind,Value.isInt],rfl⟩
    . have : (#[(⟨(zbf P w).hash (.inr i),.int i t2,v⟩ : DictEntry)].findIdx? fun e => (intKind P w).is i e.key) = some 0 := by simp [intKind,Value.isInt]
      rw [this]; exact q
theorem zgW {Q : Unit -> Shared -> Prop} (hu : A.units + 80 < cLine) (hk : zeZ P w s.heap k key) (ho : s.heap.get? d = some ob) (hx : ob.ExactDict) (hd : ob.data = .dict #[] ep)
    (q : ∀ h' o' ep',h'.get? d = some o' -> o'.ExactDict -> o'.data = .dict #[⟨(zbf P w).hash k,key,v⟩] ep' -> Heap.SameBut d s.heap h' -> Q () { s with heap := h' }) : wpAny (model P w) A (dictSetHashed d key ((zbf P w).hash k) v) Q E s := by
  unfold dictSetHashed
  try with_reducible refine wpAny_holding ?_
  refine wpAny_bind (zgL hu hk ho hd ?_); refine wpAny_bind (wpAny_rule (wpAny_updateDictKeys (hz := by simp) ho hd ?_))
  exact q _ _ (ep + 1) (Heap.get?_update_self _ ho (Obj.isFreed_of_dict (Obj.data_mapDictKeys hd _))) (hx.mapDictKeys _) (Obj.data_mapDictKeys hd _) (Heap.SameBut.update ..)
theorem sd_dictSet {Q : Unit -> Shared -> Prop} (hu : A.units + 80 < cLine) (hk : zeZ P w s.heap k key) (ho : s.heap.get? d = some ob) (hx : ob.ExactDict) (hd : ob.data = .dict #[] ep)
    (q : ∀ h' o' ep' tk,h'.get? d = some o' -> o'.ExactDict -> o'.data = .dict #[⟨(zbf P w).hash k,key,v⟩] ep' -> Heap.SameBut d s.heap h' -> Q () { s with heap := h',toks := tk }) : wpAny (model P w) A (dictSet d key v) Q E s := by
  unfold dictSet
  try with_reducible refine wpAny_holding ?_
  refine wpAny_bind ((zbf P w).pyHash hu hk ?_); exact zgW (s := { s with toks := s.toks + (zbf P w).draws k }) hu hk ho hx hd fun h' o' ep' a b c e => q h' o' ep' _ a b c e
theorem sd_setItem {Q : Unit -> Shared -> Prop} (hu : A.units + 100 < cLine) (hk : zeZ P w s.heap k key) (ho : s.heap.get? d = some ob) (hx : ob.ExactDict) (hd : ob.data = .dict #[] ep)
    (q : ∀ h' o' ep' tk,h'.get? d = some o' -> o'.ExactDict -> o'.data = .dict #[⟨(zbf P w).hash k,key,v⟩] ep' -> Heap.SameBut d s.heap h' -> Q () { s with heap := h',toks := tk }) : wpAny (model P w) A (setItem (.ref d) key v) Q E s := by
  have hT : s.TypeIs (.ref d) "dict" := ⟨ob,ho,hx.1⟩; unfold setItem
  try with_reducible refine wpAny_holding ?_
  refine wpAny_bind (wpAny_sequenceKey hT (by decide) ?_)
  refine wpAny_bind (wpAny_callSpecial?_slot (name := Str.ofString "__setitem__") hT slot_dict_setitem
    (wpAny_call_entry slot_dict_setitem hT entry_dict_setitem ?_ (args_dict_setitem _ _ _)))
  show wpAny _ _ (Builtin.Dict.notOrdered "__setitem__" ⟨[.ref d,key,v],[]⟩ >>= _) _ _ s; refine wpAny_bind (wpAny_notOrdered_dict hT ?_); show wpAny _ _ (dictSet d key v >>= _) _ _ s; exact wpAny_bind (sd_dictSet (A := A.in1) (show A.units + 1 + 80 < cLine by omega) hk ho hx hd fun h' o' ep' tk a b c e => wpAny_pure ⟨.none,rfl,wpAny_pure (q h' o' ep' tk a b c e)⟩)
theorem sd_getItem {Q : Value -> Shared -> Prop} {key2 : Value} (hu : A.units + 100 < cLine) (hk : zeZ P w s.heap k key) (hk2 : zeZ P w s.heap k key2) (ho : s.heap.get? d = some ob) (hx : ob.ExactDict) (hd : ob.data = .dict #[⟨(zbf P w).hash k,key2,v⟩] ep)
    (q : ∀ tk,Q v { s with toks := tk }) : wpAny (model P w) A (getItem (.ref d) key) Q E s := by
  have hT : s.TypeIs (.ref d) "dict" := ⟨ob,ho,hx.1⟩; unfold getItem
  try with_reducible refine wpAny_holding ?_
  refine wpAny_bind (wpAny_sequenceKey hT (by decide) ?_)
  refine wpAny_bind (wpAny_callSpecial?_slot (name := Str.ofString "__getitem__") hT slot_dict_getitem
    (wpAny_call_entry slot_dict_getitem hT entry_dict_getitem ?_ (args_dict_getitem _ _)))
  show wpAny _ _ (dictGet d key >>= _) _ _ s; refine wpAny_bind ?_; unfold dictGet
  try with_reducible refine wpAny_holding ?_
  refine wpAny_bind ((zbf P w).pyHash (A := A.in1) (show A.units + 1 + 80 < cLine by omega) hk ?_)
  refine wpAny_bind (zlv (s := { s with toks := s.toks + (zbf P w).draws k }) (A := A.in1) (show A.units + 1 + 80 < cLine by omega) hk hk2 ho hd ?_)
  refine wpAny_bind (wpAny_dictEntries (s := { s with toks := s.toks + (zbf P w).draws k }) ho hd ?_)
  exact wpAny_pure (wpAny_pure ⟨v,rfl,wpAny_pure (q _)⟩)
theorem sd_setdefault (hu : A.units + 100 < cLine) {Q : Value -> Shared -> Prop} {dflt : Value} (hS : (d == sysModules) = false) (hk : zeZ P w s.heap k key) (ho : s.heap.get? d = some ob) (hx : ob.ExactDict) (hd : ob.data = .dict #[] ep)
    (q : ∀ h' o' ep' tk,h'.get? d = some o' -> o'.ExactDict -> o'.data = .dict #[⟨(zbf P w).hash k,key,dflt⟩] ep' -> Heap.SameBut d s.heap h' -> Q dflt { s with heap := h',toks := tk }) : wpAny (model P w) A (call (.builtin "dict.setdefault") [.ref d,key,dflt]) Q E s := by
  have hT : s.TypeIs (.ref d) "dict" := ⟨ob,ho,hx.1⟩; refine wpAny_call_entry PySem.F.slot_dict_setdefault hT PySem.F.entry_dict_setdefault ?_ (PySem.F.args_dict_setdefault_3 _ _ _); unfold Builtin.«dict.setdefault»; refine wpAny_bind ?_; unfold Builtin.Dict.keyAndDefault; refine wpAny_bind (wpAny_notOrdered_dict hT ?_); show wpAny _ _ (pure (d,key,some dflt)) _ _ s; refine wpAny_pure ?_; show wpAny _ _ (if (d == sysModules) = true then _ else (dictSetDefault d key dflt >>= _)) _ _ s; rw [if_neg (by rw [hS]; exact fnt)]
  refine wpAny_bind ?_; unfold dictSetDefault
  try with_reducible refine wpAny_holding ?_
  refine wpAny_bind ((zbf P w).pyHash (A := A.in1) (show A.units + 1 + 80 < cLine by omega) hk ?_)
  refine wpAny_bind (zgL (s := { s with toks := s.toks + (zbf P w).draws k }) (A := A.in1) (show A.units + 1 + 80 < cLine by omega) hk ho hd ?_)
  refine wpAny_bind (wpAny_rule (wpAny_bind (wpAny_updateDictKeys (s := { s with toks := s.toks + (zbf P w).draws k }) (hz := by simp) ho hd (wpAny_pure ?_))))
  exact wpAny_pure ⟨_,rfl,q _ _ (ep + 1) _ (Heap.get?_update_self _ ho (Obj.isFreed_of_dict (Obj.data_mapDictKeys hd _))) (hx.mapDictKeys _) (Obj.data_mapDictKeys hd _) (Heap.SameBut.update ..)⟩
theorem zlo {ks : List Int} {a : Addr} {Q : Bool -> Shared -> Prop} (ha : IsTupleKey (intKind P w) s.heap ks a) (q : Q false s) : wpAny (model P w) A (Builtin.Dict.quietEq (.ref a)) Q E s := by
  unfold Builtin.Dict.quietEq; refine wpAny_bind (wpAny_specialOf ha.typeIs PySem.F.slot_tuple_eq.lookup (wpAny_pure ?_)); have e : (some (Value.builtin "tuple.__eq__") == some (Value.builtin "object.__eq__")) = false := by decide
  rw [e]; exact q
theorem ziF {Q : Array DictEntry -> Shared -> Prop} {id : String} {ks : List Int} {a : Addr} {hs : Int} (ha : IsTupleKey (intKind P w) s.heap ks a) (ho : s.heap.get? d = some ob) (hd : ob.data = .dict #[⟨hs,.ref a,v⟩] ep) (q : Q #[⟨hs,.ref a,v⟩] s) :
    wpAny (model P w) A (Builtin.Dict.entriesForEmpty id d) Q E s := by
  unfold Builtin.Dict.entriesForEmpty; refine wpAny_bind (wpAny_dictEntries ho hd ?_); refine wpAny_bind ?_; rw [<- Array.forIn_toList]; refine wpAny_forIn_list _ (fun rest _ s' => s' = s /\ ∀ e ∈ rest,e = (⟨hs,.ref a,v⟩ : DictEntry)) _ ?_ ?_ _ _ ⟨rfl,fun e he => by simpa using he⟩
  . rintro e rest u s' ⟨rfl,hr⟩; have he := hr e List.mem_cons_self; subst he; refine wpAny_bind (zlo ha ?_); rw [if_pos (by decide),if_neg (by simp)]
    exact wpAny_pure ⟨rfl,fun e he => hr e (List.mem_cons_of_mem _ he)⟩
  . rintro u s' ⟨rfl,_⟩; exact wpAny_pure q
theorem zl7 {Q : Unit -> Shared -> Prop} {id : String} {o2 : Addr} {ob2 : Obj} {ep2 : Nat} (hu : A.units + 80 < cLine) (hne : d ≠ o2) (hS : (o2 == sysModules) = false) (hk : zeZ P w s.heap k key) (ho : s.heap.get? d = some ob) (hx : ob.ExactDict) (hd : ob.data = .dict #[] ep)
    (ho2 : s.heap.get? o2 = some ob2) (hd2 : ob2.data = .dict #[⟨(zbf P w).hash k,key,v⟩] ep2)
    (q : ∀ h' o' ep',h'.get? d = some o' -> o'.ExactDict -> o'.data = .dict #[⟨(zbf P w).hash k,key,v⟩] ep' -> Heap.SameBut d s.heap h' -> Q () { s with heap := h' }) : wpAny (model P w) A (Builtin.Dict.mergeDict id d o2) Q E s := by
  unfold Builtin.Dict.mergeDict; rw [if_neg (by simpa using hne)]
  unfold Builtin.Dict.showsAll; rw [if_neg (by rw [hS]; exact fnt)]
  refine wpAny_bind (wpAny_pure ?_); refine wpAny_bind (wpAny_dictEntries ho2 hd2 ?_)
  cases k with
  | inl ks =>
    obtain ⟨a,rfl,ha⟩ := hk; dsimp only; rw [if_pos (by simp [keyPart])]
    refine wpAny_bind (wpAny_dictEntries ho hd ?_); rw [if_pos (by simp)]
    refine wpAny_bind (ziF ha ho2 hd2 ?_); rw [if_pos (by simp)]
    refine wpAny_bind (wpAny_updateDictKeysTo ho hd (wpAny_pure ?_) (by simp))
    exact q _ _ (ep + 1) (Heap.get?_update_self _ ho (Obj.isFreed_of_dict (Obj.data_mapDictKeys hd _))) (hx.mapDictKeys _) (Obj.data_mapDictKeys hd _) (Heap.SameBut.update ..)
  | inr i =>
    obtain ⟨t,rfl⟩ := _root_.id hk; dsimp only; rw [if_neg (by simp [keyPart])]
    refine wpAny_bind (wpAny_dictEpoch ho2 hd2 ?_); refine wpAny_bind (wpAny_dictEntries ho2 hd2 ?_); refine wpAny_bind ?_; rw [Std.Legacy.Range.forIn_eq_forIn_range']; refine wpAny_forIn_list _ (fun rest _ s' => (rest = [0] /\ s' = s) \/ (rest = [] /\ ∃ h' o' ep',s' = { s with heap := h' } /\ h'.get? d = some o' /\ o'.ExactDict /\ o'.data = .dict #[⟨(zbf P w).hash (.inr i),.int i t,v⟩] ep' /\ Heap.SameBut d s.heap h')) _ ?_ ?_ _ _ (.inl ⟨by simp [Std.Legacy.Range.size],rfl⟩)
    . rintro x rest u s' (⟨hr,rfl⟩ | ⟨hr,_⟩)
      . injection hr with h1 h2
        subst h1 h2; refine wpAny_bind (wpAny_dictEntries ho2 hd2 ?_); show wpAny _ _ (holding [Value.int i t,v] (dictSetHashed d (.int i t) ((zbf P w).hash (.inr i)) v) >>= _) _ _ _; refine wpAny_bind (wpAny_holding (zgW hu hk ho hx hd fun h' o' ep' a b c e => ?_)); have ho2' : h'.get? o2 = some ob2 := (e.2 o2 (Ne.symm hne)).trans ho2; refine wpAny_bind (wpAny_dictEpoch ho2' hd2 ?_); rw [if_neg (by simp)]
        exact wpAny_pure (.inr ⟨rfl,h',o',ep',rfl,a,b,c,e⟩)
      . cases hr
    . rintro u s' (⟨hr,_⟩ | ⟨_,h',o',ep',rfl,a,b,c,e⟩)
      . cases hr
      . exact wpAny_pure (q h' o' ep' a b c e)
theorem sd_update {Q : Value -> Shared -> Prop} {o2 : Addr} {ob2 : Obj} {ep2 : Nat} (hu : A.units + 100 < cLine) (hne : d ≠ o2) (hS : (o2 == sysModules) = false) (hk : zeZ P w s.heap k key) (ho : s.heap.get? d = some ob) (hx : ob.ExactDict) (hd : ob.data = .dict #[] ep)
    (ho2 : s.heap.get? o2 = some ob2) (hx2 : ob2.ExactDict) (hd2 : ob2.data = .dict #[⟨(zbf P w).hash k,key,v⟩] ep2)
    (q : ∀ h' o' ep',h'.get? d = some o' -> o'.ExactDict -> o'.data = .dict #[⟨(zbf P w).hash k,key,v⟩] ep' -> Heap.SameBut d s.heap h' -> Q .none { s with heap := h' }) : wpAny (model P w) A (call (.builtin "dict.update") [.ref d,.ref o2]) Q E s := by
  have hT : s.TypeIs (.ref d) "dict" := ⟨ob,ho,hx.1⟩; have hT2 : s.TypeIs (.ref o2) "dict" := ⟨ob2,ho2,hx2.1⟩; refine wpAny_call_entry PySem.F.slot_dict_update hT PySem.F.entry_dict_update ?_ (PySem.F.args_dict_update_2 _ _); unfold Builtin.«dict.update»; refine wpAny_bind ?_; unfold Builtin.Dict.selfAndRest; refine wpAny_bind (wpAny_notOrdered_dict hT ?_); show wpAny _ _ (pure (d,[Value.ref o2])) _ _ s; refine wpAny_pure ?_; show wpAny _ _ (Builtin.Dict.updateFrom "dict.update" d (.ref o2) [] .none) _ _ s; unfold Builtin.Dict.updateFrom; refine wpAny_bind (wpAny_typeOf hT2 ?_); rw [if_neg (by decide)]
  refine wpAny_bind ?_; unfold Builtin.Dict.merge; refine wpAny_bind ?_; unfold Builtin.Dict.readDirectly; refine wpAny_bind (wpAny_isInstance hT2 isSubtype_dict_dict ?_); simp only [Bool.not_true,Bool.false_eq_true,if_false]; refine wpAny_bind (wpAny_specialOf hT2 PySem.F.slot_dict_iter.lookup (wpAny_pure ?_)); simp only [beq_self_eq_true,if_true]; refine wpAny_bind (wpAny_pure ?_); refine zl7 (A := A.in1) (show A.units + 1 + 80 < cLine by omega) hne hS hk ho hx hd ho2 hd2 fun h' o' ep' a b c e => ?_
  show wpAny _ _ (Builtin.Dict.addKeywords d [] >>= _) _ _ _; exact wpAny_bind (wpAny_pure (wpAny_pure ⟨.none,rfl,q h' o' ep' a b c e⟩))
end
section
variable {P : Program} {w : World} {A : Around} {E : Value -> Shared -> Prop} {s : Shared} {d : Addr} {ob : Obj} {ep : Nat} {es : Array DictEntry}
theorem iter_keys {Q : Value -> Shared -> Prop} (hS : (d == sysModules) = false) (ho : s.heap.get? d = some ob) (hx : ob.ExactDict) (hd : ob.data = .dict es ep)
    (q : Q (.ref s.heap.objs.size) { s with heap := s.heap.push { cls := .type "dict_keyiterator",data := .fields #[.ref d,.int 0 0,.int es.size 0,.int ep 0] } }) : wpAny (model P w) A (pyIter (.ref d)) Q E s := by
  have hT : s.TypeIs (.ref d) "dict" := ⟨ob,ho,hx.1⟩; refine wpAny_pyIter_slot hT PySem.F.slot_dict_iter (wpAny_call_entry PySem.F.slot_dict_iter hT PySem.F.entry_dict_iter ?_ (PySem.F.args_dict_iter_1 _)); unfold Builtin.«dict.__iter__»; refine wpAny_bind ?_; unfold Builtin.Dict.dictSlotNone; refine wpAny_bind (wpAny_notOrdered_dict hT ?_); show wpAny _ _ (pure (Value.ref d)) _ _ s; refine wpAny_pure ?_; show wpAny _ _ (Builtin.Dict.showsAll d >>= _) _ _ s; unfold Builtin.Dict.showsAll; rw [if_neg (by rw [hS]; exact fnt)]
  refine wpAny_bind (wpAny_pure ?_); refine wpAny_bind (wpAny_dictEntries ho hd ?_); refine wpAny_bind (wpAny_dictEpoch ho hd ?_); exact wpAny_bind (wpAny_newObj_type (wpAny_pure ⟨_,rfl,"dict_keyiterator",_,⟨_,Heap.get?_push_size _ rfl,rfl⟩,PySem.F.slot_dict_keyiterator_next.lookup,q⟩))
theorem next_key {Q : Option Value -> Shared -> Prop} {it : Addr} {i : Nat} {e : DictEntry} (hit : s.heap.IsKeyIter it d i es.size ep) (ho : s.heap.get? d = some ob) (hd : ob.data = .dict es ep) (he : es[i]? = some e)
    (q : ∀ h',h'.IsKeyIter it d (i + 1) es.size ep -> Heap.SameBut it s.heap h' -> Q (some e.key) { s with heap := h' }) : wpAny (model P w) A (pyNext (.ref it)) Q E s := by
  obtain ⟨oi,hoi,hci,hdi⟩ := id hit; have hT := hit.typeIs; unfold pyNext
  refine wpAny_bind (wpAny_attempt (wpAny_callSpecial?_slot (name := Str.ofString "__next__") hT PySem.F.slot_dict_keyiterator_next
    (wpAny_call_entry PySem.F.slot_dict_keyiterator_next hT PySem.F.entry_dict_keyiterator_next ?_ (PySem.F.args_dict_keyiterator_next_1 _))))
  refine wpAny_bind (wpAny_pure ?_); refine wpAny_bind ?_; refine wpAny_bind ?_
  first | refine wpAny_bind (wpAny_typeNameOfWhole_keyiter hT (wpAny_pure ?_)) | refine wpAny_bind (wpAny_typeNameOf_keyiter hT (wpAny_pure ?_))
  refine wpAny_bind (wpAny_fieldsOf hoi hdi ?_); simp only [show Builtin.Dict_items.ownsTuple "dict_keyiterator" = false by decide,Bool.false_eq_true,if_false]
  show wpAny _ _ (if (Value.ref d == Value.none) = true then _ else _) _ _ s; rw [if_neg (show ¬ ((Value.ref d == Value.none) = true) from fnt)]; refine wpAny_bind (wpAny_pure ?_); refine wpAny_bind (wpAny_dictEntries ho hd ?_); rw [if_neg (by simp)]
  refine wpAny_bind (wpAny_pure ?_); refine wpAny_bind (wpAny_dictEpoch ho hd ?_); rw [if_neg (by simp)]
  refine wpAny_pure ?_; simp only [show ¬ ((i : Int) < 0) from by omega,if_false,Int.toNat_natCast,he]
  refine wpAny_bind ?_
  first | refine wpAny_bind (wpAny_typeNameOfWhole_keyiter hT (wpAny_pure ?_)) | refine wpAny_bind (wpAny_typeNameOf_keyiter hT (wpAny_pure ?_))
  refine wpAny_bind (wpAny_isOneOf_keyiter hT ?_); show wpAny _ _ (setField (.ref it) 1 (rawInt ((i : Int) + 1)) >>= _) _ _ s; refine wpAny_bind (wpAny_setField hoi hdi (by simp) ?_)
  have hit' : (s.heap.update it (Obj.mapFields (·.setIfInBounds 1 (rawInt ((i : Int) + 1))))).IsKeyIter it d (i + 1) es.size ep :=
    ⟨_,Heap.get?_update_self _ hoi (Obj.isFreed_of_fields (Obj.data_mapFields hdi _)),(Obj.cls_mapFields ..).trans hci,by rw [Obj.data_mapFields hdi]; simp [rawInt]⟩
  refine wpAny_bind (wpAny_holding ?_); refine wpAny_bind (wpAny_isOneOf_keyiter (s := { s with heap := s.heap.update it (Obj.mapFields (·.setIfInBounds 1 (rawInt ((i : Int) + 1)))) }) hit'.typeIs ?_)
  show wpAny _ _ (pure e.key) _ _ _; exact wpAny_pure (wpAny_pure ⟨_,rfl,wpAny_pure (q _ hit' (Heap.SameBut.update ..))⟩)
theorem next_end {Q : Option Value -> Shared -> Prop} {it : Addr} {i : Nat} (hh : A.handled = none) (hit : s.heap.IsKeyIter it d i es.size ep) (ho : s.heap.get? d = some ob) (hd : ob.data = .dict es ep) (hi : es.size <= i)
    (q : ∀ h',Heap.ExtBut it s.heap h' -> Q none { s with heap := h' }) : wpAny (model P w) A (pyNext (.ref it)) Q E s := by
  obtain ⟨oi,hoi,hci,hdi⟩ := id hit; have hT := hit.typeIs; unfold pyNext
  refine wpAny_bind (wpAny_attempt (wpAny_callSpecial?_slot (name := Str.ofString "__next__") hT PySem.F.slot_dict_keyiterator_next
    (wpAny_call_entry PySem.F.slot_dict_keyiterator_next hT PySem.F.entry_dict_keyiterator_next ?_ (PySem.F.args_dict_keyiterator_next_1 _))))
  refine wpAny_bind (wpAny_pure ?_); refine wpAny_bind ?_; refine wpAny_bind ?_
  first | refine wpAny_bind (wpAny_typeNameOfWhole_keyiter hT (wpAny_pure ?_)) | refine wpAny_bind (wpAny_typeNameOf_keyiter hT (wpAny_pure ?_))
  refine wpAny_bind (wpAny_fieldsOf hoi hdi ?_); simp only [show Builtin.Dict_items.ownsTuple "dict_keyiterator" = false by decide,Bool.false_eq_true,if_false]
  show wpAny _ _ (if (Value.ref d == Value.none) = true then _ else _) _ _ s; rw [if_neg (show ¬ ((Value.ref d == Value.none) = true) from fnt)]; refine wpAny_bind (wpAny_pure ?_); refine wpAny_bind (wpAny_dictEntries ho hd ?_); rw [if_neg (by simp)]
  refine wpAny_bind (wpAny_pure ?_); refine wpAny_bind (wpAny_dictEpoch ho hd ?_); rw [if_neg (by simp)]
  refine wpAny_pure ?_; simp only [show ¬ ((i : Int) < 0) from by omega,if_false,Int.toNat_natCast,Array.getElem?_eq_none hi]
  refine wpAny_bind ?_
  first | refine wpAny_bind (wpAny_typeNameOfWhole_keyiter hT (wpAny_pure ?_)) | refine wpAny_bind (wpAny_typeNameOf_keyiter hT (wpAny_pure ?_))
  show wpAny _ _ (setField (.ref it) 0 .none >>= _) _ _ s; refine wpAny_bind (wpAny_setField hoi hdi (by simp) ?_)
  show wpAny _ _ (newExc (.type "StopIteration") [] >>= _) _ _ _; refine wpAny_bind ?_; simp only [newExc,newTuple]; refine wpAny_bind (wpAny_newObj_type ?_ (by size_fits))
  refine wpAny_bind (m := firstArgMember _ _) (wpAny_of_eq (a := Value.none) (by first | rfl | (simp only [firstArgMember]; rfl)) ?_)
  refine wpAny_newObj_type ?_ (by size_fits)
  simp only [raiseNew]; refine wpAny_bind (wpAny_handled ?_); rw [show A.in1.handled = none from hh]; refine wpAny_bind (wpAny_pure (wpAny_throw ?_)); refine wpAny_bind (wpAny_isInstance (T := "StopIteration") (b := true) ⟨_,Heap.get?_push_size _ rfl,rfl⟩ isSubtype_stop ?_); exact wpAny_pure (q _ (((Heap.SameBut.update ..).extBut.push _).push _))
theorem truthy_dict {Q : Bool -> Shared -> Prop} (hS : (d == sysModules) = false) (ho : s.heap.get? d = some ob) (hx : ob.ExactDict) (hd : ob.data = .dict es ep) (hf : (es.size : Int) < 2 ^ 63)
    (q : Q (!es.isEmpty) { s with toks := s.toks + 1 + 1 }) : wpAny (model P w) A (truthy (.ref d)) Q E s := by
  have hT : s.TypeIs (.ref d) "dict" := ⟨ob,ho,hx.1⟩
  have hne : ((es.size : Int) != 0) = !es.isEmpty := by
    rw [Array.isEmpty]
    cases h : es.size with
    | zero => rfl
    | succ n => simp; omega
  have core : wpAny (model P w) A (runValue (.builtin "len" ⟨[.ref d],[]⟩)) (fun r s' => r = .int es.size (s.toks + 1) /\ Q (!es.isEmpty) s') E s := by
    refine wpAny_runValue (codeAny_builtin entry_len ?_); rw [Around.under_plainId plain_len _]; unfold Builtin.«len»; refine wpAny_bind (m := oneArg "len" _) (wpAny_pure ?_); refine wpAny_bind (m := callSpecial? (.ref d) (Str.ofString "__len__")) (wpAny_callSpecial?_slot (name := Str.ofString "__len__") hT PySem.F.slot_dict_len (wpAny_call_entry PySem.F.slot_dict_len hT PySem.F.entry_dict_len ?_ (PySem.F.args_dict_len_1 _))); show wpAny _ _ (dictSize d >>= _) _ _ s; unfold dictSize; refine wpAny_bind (wpAny_bind (wpAny_dictEntries ho hd (wpAny_pure ?_))); show wpAny _ _ (Builtin.Dict.pendingCount d >>= _) _ _ s; refine wpAny_bind (wpAny_pendingCount_other hS ?_); refine wpAny_ret_mkInt ?_; rw [show ((es.size : Int) + ((0 : Nat) : Int)) = ((es.size : Nat) : Int) by simp]
    refine wpAny_bind (wpAny_holding (wpAny_pure ?_)); refine wpAny_bind (wpAny_letGo ?_); show wpAny _ _ (if ((es.size : Nat) : Int) < 0 then _ else _) _ _ _; rw [if_neg (by omega)]
    show wpAny _ _ (if ((es.size : Nat) : Int) ≥ 2 ^ 63 then _ else _) _ _ _; rw [if_neg (by omega)]
    exact wpAny_bind (wpAny_mkInt (wpAny_pure ⟨rfl,q⟩))
  unfold truthy
  first
    | refine wpAny_bind (wpAny_callSpecial?_none (name := Str.ofString "__bool__") hT noBool_dict ?_)
    | refine wpAny_bind (wpAny_pure (wpAny_bind (wpAny_callSpecial?_none (name := Str.ofString "__bool__") hT noBool_dict ?_)))
  first
    | refine wpAny_bind (wpAny_specialOf (name := Str.ofString "__len__") hT PySem.F.slot_dict_len.lookup ?_)
    | refine wpAny_bind (wpAny_pure (wpAny_bind (wpAny_specialOf (name := Str.ofString "__len__") hT PySem.F.slot_dict_len.lookup ?_)))
  first
    | exact wpAny_bind (wpAny_mono core (fun r s' h' => by obtain ⟨rfl,hq⟩ := h'; exact wpAny_pure (hne ▸ hq)) fun _ _ e => e)
    | exact wpAny_bind (wpAny_pure (wpAny_bind (wpAny_mono core (fun r s' h' => by obtain ⟨rfl,hq⟩ := h'; exact wpAny_pure (hne ▸ hq)) fun _ _ e => e)))
theorem ziU {l : Addr} {vs : List Value} {Q : List Value -> Shared -> Prop} (hl : s.heap.IsTuple l vs.toArray) (hz : vs.length <= sizeLine)
    (q : Q vs { s with heap := (s.heap.push (seqObj "list" #[] 0)).update s.heap.objs.size (Obj.mapSeq (· ++ vs.toArray)) }) : wpAny (model P w) A (collect (.ref l)) Q E s := by
  obtain ⟨o,ho,hc,n,hd⟩ := hl; have hn : (s.heap.push (seqObj "list" #[] 0)).get? s.heap.objs.size = some (seqObj "list" #[] 0) := Heap.get?_push_size _ rfl; have ho' : (s.heap.push (seqObj "list" #[] 0)).get? l = some o := Heap.get?_push_of_some _ ho; unfold collect; refine wpAny_bind (wpAny_runValue (codeAny_builtin entry_proto_collect' ?_)); show wpAny _ _ (do again (.builtin "list.__iadd__" ⟨[<- newList [],.ref l],[]⟩)) _ _ s
  refine wpAny_bind (wpAny_newList (wpAny_pure ⟨Code.quiet_builtin _ (by decide +kernel),codeAny_builtin entry_list_iadd' ?_⟩))
  show wpAny _ _ (Builtin.List.listExtendWith (.ref s.heap.objs.size) (.ref l) (.ref s.heap.objs.size)) _ _ { s with heap := s.heap.push (seqObj "list" #[] 0) }
  unfold Builtin.List.listExtendWith; refine wpAny_bind (wpAny_typeOf (T := "tuple") ⟨o,ho',hc⟩ ?_); rw [if_pos (by simp)]
  refine wpAny_bind (listItems_at ho' hd ?_); refine wpAny_bind (listItems_at (xs := #[]) (n := 0) hn rfl ?_); rw [if_neg (by simp)]
  refine wpAny_bind (listUpdate_at (xs := #[]) (n := 0) hn rfl ?_ (Nat.zero_le _) (by show (#[] ++ vs.toArray).size <= sizeLine + 1; simp only [Array.size_append,List.size_toArray,List.length_nil]; omega))
  refine wpAny_pure ?_
  show wpAny (model P w) A (do
      let o <- load s.heap.objs.size
      match o.data with
      | .seq xs _ => pure xs.toList
      | _ => unsupported "internal:collect") Q E { s with heap := (s.heap.push (seqObj "list" #[] 0)).update s.heap.objs.size (Obj.mapSeq (· ++ vs.toArray)) }
  refine wpAny_bind (wpAny_load (get?_update_seq hn _) ?_); show wpAny _ _ (pure ((#[] : Array Value) ++ vs.toArray).toList) Q E _; rw [show ((#[] : Array Value) ++ vs.toArray).toList = vs by simp]
  exact wpAny_pure q
theorem sorted_tup {l : Addr} {vs : List Value} {ns : List Int} {Q : Value -> Shared -> Prop} (hl : s.heap.IsTuple l vs.toArray) (hI : IntsAre vs ns) (h64 : vs.length < 64)
    (q : ∀ (out : Array Value) (ns' : List Int),IntsAre out.toList ns' -> ns'.Perm ns -> ns'.Pairwise (· <= ·) -> Q (.ref (s.heap.objs.size + 1)) { s with heap := sortedAll s.heap vs out }) :
    wpAny (model P w) A (call (.builtin "sorted") [.ref l]) Q E s := by
  have hz : sizeLine = 16777216 := sizeLine_eq; refine Calls.call_function_entry kind_sorted plain_sorted entry_sorted (args_sorted1 _) ?_; unfold Builtin.«sorted»; refine wpAny_bind (m := checkCount "sorted" 1 1 _) (wpAny_pure ?_); refine wpAny_bind (ziU hl (by omega) ?_)
  refine wpAny_bind (wpAny_newList ?_)
  have hs1 : ((s.heap.push (seqObj "list" #[] 0)).update s.heap.objs.size (Obj.mapSeq (· ++ vs.toArray))).objs.size = s.heap.objs.size + 1 := by
    rw [Heap.size_update,size_push']
  have ho1 : (((s.heap.push (seqObj "list" #[] 0)).update s.heap.objs.size (Obj.mapSeq (· ++ vs.toArray))).push (seqObj "list" vs.toArray 0)).get? (s.heap.objs.size + 1) = some (seqObj "list" vs.toArray 0) := by
    rw [<- hs1]; exact Heap.get?_push_size _ rfl
  show wpAny _ _ _ _ _ { s with heap := ((s.heap.push (seqObj "list" #[] 0)).update s.heap.objs.size (Obj.mapSeq (· ++ vs.toArray))).push (seqObj "list" vs.toArray 0) }
  rw [hs1]; refine wpAny_bind (wpAny_holding (wpAny_call_entry slot_list_sort ⟨_,ho1,rfl⟩ entry_list_sort (list_sort_tree ho1 hI h64 fun out ns' a1 a2 a3 => ⟨_,rfl,?_⟩) (args_list_sort _))); exact wpAny_pure ⟨_,rfl,q out ns' a1 a2 a3⟩
end
end HT
namespace L2
open PySem PySem.Spec PyProof.Rows
abbrev TK := List Int ⊕ Int
def zaL (d : Addr) (o : Obj) : Heap -> Prop := fun h => h.get? d = some o
theorem zfx {P : Program} {w : World} {H : Hp} {h : Heap} {d : Addr} {o : Obj} (x : h.get? d = some o) : ObjOk P w H h d (.ext (zaL d o)) := ⟨x,⟨o,x⟩,fun h1 h2 q k => k _ q⟩
def SDict (P : Program) (w : World) (K : Fg) (H : Hp) (d : Addr) (o : Obj) (kvs : List (TK × V × V)) : Prop :=
  H d = some (.ext (zaL d o)) /\ (d == sysModules) = false /\ o.ExactDict /\ (∃ es ep,o.data = .dict es ep /\ Paired (fun (p : TK × V × V) (e : DictEntry) => e.hash = (zbf P w).hash p.1 /\ RelV p.2.1 e.key /\ RelV p.2.2 e.val) kvs es.toList) /\ (∀ p ∈ kvs,elAt K H p.1 p.2.1) /\ kvs.length <= 1
theorem elAt.moved {K : Fg} {H H' : Hp} {k : TK} {v : V} (ht : ∀ b ys,H b = some (.tup ys) -> H' b = some (.tup ys)) (hf : ∀ b o u,H b = some (.frz o u) -> H' b = some (.frz o u)) (h : elAt K H k v) : elAt K H' k v := by
  cases k with
  | inl ks => obtain ⟨t,e,h⟩ := h; exact ⟨t,e,SqT.moved ht hf h⟩
  | inr i => exact h
theorem elAt.mv {K : Fg} {H H' : Hp} {k : TK} {v : V} (s : Mv H H') (h : elAt K H k v) : elAt K H' k v := elAt.moved (fun b ys e => s.tups e) (fun b o u e => s _ _ e fun _ z => by cases z) h
section
variable {P : Program} {w : World} {K : Fg} {H H' : Hp} {d : Addr} {o : Obj} {kvs : List (TK × V × V)}
theorem SDict.mv (s : Mv H H') (h : SDict P w K H d o kvs) : SDict P w K H' d o kvs := by
  obtain ⟨h1,h2,h3,h4,h5,h6⟩ := h; exact ⟨s _ _ h1 (fun _ z => by cases z),h2,h3,h4,fun p hp => (h5 p hp).mv s,h6⟩
theorem SDict.keep (s : Same H H') (h : SDict P w K H d o kvs) : SDict P w K H' d o kvs := h.mv s.mv
theorem SDict.updN {a : Addr} {x u : HO} (ha : H a = some x) (hne : d ≠ a) (n1 : ∀ ys,x ≠ .tup ys) (n2 : ∀ ob y,x ≠ .frz ob y) (h : SDict P w K H d o kvs) : SDict P w K (upd H a u) d o kvs := by
  obtain ⟨h1,h2,h3,h4,h5,h6⟩ := h; refine ⟨by rw [zaj hne]; exact h1,h2,h3,h4,fun p hp => elAt.moved (fun b ys e => ?_) (fun b ob y e => ?_) (h5 p hp),h6⟩
  . rw [zaj (za2 e ha fun z => n1 _ z.symm)]; exact e
  . rw [zaj (za2 e ha fun z => n2 _ _ z.symm)]; exact e
theorem SDict.updL {a : Addr} {xs : List V} {u : HO} (ha : H a = some (.lst xs)) (h : SDict P w K H d o kvs) : SDict P w K (upd H a u) d o kvs :=
  h.updN ha (za2 h.1 ha fun z => by cases z) (fun _ z => by cases z) fun _ _ z => by cases z
theorem SDict.nil_data (h : SDict P w K H d o []) : ∃ ep,o.data = .dict #[] ep := by
  obtain ⟨_,_,_,⟨es,ep,hd,hp⟩,_⟩ := h
  have : es = #[] := by
    cases e : es.toList with
    | nil => simpa using e
    | cons x r => rw [e] at hp; cases hp
  exact ⟨ep,by rw [hd,this]⟩
theorem SDict.one_data {k : TK} {x y : V} (h : SDict P w K H d o [(k,x,y)]) : ∃ ep u r,o.data = .dict #[⟨(zbf P w).hash k,u,r⟩] ep /\ RelV x u /\ RelV y r := by
  obtain ⟨_,_,_,⟨es,ep,hd,hp⟩,_⟩ := h; obtain ⟨l⟩ := es
  cases l with
  | nil => cases hp
  | cons e r =>
    cases hp with
    | cons h1 h2 =>
      cases h2; obtain ⟨eh,ek,ev⟩ := e; obtain ⟨a1,a2,a3⟩ := h1; have a1' : eh = (zbf P w).hash k := a1; subst a1'; exact ⟨ep,ek,ev,hd,a2,a3⟩
theorem SDict.mk_nil {ep : Nat} (h1 : H d = some (.ext (zaL d o))) (h2 : (d == sysModules) = false) (h3 : o.ExactDict) (h4 : o.data = .dict #[] ep) : SDict P w K H d o [] := ⟨h1,h2,h3,⟨#[],ep,h4,.nil⟩,(fun p hp => by cases hp),Nat.zero_le _⟩
theorem SDict.mk_one {ep : Nat} {k : TK} {x y : V} {u r : Value} (h1 : H d = some (.ext (zaL d o))) (h2 : (d == sysModules) = false) (h3 : o.ExactDict) (h4 : o.data = .dict #[⟨(zbf P w).hash k,u,r⟩] ep) (h5 : RelV x u) (h6 : RelV y r) (h7 : elAt K H k x) : SDict P w K H d o [(k,x,y)] :=
  ⟨h1,h2,h3,⟨_,ep,h4,.cons ⟨rfl,h5,h6⟩ .nil⟩,(fun p hp => by rw [List.mem_singleton.mp hp]; exact h7),Nat.le_refl _⟩
end
section
variable {X : Cx} {pins : List (Addr × Obj)} {σ : St} {H : Hp} {s : Shared}
theorem zgU {k : TK} {x : V} {u : Value} (I : Inv X pins σ H s) (h : elAt X.K H k x) (r : RelV x u) : zeZ X.prog X.w s.heap k u := by
  cases k with
  | inl ks => obtain ⟨t,rfl,ht⟩ := h; exact ⟨t,r,zj0 I ht⟩
  | inr i =>
    have h' : x = .int i := h; subst h'; exact r
theorem zcn {d : Addr} {o : Obj} {kvs : List (TK × V × V)} (I : Inv X pins σ H s) (D : SDict X.prog X.w X.K H d o kvs) : s.heap.get? d = some o := (I.hok d _ D.1).1
theorem zep {d : Addr} {o o' : Obj} {kvs : List (TK × V × V)} {h' : Heap} {tk : Nat} (I : Inv X pins σ H s) (D : SDict X.prog X.w X.K H d o kvs) (e : h'.get? d = some o') (sb : Heap.SameBut d s.heap h') : Inv X pins σ (upd H d (.ext (zaL d o'))) { s with heap := h',toks := tk } :=
  I.write (x := d) (e := d) (by rw [D.1]; exact True.intro) (.inl rfl) (fun b ob hb q => (sb.2 b hb).trans q) ⟨_,e⟩ (zfx e)
theorem zhj {d : Addr} {o o' : Obj} {kvs : List (TK × V × V)} {k : TK} {x : V} (D : SDict X.prog X.w X.K H d o kvs) (h : elAt X.K H k x) : elAt X.K (upd H d (.ext (zaL d o'))) k x :=
  elAt.moved (fun b ys e => by rw [zaj (za2 e D.1 fun z => by cases z)]; exact e) (fun b ob y e => by rw [zaj (za2 e D.1 fun z => by cases z)]; exact e) h
end
section
variable {X : Cx} {pos : Pos}
def zop (P : Program) (w : World) (K : Fg) : TE := fun _ H Q => ∀ (p : Addr) (o : Obj),H p = none -> SDict P w K (upd H p (.ext (zaL p o))) p o [] -> Q (.ref p) (upd H p (.ext (zaL p o)))
theorem zf2 : PE X (.Dict [] [] pos) (zop X.prog X.w X.K) := by
  intro pins s σ H Q I h; have hb : (s.heap.objs.size == sysModules) = false := beq_eq_false_iff_ne.mpr (Ne.symm (Nat.ne_of_lt I.big)); refine wpAny_Dict_empty ⟨.ref s.heap.objs.size,_,I.laid (a := s.heap.objs.size) (o := .ext (zaL s.heap.objs.size _)) (t' := s.toks) (fun _ _ q => Heap.get?_push_of_some _ q) (Nat.le_refl _) (zfx (Heap.get?_push_size _ rfl)),rfl,h _ _ (I.hok.fresh (Nat.le_refl _)) (SDict.mk_nil zab hb ⟨rfl,rfl,rfl⟩ rfl)⟩
def zjl (P : Program) (w : World) (K : Fg) (tk tv : TE) : TE := fun σ H Q => ∀ (p : Addr) (o : Obj),H p = none -> SDict P w K (upd H p (.ext (zaL p o))) p o [] -> tk σ (upd H p (.ext (zaL p o))) fun x H1 => tv σ H1 fun y H2 =>
  SDict P w K H2 p o [] /\ ∃ k,elAt K H2 k x /\ ∀ o',SDict P w K (upd H2 p (.ext (zaL p o'))) p o' [(k,x,y)] -> Q (.ref p) (upd H2 p (.ext (zaL p o')))
theorem zia {k v : Expr} {tk tv : TE} (hu : X.A.units + 100 < cLine) (hk : PE X k tk) (hv : PE X v tv) : PE X (.Dict [some k] [v] pos) (zjl X.prog X.w X.K tk tv) := by
  intro pins s σ H Q I h; have hb : (s.heap.objs.size == sysModules) = false := beq_eq_false_iff_ne.mpr (Ne.symm (Nat.ne_of_lt I.big)); have hn := I.hok.fresh (Nat.le_refl s.heap.objs.size); have I1 := I.laid (a := s.heap.objs.size) (o := .ext (zaL s.heap.objs.size { cls := .type "dict",data := .dict #[] })) (h' := s.heap.push { cls := .type "dict",data := .dict #[] }) (t' := s.toks) (fun _ _ q => Heap.get?_push_of_some _ q) (Nat.le_refl _) (zfx (Heap.get?_push_size _ rfl)); have h1 := h _ _ hn (SDict.mk_nil (P := X.prog) (w := X.w) (K := X.K) (o := { cls := .type "dict",data := .dict #[] }) (ep := 0) zab hb ⟨rfl,rfl,rfl⟩ rfl); refine wpAny_Dict_any rfl rfl (by simp) (by simp) (pairTrees_cons_walk (thn (hk pins _ σ _ _ I1 h1) fun u s1 ⟨x,H1,I1,rx,q1⟩ => thn (hv pins s1 σ H1 _ I1 q1) fun r s2 ⟨y,H2,I2,ry,D,kk,hel,q2⟩ => pairTrees_nil_walk ?_))
  obtain ⟨ep,hd⟩ := D.nil_data; unfold storeAll; refine wpAny_forIn_list _ (fun rest _ s' => (rest = [(u,r)] /\ s' = s2) \/ (rest = [] /\ EP X pins σ Q (.ref s.heap.objs.size) s')) _ ?_ ?_ _ _ (.inl ⟨rfl,rfl⟩)
  . rintro e rest b s' (⟨hr,rfl⟩ | ⟨hr,_⟩)
    . injection hr with e1 e2
      subst e1 e2; refine wpAny_bind (HT.sd_dictSet (by omega) (zgU I2 hel rx) (zcn I2 D) D.2.2.1 hd fun h' o' ep' tk a b c e => wpAny_pure (.inr ⟨rfl,.ref s.heap.objs.size,_,zep I2 D a e,rfl,q2 _ ?_⟩))
      exact SDict.mk_one zab hb b c rx ry (zhj D hel)
    . cases hr
  . rintro b s' (⟨hr,_⟩ | ⟨_,q⟩)
    . cases hr
    . exact q
def zn5 (P : Program) (w : World) (K : Fg) : V -> V -> V -> Hp -> (Hp -> Prop) -> Prop := fun o i v H Q => ∃ (d : Addr) (ob : Obj) (k : TK),o = .ref d /\ elAt K H k i /\ SDict P w K H d ob [] ∧
  ∀ o',SDict P w K (upd H d (.ext (zaL d o'))) d o' [(k,i,v)] -> Q (upd H d (.ext (zaL d o')))
theorem zo9 (hu : X.A.units + 100 < cLine) : znL X (zn5 X.prog X.w X.K) := by
  intro pins s σ H o i v ov iv u Q I ro ri rv h; obtain ⟨d,ob,k,rfl,hk,D,q⟩ := h; cases ro; obtain ⟨ep,hd⟩ := D.nil_data; exact HT.sd_setItem hu (zgU I hk ri) (zcn I D) D.2.2.1 hd fun h' o' ep' tk a b c e => ⟨_,zep I D a e,q o' (SDict.mk_one zab D.2.1 b c ri rv (zhj D hk))⟩
def zol (P : Program) (w : World) (K : Fg) (td ty : TE) : TE := fun σ H Q => td σ H fun x H1 => ty σ H1 fun y H2 => ∃ (d : Addr) (ob : Obj) (k : TK) (y0 v : V),x = .ref d /\ elAt K H2 k y /\ SDict P w K H2 d ob [(k,y0,v)] /\ Q v H2
theorem ziW {o i : Expr} {td ty : TE} (hu : X.A.units + 100 < cLine) (ho : PE X o td) (hi : PE X i ty) (hs : zo8 i) : PE X (.Subscript o i pos) (zol X.prog X.w X.K td ty) := by
  intro pins s σ H Q I h; refine zjZ PySem.F.slot_dict_getitem.lookup hs (thn (ho pins s σ H _ I h) fun u s1 ⟨x,H1,I1,rx,q1⟩ => thn (hi pins s1 σ H1 _ I1 q1) fun iv s2 ⟨y,H2,I2,ry,d,ob,k,y0,v,ex,hk,D,q2⟩ => ?_); subst ex; obtain rfl : u = Value.ref d := rx; obtain ⟨ep,u0,r,hd,r0,rr⟩ := D.one_data; have h0 : elAt X.K H2 k y0 := D.2.2.2.2.1 (k,y0,v) (by simp)
  exact ⟨⟨ob,zcn I2 D,D.2.2.1.1⟩,HT.sd_getItem hu (zgU I2 hk ry) (zgU I2 h0 r0) (zcn I2 D) D.2.2.1 hd fun tk => ⟨v,H2,I2.tok tk,rr,q2⟩⟩
theorem znP {a : Expr} {ta : TE} (ha : PE X a ta) (he : ∀ whole,isTrue a X.env whole = (do let v <- whole; standAt a.pos; holding [v] (truthy v))) :
    PT X a (fun σ H Q => ta σ H fun x H' => ∃ (d : Addr) (o : Obj) (kvs : List (TK × V × V)),x = .ref d /\ SDict X.prog X.w X.K H' d o kvs /\ Q (!kvs.isEmpty) H') := by
  intro pins s σ H Q I h; refine isTrue_plain (thn (ha pins s σ H _ I h) fun v s1 ⟨x,H1,I1,r1,d,o,kvs,ex,D,q1⟩ => ?_) (he _); subst ex; cases r1; obtain ⟨es,ep,hd,hp⟩ := D.2.2.2.1; have hl : kvs.length = es.size := by have := Paired.length hp; simpa using this
  have h1 := D.2.2.2.2.2; refine HT.truthy_dict D.2.1 (zcn I1 D) D.2.2.1 hd (by omega) ⟨H1,I1.tok _,?_⟩
  have e : es.isEmpty = kvs.isEmpty := by
    rw [Array.isEmpty,<- hl]
    cases kvs <;> simp
  rw [e]; exact q1
theorem zlL {o e : Expr} {es : List Expr} {to : TE} {t : TA} {name : Str} {apos cpos : Pos} {id : String} {r : V -> List V -> Hp -> VK -> Prop} (slot : Slot "dict" name id) (hty : typeOf (.builtin id) = pure (.type "method_descriptor")) (hm : MtR X id r) (ho : PE X o to) (ha : PA X (e :: es) t)
    (hbase : attributeBase o name X.env (eval o X.env) = eval o X.env := by rfl)
    (hfew : ((backTo cpos (starEach (e :: es) X.env)).all (fun x => !x.1) && (backToKw cpos (keywordEach [] X.env)).all (fun x => x.1.isSome)
      && decide ((e :: es).length + ([] : List Keyword).length + (if ([] : List Keyword).isEmpty then 0 else 1) < 30)) = true := by rfl)
    (hline : (apos.endLine == cpos.line) = true := by rfl) (hs : starEach (e :: es) X.env = (false,eval e X.env) :: starEach es X.env := by rfl) (hplain : (backTo cpos (starEach es X.env)).any (·.1) = false := by rfl) :
    PE X (.Call (.Attribute o name apos) (e :: es) [] cpos) (fun σ H Q => to σ H fun x H1 => (∃ d ob kvs,x = .ref d /\ SDict X.prog X.w X.K H1 d ob kvs) /\ t σ H1 fun xs H2 => r x xs H2 Q) := by
  intro pins s σ H Q I h; refine wpAny_Call_method_late hbase hfew hline rfl (thn (ho pins s σ H _ I h) fun v s1 ⟨x,H1,I1,r1,⟨d,ob,kvs,ex,D⟩,q1⟩ => ?_)
  have h1 : s1.TypeIs v "dict" := by
    subst ex; cases r1; exact ⟨ob,zcn I1 D,D.2.2.1.1⟩
  have h2 : ∀ a,v = .ref a -> ∃ ob,s1.heap.get? a = some ob /\ ob.dict = none := fun a e => by
    subst ex; cases r1; cases e; exact ⟨ob,zcn I1 D,D.2.2.1.2.1⟩
  refine ⟨"dict",id,PySem.F.plainAttrs_dict,slot,hty,h1,h2,?_⟩; have hA := ha cpos pins s1 σ H1 _ I1 q1; rw [hs] at hA ⊢; refine Calls.callWith_builtin (by show (false || (backTo cpos (starEach es X.env)).any (·.1)) = false; rw [hplain] <;> rfl) (Calls.evalArgs_plain ?_)
  exact thn hA fun us s2 ⟨vs,H2,I2,r2,q2⟩ => hm pins s2 σ H2 x vs v us Q I2 r1 r2 q2
def zo1 (P : Program) (w : World) (K : Fg) : V -> List V -> Hp -> VK -> Prop := fun x vs H Q => ∃ (d : Addr) (ob : Obj) (k : TK) (y z : V),x = .ref d /\ vs = [y,z] /\ elAt K H k y /\ SDict P w K H d ob [] ∧
  ∀ o',SDict P w K (upd H d (.ext (zaL d o'))) d o' [(k,y,z)] -> Q z (upd H d (.ext (zaL d o')))
theorem zmG (hu : X.A.units + 100 < cLine) : MtR X "dict.setdefault" (zo1 X.prog X.w X.K) := by
  intro pins s σ H x vs v us Q I rx rv h; obtain ⟨d,ob,k,y,z,rfl,rfl,hk,D,q⟩ := h; cases rx; obtain ⟨u1,u2,rfl,ru1,ru2⟩ := rv.two; obtain ⟨ep,hd⟩ := D.nil_data; exact HT.sd_setdefault hu D.2.1 (zgU I hk ru1) (zcn I D) D.2.2.1 hd fun h' o' ep' tk a b c e => ⟨z,_,zep I D a e,ru2,q o' (SDict.mk_one zab D.2.1 b c ru1 ru2 (zhj D hk))⟩
def zpy (P : Program) (w : World) (K : Fg) : V -> List V -> Hp -> VK -> Prop := fun x vs H Q => ∃ (d d2 : Addr) (ob ob2 : Obj) (k : TK) (y z : V),x = .ref d /\ vs = [.ref d2] /\ SDict P w K H d ob [] /\ SDict P w K H d2 ob2 [(k,y,z)] ∧
  ∀ o',SDict P w K (upd H d (.ext (zaL d o'))) d o' [(k,y,z)] -> Q .non (upd H d (.ext (zaL d o')))
theorem zm3 (hu : X.A.units + 100 < cLine) : MtR X "dict.update" (zpy X.prog X.w X.K) := by
  intro pins s σ H x vs v us Q I rx rv h; obtain ⟨d,d2,ob,ob2,k,y,z,rfl,rfl,D,D2,q⟩ := h; cases rx; obtain ⟨u,rfl,ru⟩ := rv.one; cases ru; obtain ⟨ep,hd⟩ := D.nil_data; obtain ⟨ep2,u2,r2,hd2,ru2,rr2⟩ := D2.one_data; have hel : elAt X.K H k y := D2.2.2.2.2.1 (k,y,z) (by simp)
  have hne : d ≠ d2 := fun e => by
    subst e; have e1 := zcn I D; rw [zcn I D2] at e1; cases e1; rw [hd] at hd2; cases hd2
  exact HT.sd_update hu hne D2.2.1 (zgU I hel ru2) (zcn I D) D.2.2.1 hd (zcn I D2) D2.2.2.1 hd2 fun h' o' ep' a b c e => ⟨.non,_,zep (tk := s.toks) I D a e,rfl,q o' (SDict.mk_one zab D.2.1 b c ru2 rr2 (zhj D hel))⟩
inductive zps (K : Fg) (xs : List V) (H : Hp) (Q : VK) : Prop
  | mk (p : Addr) (ns : List Int) : (xs = [.ref p]) -> (SqT K H p (ns.map V.int)) -> (ns.length < 64) -> (∀ (l : Addr) (ns' : List Int),H l = none -> ns'.Perm ns -> ns'.Pairwise (· <= ·) -> Q (.ref l) (upd H l (.lst (ns'.map V.int)))) -> zps K xs H Q
theorem zhQ : zbH X (.builtin "sorted") (zps X.K) := by
  intro pins s σ H xs us Q I r h; obtain ⟨p,ns,rfl,hq,h64,q⟩ := h; obtain ⟨u,rfl,ru⟩ := zc4 r
  cases (show u = Value.ref p from ru)
  obtain ⟨its,rv,pl,hz⟩ := I.tuple hq; have hi : IntsAre its ns := zdS rv; have hlen : its.length = ns.length := by have := rv.length; rw [List.length_map] at this; omega
  have hsz : sizeLine = 16777216 := sizeLine_eq; refine HT.sorted_tup (show s.heap.IsTuple p its.toArray from pl) hi (by omega) fun out ns' a1 a2 a3 => ?_
  obtain ⟨e,he⟩ := sortedAll_at s.heap its out; refine ⟨.ref _,_,I.laid (a := s.heap.objs.size + 1) (t' := s.toks) (fun b o e => sortedAll_old e) (Nat.le_succ _) (show ObjOk X.prog X.w _ _ _ (.lst (ns'.map V.int)) from ⟨?_,out.toList,e,zdH a1,?_⟩),rfl,q _ ns' (I.hok.fresh (Nat.le_succ _)) a2 a3⟩
  . rw [List.length_map,a2.length_eq]; omega
  . rw [he]
end
def Itd (P : Program) (w : World) (K : Fg) (d : Addr) (o : Obj) : It :=
  ⟨fun i H => ∃ kvs p,SDict P w K H d o kvs /\ kvs[i]? = some p,fun i H x H' => H' = H /\ ∀ kvs,SDict P w K H d o kvs -> ∃ p,kvs[i]? = some p /\ x = p.2.1,fun i H => ∃ kvs,SDict P w K H d o kvs /\ kvs.length <= i⟩
theorem zeA {α β : Type} {F : α -> β -> Prop} : ∀ {as : List α} {bs : List β} {i : Nat} {a : α},Paired F as bs -> as[i]? = some a -> ∃ b,bs[i]? = some b /\ F a b
  | _,_,_,_,.nil,e => by simp at e
  | _,_,0,_,.cons r _,e => by simp at e; subst e; exact ⟨_,rfl,r⟩
  | _,_,i + 1,a,.cons _ t,e => by
    obtain ⟨b,h1,h2⟩ := zeA (i := i) t (by simpa using e)
    exact ⟨b,by simpa using h1,h2⟩
theorem zmZ {P : Program} {w : World} {K : Fg} {tg : Expr} (d it : Addr) (o : Obj) (es : Array DictEntry) (ep : Nat) (hd : o.data = .dict es ep) : zjh P w K tg (Itd P w K d o) [it] it (fun i h => h.IsKeyIter it d i es.size ep) where
  mem := by simp
  obj := fun i h st b hb => by
    have e : b = it := by simpa using hb
    subst e; obtain ⟨o,e,c,d⟩ := st; exact ⟨o,e,fun v z => by rw [d] at z; cases z⟩
  keep := fun i h h' st k => let ⟨o,e,r⟩ := st; ⟨o,k it (by simp) o e,r⟩
  item := by
    intro X hP hw hK hc i pins s σ H E I hf st hg; subst hP hw hK; obtain ⟨kvs,p,D,hx⟩ := hg; obtain ⟨es',ep',hd',hp⟩ := D.2.2.2.1; rw [hd] at hd'; cases hd'; obtain ⟨e,he,_,rk,_⟩ := zeA hp hx; have he' : es[i]? = some e := by simpa using he
    obtain ⟨f0,f1,f2,f3,f4,f5⟩ := hf it (by simp)
    refine HT.next_key st (zcn I D) hd he' fun h' st' sb => ?_; have I1 : Inv X pins σ H { s with heap := h' } := I.turned (t' := s.toks) (fun b ob hb e => (sb.2 b hb).trans e) f0 f1 f3 f4 f5
    obtain ⟨oi,ei,ci,di⟩ := id st'; refine ⟨_,rfl,zjP (s := { s with heap := h' }) ei ci di (by decide) ⟨p.2.1,H,I1,rk,⟨rfl,fun kvs' D' => ?_⟩,st',fun b hb => (hf b hb).1⟩⟩
    obtain ⟨es'',ep'',hd'',hp''⟩ := D'.2.2.2.1; rw [hd] at hd''; cases hd''; have hl1 : kvs.length = es.toList.length := Paired.length hp; have hl2 : kvs'.length = es.toList.length := Paired.length hp''
    have hi : i < kvs'.length := by
      have := (List.getElem?_eq_some_iff.mp hx).1; omega
    obtain ⟨e2,he2,_,rk2,_⟩ := zeA hp'' (List.getElem?_eq_getElem hi); rw [he] at he2; cases he2; exact ⟨_,List.getElem?_eq_getElem hi,rk.inj rk2⟩
  done := by
    intro X hP hw hK hc i pins s σ H E I hf st hg; subst hP hw hK; obtain ⟨kvs,D,hx⟩ := hg; obtain ⟨es',ep',hd',hp⟩ := D.2.2.2.1; rw [hd] at hd'; cases hd'; obtain ⟨f0,f1,f2,f3,f4,f5⟩ := hf it (by simp)
    have hl := Paired.length hp; exact HT.next_end (I.ok.hd hc) st (zcn I D) hd (by rw [<- Array.length_toList]; omega) fun h' eb => ⟨rfl,I.turned (t' := s.toks) (fun b o hb e => eb b o hb e) f0 f1 f3 f4 f5⟩
  self := fun A i s Q E st h => by
    have hT := st.typeIs; refine wpAny_pyIter_slot hT PySem.F.slot_dict_keyiterator_iter (wpAny_call_entry PySem.F.slot_dict_keyiterator_iter hT PySem.F.entry_dict_keyiterator_iter ?_ (PySem.F.args_dict_keyiterator_iter_1 _)); show wpAny _ _ (ret (.ref it)) _ _ s; exact wpAny_pure ⟨_,rfl,"dict_keyiterator",_,hT,PySem.F.slot_dict_keyiterator_next.lookup,h⟩
def iSD (P : Program) (w : World) (K : Fg) (tl : TE) : TI := fun σ H R => tl σ H fun x H1 => ∃ d o kvs,x = .ref d /\ SDict P w K H1 d o kvs /\ R (Itd P w K d o) H1
section
variable {X : Cx} {tg : Expr}
theorem zjS {l : Expr} {tl : TE} (hl : PE X l tl) : PI X tg l (iSD X.prog X.w X.K tl) := by
  intro pins s σ H R I h; refine thn (hl pins s σ H _ I h) fun v s1 ⟨x,H1,I1,r1,q1⟩ => ?_; obtain ⟨d,o,kvs,e,D,q⟩ := q1; subst e; cases r1; obtain ⟨es,ep,hd,hp⟩ := D.2.2.2.1; refine HT.iter_keys D.2.1 (zcn I1 D) D.2.2.1 hd ?_; refine ⟨s1.heap.objs.size,[s1.heap.objs.size],_,_,H1,rfl,I1.kept (t' := s1.toks) fun b o e => Heap.get?_push_of_some _ e,zmZ d _ o es ep hd,⟨_,Heap.get?_push_size _ rfl,rfl,rfl⟩,fun b hb => ?_,q⟩; have e : b = s1.heap.objs.size := by simpa using hb
  subst e; exact I1.fpOk (Nat.le_refl _) (I1.hok.fresh (Nat.le_refl _))
end
theorem zhL {P : Program} {w : World} {K : Fg} {d : Addr} {o : Obj} {kvs : List (TK × V × V)} {g : TG} {tb : TS} {D : zfn} {σ : St} {H : Hp} (Pv : Nat -> St -> Hp -> Prop) (h0 : Pv 0 σ H) (hl : ∀ i σ H,i <= kvs.length -> Pv i σ H -> SDict P w K H d o kvs)
    (hs : ∀ i p σ H,kvs[i]? = some p -> Pv i σ H -> g p.2.1 σ H fun σ2 H2 => tb { D with nx := Pv (i + 1),ct := Pv (i + 1),bk := D.nx } σ2 H2) (hd : ∀ σ H,Pv kvs.length σ H -> D.nx σ H) :
    ∃ W : Nat -> Nat -> St -> Hp -> Prop,(∃ m,W 0 m σ H) /\ ∀ i m σ H,W i m σ H →
      ((Itd P w K d o).stop i H /\ D.nx σ H) \/ ((Itd P w K d o).go i H /\ ∃ N : St -> Hp -> Prop,(∀ σ' H',N σ' H' -> ∃ m',m' < m /\ W (i + 1) m' σ' H') /\ ∀ x H',(Itd P w K d o).yld i H x H' -> g x σ H' fun σ2 H2 => tb { D with nx := N,ct := N,bk := D.nx } σ2 H2) := by
  refine ⟨fun i m σ H => m = kvs.length - i /\ i <= kvs.length /\ Pv i σ H,⟨kvs.length,by simp,Nat.zero_le _,h0⟩,?_⟩
  rintro i m σ H ⟨rfl,hi,p⟩; have hq := hl i σ H hi p
  by_cases hlt : i < kvs.length
  . refine .inr ⟨⟨kvs,kvs[i],hq,List.getElem?_eq_getElem hlt⟩,fun σ' H' => Pv (i + 1) σ' H',fun σ' H' p' => ⟨kvs.length - (i + 1),by omega,rfl,by omega,p'⟩,?_⟩
    rintro x H' ⟨e,hy⟩; subst e; obtain ⟨q,hq2,rfl⟩ := hy kvs hq; exact hs i _ σ _ hq2 p
  . have e : i = kvs.length := by omega
    subst e; exact .inl ⟨⟨kvs,hq,Nat.le_refl _⟩,hd σ H p⟩
theorem zoA {P : Program} {w : World} {K : Fg} {d : Addr} {o : Obj} {kvs : List (TK × V × V)} {idx : List Nat} {te : TE} {σ : St} {H : Hp} {Q : VK} (Iv : Addr -> Nat -> List V -> Hp -> Prop)
    (h0 : ∀ D,H D = none -> Iv D 0 [] (upd H D (.lst []))) (hD : ∀ D i ys H',Iv D i ys H' -> H' D = some (.lst ys) /\ ys.length = i /\ SDict P w K H' d o kvs)
    (he : ∀ D (i : Nat) p ys H' (R : VK),H D = none -> kvs[i]? = some p -> Iv D i ys H' -> (∀ v H4,H4 D = some (.lst ys) -> Iv D (i + 1) (ys ++ [v]) (upd H4 D (.lst (ys ++ [v]))) -> R v H4) -> te (some p.2.1 :: cap σ idx) H' R)
    (hQ : ∀ D ys H',H D = none -> Iv D kvs.length ys H' -> Q (.ref D) H') : LCW idx (Itd P w K d o) (zcL 0) zlM te Q σ H := by
  intro D hn; refine ⟨fun i m ys ρ H' => m = kvs.length - i /\ i <= kvs.length /\ (∃ y0,ρ = y0 :: cap σ idx) /\ Iv D i ys H',⟨kvs.length,by simp,Nat.zero_le _,⟨none,rfl⟩,h0 D hn⟩,?_⟩
  rintro i m ys ρ H' ⟨rfl,hi,⟨y0,rfl⟩,hv⟩; obtain ⟨d1,d2,d3⟩ := hD D i ys H' hv; have hk1 := d3.2.2.2.2.2; have hsz : sizeLine = 16777216 := sizeLine_eq; refine ⟨d1,?_⟩
  by_cases hlt : i < kvs.length
  . refine .inr ⟨⟨kvs,kvs[i],d3,List.getElem?_eq_getElem hlt⟩,by omega,fun x H2 y => ?_⟩
    obtain ⟨e,y⟩ := y; subst e; obtain ⟨q,hq2,rfl⟩ := y kvs d3; exact he D i q ys _ _ hn hq2 hv fun v H4 h1 h2 => ⟨h1,kvs.length - (i + 1),by omega,rfl,hlt,⟨_,rfl⟩,h2⟩
  . have e : i = kvs.length := by omega
    subst e; exact .inl ⟨⟨kvs,d3,Nat.le_refl _⟩,hQ D ys H' hn hv⟩
def Itv (K : Fg) (a : Addr) (n : Nat) : It :=
  ⟨fun i H => i < n /\ ∃ xs x,SqL K H a xs /\ xs[n - 1 - i]? = some x,fun i H x H' => H' = H /\ ∀ xs,SqL K H a xs -> xs[n - 1 - i]? = some x,fun i H => i = n⟩
theorem zmg {P : Program} {w : World} {K : Fg} {tg : Expr} (a it : Addr) (n : Nat) : zjh P w K tg (Itv K a n) [it] it (fun i h => h.IsRevIter it a ((n : Int) - 1 - (i : Int))) where
  mem := by simp
  obj := fun i h st b hb => by
    have e : b = it := by simpa using hb
    subst e; obtain ⟨o,e,c,d⟩ := st; exact ⟨o,e,fun v z => by rw [d] at z; cases z⟩
  keep := fun i h h' st k => st.at fun o e => k it (by simp) o e
  item := by
    intro X hP hw hK hc i pins s σ H E I hf st hg; subst hP hw hK; obtain ⟨hin,xs,x,hq,hx⟩ := hg; obtain ⟨its,rv,p,hz⟩ := I.list hq; obtain ⟨u,hu,ru⟩ := rv.get hx; obtain ⟨f0,f1,f2,f3,f4,f5⟩ := hf it (by simp)
    have e1 : (n : Int) - 1 - (i : Int) = ((n - 1 - i : Nat) : Int) := by omega
    rw [e1] at st; refine wpAny_pyNext_rev_item st p.isList (x := u) (by simpa using hu) fun h' st' sb => ?_
    have I1 : Inv X pins σ H { s with heap := h' } := I.turned (t' := s.toks) (fun b o hb e => (sb.2 b hb).trans e) f0 f1 f3 f4 f5
    have e2 : ((n - 1 - i : Nat) : Int) - 1 = (n : Int) - 1 - ((i + 1 : Nat) : Int) := by omega
    rw [e2] at st'; obtain ⟨o,e,c,d⟩ := id st'; exact ⟨u,rfl,zjP (s := { s with heap := h' }) e c d (by decide) ⟨x,H,I1,ru,⟨rfl,fun ys hy => by rw [I.list_inj hy hq]; exact hx⟩,st',fun b hb => (hf b hb).1⟩⟩
  done := by
    intro X hP hw hK hc i pins s σ H E I hf st hg; subst hP hw hK; obtain ⟨f0,f1,f2,f3,f4,f5⟩ := hf it (by simp)
    have hg' : i = n := hg; have e1 : (n : Int) - 1 - (i : Int) = -1 := by omega
    rw [e1] at st; exact wpAny_pyNext_rev_end (I.ok.hd hc) st fun h' eb => ⟨rfl,I.turned (t' := s.toks) (fun b o hb e => eb b o hb e) f0 f1 f3 f4 f5⟩
  self := fun _ _ _ _ _ st h => wpAny_pyIter_revIter st h
def zqe (K : Fg) (ta : TA) : TI := fun σ H R => ta σ H fun vs H1 => ∃ a xs,vs = [.ref a] /\ SqL K H1 a xs /\ R (Itv K a xs.length) H1
section
variable {X : Cx} {tg : Expr}
theorem zoR {a : Expr} {ta : TA} {p pos : Pos} (hg : Gl X "reversed") (hm : X.mg "reversed" = none) (ha : PA X [a] ta) (hs : starEach [a] X.env = [(false,eval a X.env)] := by rfl) :
    PI X tg (.Call (.Name "reversed" p) [a] [] pos) (zqe X.K ta) := by
  intro pins s σ H R I h; refine Call_ (zdY I hg hm boot_reversed (PyProof.Rows.callWith_type1 (thn (ha pos pins s σ H _ I h) fun us s1 ⟨vs,H1,I1,r1,q1⟩ => ?_) hs rfl)); obtain ⟨l,xs,e,hq,q⟩ := q1; subst e
  cases r1 with
  | cons r rr =>
    cases rr; cases r; obtain ⟨its,rv,pl,hz⟩ := I1.list hq; have hlen := rv.length; refine call_reversed_list pl.isList ?_
    have hit : (s1.heap.push (revObj l ((its.toArray.size : Int) - 1))).IsRevIter s1.heap.objs.size l ((xs.length : Int) - 1 - ((0 : Nat) : Int)) := ⟨_,Heap.get?_push_size _ rfl,rfl,by
      have e : (xs.length : Int) - 1 - ((0 : Nat) : Int) = (its.toArray.size : Int) - 1 := by rw [List.size_toArray]; omega
      rw [e]
      rfl⟩
    refine wpAny_pyIter_revIter (s := { s1 with heap := s1.heap.push (revObj l ((its.toArray.size : Int) - 1)) }) hit ⟨s1.heap.objs.size,[s1.heap.objs.size],_,_,H1,rfl,I1.kept (t' := s1.toks) fun b o e => Heap.get?_push_of_some _ e,zmg l _ xs.length,hit,fun b hb => ?_,q⟩
    have e : b = s1.heap.objs.size := by simpa using hb
    subst e; exact I1.fpOk (Nat.le_refl _) (I1.hok.fresh (Nat.le_refl _))
end
theorem znf {K : Fg} {a : Addr} {xs : List V} {g : TG} {tb : TS} {D : zfn} {σ : St} {H : Hp} (Pv : Nat -> St -> Hp -> Prop) (h0 : Pv 0 σ H) (hl : ∀ i σ H,i <= xs.length -> Pv i σ H -> SqL K H a xs)
    (hs : ∀ i x σ H,i < xs.length -> xs[xs.length - 1 - i]? = some x -> Pv i σ H -> g x σ H fun σ2 H2 => tb { D with nx := Pv (i + 1),ct := Pv (i + 1),bk := D.nx } σ2 H2) (hd : ∀ σ H,Pv xs.length σ H -> D.nx σ H) :
    ∃ W : Nat -> Nat -> St -> Hp -> Prop,(∃ m,W 0 m σ H) /\ ∀ i m σ H,W i m σ H →
      ((Itv K a xs.length).stop i H /\ D.nx σ H) \/ ((Itv K a xs.length).go i H /\ ∃ N : St -> Hp -> Prop,(∀ σ' H',N σ' H' -> ∃ m',m' < m /\ W (i + 1) m' σ' H') /\ ∀ x H',(Itv K a xs.length).yld i H x H' -> g x σ H' fun σ2 H2 => tb { D with nx := N,ct := N,bk := D.nx } σ2 H2) := by
  refine ⟨fun i m σ H => m = xs.length - i /\ i <= xs.length /\ Pv i σ H,⟨xs.length,by simp,Nat.zero_le _,h0⟩,?_⟩
  rintro i m σ H ⟨rfl,hi,p⟩; have hq := hl i σ H hi p
  by_cases hlt : i < xs.length
  . have hx : xs[xs.length - 1 - i]? = some (xs[xs.length - 1 - i]'(by omega)) := List.getElem?_eq_getElem _
    refine .inr ⟨⟨hlt,xs,_,hq,hx⟩,fun σ' H' => Pv (i + 1) σ' H',fun σ' H' p' => ⟨xs.length - (i + 1),by omega,rfl,by omega,p'⟩,?_⟩
    rintro x H' ⟨e,hy⟩; subst e; exact hs i x σ _ hlt (hy xs hq) p
  . have e : i = xs.length := by omega
    subst e; exact .inl ⟨rfl,hd σ H p⟩
open PySem PySem.Spec PyProof.Rows PySem.W
def zbJ {α : Type} (c : Nat -> Nat -> Bool) : KasT α -> α
  | .ret a => a
  | .ask i j k => zbJ c (k (c i j))
theorem zbL {α β : Type} (c : Nat -> Nat -> Bool) (f : α -> KasT β) : ∀ t : KasT α,zbJ c (t.bind f) = zbJ c (f (zbJ c t))
  | .ret _ => rfl
  | .ask i j k => zbL c f (k (c i j))
theorem KOut.run {α : Type} {N : Nat} {P : α -> Prop} {c : Nat -> Nat -> Bool} {cmp : Nat -> Nat -> (Bool -> Shared -> Prop) -> Shared -> Prop} {s : Shared} {Q : α -> Shared -> Prop} (hc : ∀ i j C,i < N -> j < N -> C (c i j) s -> cmp i j C s) :
    ∀ t : KasT α,KOut N P t -> (P (zbJ c t) -> Q (zbJ c t) s) -> t.kasWp cmp Q s
  | .ret a,h,q => q h
  | .ask i j k,h,q => hc i j _ h.1 h.2.1 (KOut.run hc (k (c i j)) (h.2.2 _) q)
theorem ze0 {N n : Nat} (h : n < N) : (List.range N).toArray.getD n 0 = n := by
  simp [Array.getD,h]
section
variable {N : Nat} {c : Nat -> Nat -> Bool}
theorem zjQ (hc : ∀ i j,i < N -> j < N -> c i j = decide (i < j)) : ∀ f n,1 <= n -> n + f <= N -> zbJ c (kas_asc (List.range N).toArray f n) = n + f
  | 0,n,_,_ => rfl
  | f + 1,n,h1,h2 => by
    show zbJ c (if c ((List.range N).toArray.getD n 0) ((List.range N).toArray.getD (n - 1) 0) = true then _ else _) = _; rw [ze0 (show n < N by omega),ze0 (show n - 1 < N by omega),hc n (n - 1) (by omega) (by omega),decide_eq_false (by omega),if_neg fnt,zjQ hc f (n + 1) (by omega) (by omega)]
    omega
theorem zoB (h0 : 0 < N) (hc : ∀ i j,i < N -> j < N -> c i j = decide (i < j)) : zbJ c (kas_sort N) = (List.range N).toArray := by
  have e : zbJ c (kas_count N (List.range N).toArray) = (N,(List.range N).toArray) := by
    unfold kas_count; rw [zbL,zjQ hc (N - 1) 1 (Nat.le_refl _) (by omega),show 1 + (N - 1) = N by omega,if_pos (by simp)]
    rfl
  unfold kas_sort; rw [zbL,e]; show zbJ c (if N < N then _ else .ret (List.range N).toArray) = _; rw [if_neg (Nat.lt_irrefl _)]
  rfl
theorem zil (hc : ∀ i j,i < N -> j < N -> c i j = decide (j < i)) : ∀ f n,1 <= n -> n + f <= N -> zbJ c (kas_desc f (List.range N).toArray n 0) = ((List.range N).toArray,n + f,0)
  | 0,n,_,_ => rfl
  | f + 1,n,h1,h2 => by
    show zbJ c (if c ((List.range N).toArray.getD n 0) ((List.range N).toArray.getD (n - 1) 0) = true then (if 0 > 0 then _ else _) else _) = _; rw [ze0 (show n < N by omega),ze0 (show n - 1 < N by omega),hc n (n - 1) (by omega) (by omega),decide_eq_true (show n - 1 < n by omega),if_pos rfl,if_neg (Nat.lt_irrefl _),zil hc f (n + 1) (by omega) (by omega)]
    congr 2; omega
theorem znc (N : Nat) : kas_rev (List.range N).toArray 0 N = (List.range N).reverse.toArray := by
  apply Array.ext_getElem?; intro k; unfold kas_rev; rw [getElem?_mirror_all (by simp)]
  by_cases hk : k < N
  . rw [if_pos ⟨Nat.zero_le _,hk⟩]; simp only [List.getElem?_toArray]; rw [List.getElem?_reverse (by simpa using hk),List.length_range]
    congr 1; omega
  . rw [if_neg (by omega)]
    simp only [List.getElem?_toArray]; rw [List.getElem?_eq_none (by simpa using hk),List.getElem?_eq_none (by simpa using hk)]
theorem zmD (h0 : 2 <= N) (hc : ∀ i j,i < N -> j < N -> c i j = decide (j < i)) : zbJ c (kas_sort N) = (List.range N).reverse.toArray := by
  have e1 : zbJ c (kas_asc (List.range N).toArray (N - 1) 1) = 1 := by
    obtain ⟨m,hm⟩ : ∃ m,N - 1 = m + 1 := ⟨N - 2,by omega⟩
    rw [hm]; show zbJ c (if c ((List.range N).toArray.getD 1 0) ((List.range N).toArray.getD 0 0) = true then _ else _) = _; rw [ze0 (show 1 < N by omega),ze0 (show 0 < N by omega),hc 1 0 (by omega) (by omega),decide_eq_true (by omega),if_pos rfl]
    rfl
  have e2 : zbJ c (kas_descPart 1 N (List.range N).toArray) = (N,(List.range N).reverse.toArray) := by
    unfold kas_descPart; rw [zbL,zil hc (N - (1 + 1)) (1 + 1) (by omega) (by omega),show 1 + 1 + (N - (1 + 1)) = N by omega]
    show zbJ c (if 0 > 0 then _ else kas_tail3 N N (List.range N).toArray) = _; rw [if_neg (Nat.lt_irrefl _)]; unfold kas_tail3; rw [zbL,Nat.sub_self,znc]
    rfl
  have e3 : zbJ c (kas_count N (List.range N).toArray) = (N,(List.range N).reverse.toArray) := by
    unfold kas_count; rw [zbL,e1,if_neg (by simp; omega),if_neg (Nat.lt_irrefl _),e2]
  unfold kas_sort; rw [zbL,e3]; show zbJ c (if N < N then _ else .ret (List.range N).reverse.toArray) = _; rw [if_neg (Nat.lt_irrefl _)]
  rfl
end
section
variable {prog : Program} {w : World} {A : Around} {E : Value -> Shared -> Prop} {s : Shared}
def zgb (h : Heap) (v : Value) (x y : Int) : Prop := ∃ a t u n o,v = .ref a /\ h.get? a = some o /\ o.cls = .type "tuple" /\ o.data = .seq #[.int x t,.int y u] n
def zfQ (p q : Int × Int) : Bool := if p.1 = q.1 then (if p.2 = q.2 then false else decide (p.2 < q.2)) else decide (p.1 < q.1)
theorem zmH {v u : Value} {x y x' y' : Int} {C : Bool -> Shared -> Prop} (hv : zgb s.heap v x y) (hu : zgb s.heap u x' y') (h : C (zfQ (x,y) (x',y')) s) : wpAny (model prog w) A (keyLt' (tuples' true) v u) C E s := by
  obtain ⟨a,t1,t2,n,o,rfl,ho,hc,hd⟩ := hv; obtain ⟨a',t1',t2',n',o',rfl,ho',hc',hd'⟩ := hu; unfold zfQ at h; refine kat_lt ho hd ho' hd' ?_; refine kat_cons (wpAny_eqBool_int (kat_go (fun e1 => kat_yes ?_) fun e1 => kat_no ?_))
  . have e1' : x = x' := by simpa using e1
    rw [if_pos e1'] at h; refine kat_cons (wpAny_eqBool_int (kat_go (fun e2 => kat_yes (kat_nil ?_)) fun e2 => kat_no ?_))
    . have e2' : y = y' := by simpa using e2
      rw [if_pos e2'] at h; exact h
    . have e2' : ¬ y = y' := by simpa using e2
      rw [if_neg e2'] at h; exact kat_one _ _ (lt_int h)
  . have e1' : ¬ x = x' := by simpa using e1
    rw [if_neg e1'] at h; exact oneLt_int h
def zaH (xs : List (Int × Int)) (i : Nat) : Int × Int := xs.getD i (0,0)
theorem zms {a : Addr} {vs : List Value} {xs : List (Int × Int)} {n : Nat} {P : PySem.Fin -> Shared -> Prop} (ho : s.heap.get? a = some (seqObj "list" vs.toArray n)) (hl : xs.length = vs.length) (hp : ∀ (i : Nat) v,vs[i]? = some v -> zgb s.heap v (zaH xs i).1 (zaH xs i).2) (h64 : vs.length < 64)
    (hnl : ∀ v ∈ vs,v ≠ .ref a) (h : ∀ out : List Value,out = ((zbJ (fun i j => zfQ (zaH xs i) (zaH xs j)) (kas_sort vs.length)).toList.map fun i => vs.getD i Value.none) -> P (.done (.ret .none)) { s with heap := sortedHeap s.heap a vs out.toArray }) :
    wpAny (model prog w) A (Builtin.«list.sort» ⟨[.ref a],[]⟩) P E s := by
  rw [list_sort_plain]; have ha : a < s.heap.objs.size := Heap.lt_size ho; refine wpAny_bind (listItems_at ho rfl ?_); refine wpAny_bind (listUpdate_at ho rfl ?_); obtain ⟨e1,ho1⟩ : ∃ e1,(s.heap.update a (Obj.mapSeq fun _ => #[])).get? a = some (seqObj "list" #[] e1) := ⟨_,get?_update_seq ho (fun _ => #[])⟩; refine wpAny_bind (seqEpoch_at ho1 rfl ?_); refine wpAny_bind (wpAny_newTuple ?_); refine wpAny_bind (wpAny_newList ?_); refine wpAny_holding ?_
  have ho6 : (((s.heap.update a (Obj.mapSeq fun _ => #[])).push (seqObj "tuple" vs.toArray 0)).push (seqObj "list" #[] 0)).get? a = some (seqObj "list" #[] e1) := by
    rw [Heap.get?_push_ne _ _ _ (by rw [size_push',Heap.size_update]; exact Nat.ne_of_lt (Nat.lt_succ_of_lt ha)),Heap.get?_push_ne _ _ _ (by rw [Heap.size_update]; exact Nat.ne_of_lt ha)]
    exact ho1
  have keep : ∀ b o,b ≠ a -> s.heap.get? b = some o -> (((s.heap.update a (Obj.mapSeq fun _ => #[])).push (seqObj "tuple" vs.toArray 0)).push (seqObj "list" #[] 0)).get? b = some o := fun b o hb q => by
    have hlt : b < s.heap.objs.size := Heap.lt_size q; rw [Heap.get?_push_ne _ _ _ (by rw [size_push',Heap.size_update]; exact Nat.ne_of_lt (Nat.lt_succ_of_lt hlt)),Heap.get?_push_ne _ _ _ (by rw [Heap.size_update]; exact Nat.ne_of_lt hlt),Heap.get?_update_ne _ _ _ _ hb]
    exact q
  have hp6 : ∀ (i : Nat) v,vs[i]? = some v -> zgb (((s.heap.update a (Obj.mapSeq fun _ => #[])).push (seqObj "tuple" vs.toArray 0)).push (seqObj "list" #[] 0)) v (zaH xs i).1 (zaH xs i).2 := fun i v hv => by
    obtain ⟨c,t1,t2,n,o,e,hc,r⟩ := hp i v hv; exact ⟨c,t1,t2,n,o,e,keep c o (fun z => hnl _ (List.mem_of_getElem? hv) (by rw [e,z])) hc,r⟩
  show wpAny (model prog w) A _ P E { s with heap := ((s.heap.update a (Obj.mapSeq fun _ => #[])).push (seqObj "tuple" vs.toArray 0)).push (seqObj "list" #[] 0) }
  dsimp only; have hsz : vs.toArray.size = vs.length := by simp
  by_cases h2 : vs.toArray.size < 2
  . rw [if_pos h2,if_pos h2]; refine wpAny_bind (wpAny_pure ?_); rw [StateT.run_pure]; refine wpAny_bind (wpAny_pure ?_); dsimp only; refine wpAny_bind (seqEpoch_at ho6 rfl ?_); refine wpAny_bind (listUpdate_at ho6 rfl ?_ (hsz2 := by rw [Array.size_map]; show (pairsOf vs).size <= _; rw [pairsOf_size,sizeLine_eq]; omega))
    simp only [bne_self_eq_false,Bool.false_eq_true,if_false]; refine wpAny_pure ?_
    have e : ((vs.toArray.zip vs.toArray).map (·.2)) = vs.toArray := by
      apply Array.toList_inj.mp; rw [Array.toList_map,Array.toList_zip]; exact List.map_snd_zip (Nat.le_refl _)
    have e3 : ((zbJ (fun i j => zfQ (zaH xs i) (zaH xs j)) (kas_sort vs.length)).toList.map fun i => vs.getD i Value.none) = vs := by
      clear h hp6 keep ho6 ho1 ho hp hnl e hl
      match vs,hsz,h2 with
      | [],_,_ => rfl
      | [v],_,_ => rfl
      | _ :: _ :: _,_,h2 => exact absurd h2 (by simp)
    have h' := h _ e3.symm; rw [<- e] at h'; exact h'
  . rw [if_neg h2,if_neg h2]
    have hp7 : ∀ v ∈ vs,znW (((s.heap.update a (Obj.mapSeq fun _ => #[])).push (seqObj "tuple" vs.toArray 0)).push (seqObj "list" #[] 0)) v := fun v hv => by
      obtain ⟨i,hi⟩ := List.getElem?_of_mem hv; obtain ⟨c,t1,t2,n,o,e,r⟩ := hp6 i v hi; exact ⟨c,_,_,t1,t2,n,o,e,r⟩
    obtain ⟨fs,t1,t2,t3⟩ := zjT (s := { s with heap := ((s.heap.update a (Obj.mapSeq fun _ => #[])).push (seqObj "tuple" vs.toArray 0)).push (seqObj "list" #[] 0) }) vs hp7
    refine wpAny_bind (kat_kind (T := .type "int") t1 (by omega) (fun v hv => by obtain ⟨i,t,rfl⟩ := t3 v hv; exact Looks.of_pure rfl) (by decide) ?_)
    refine wpAny_bind (wpAny_mono (kat_run (ks := vs) (vs := vs) (Q := fun st' s' => s' = { s with heap := ((s.heap.update a (Obj.mapSeq fun _ => #[])).push (seqObj "tuple" vs.toArray 0)).push (seqObj "list" #[] 0) } /\ failedOf st' = none /\ ∃ p : Array Nat,p = zbJ (fun i j => zfQ (zaH xs i) (zaH xs j)) (kas_sort vs.length) /\ Rr vs.length p /\ (arrOf st').map (·.2) = (p.toList.map fun i => vs.getD i Value.none).toArray)
      rfl (by omega) h64 (G := fun p s' => s' = { s with heap := ((s.heap.update a (Obj.mapSeq fun _ => #[])).push (seqObj "tuple" vs.toArray 0)).push (seqObj "list" #[] 0) } /\ p = zbJ (fun i j => zfQ (zaH xs i) (zaH xs j)) (kas_sort vs.length) /\ Rr vs.length p) (fun p st' s' _ har hf hg => ⟨hg.1,hf,p,hg.2.1,hg.2.2,kat_snds rfl har⟩)
      (KOut.run (N := vs.length) (P := fun p => Rr vs.length p) (c := fun i j => zfQ (zaH xs i) (zaH xs j)) (fun i j C hi hj hC => ?_) _ (zmE (by omega)) fun hp => ⟨rfl,rfl,hp⟩)) ?_ fun _ _ e => e)
    . have g1 : vs[i]? = some (vs.getD i Value.none) := by rw [List.getD_eq_getElem?_getD,List.getElem?_eq_getElem hi]; rfl
      have g2 : vs[j]? = some (vs.getD j Value.none) := by rw [List.getD_eq_getElem?_getD,List.getElem?_eq_getElem hj]; rfl
      exact zmH (hp6 _ _ g1) (hp6 _ _ g2) hC
    . rintro ⟨⟨⟩,st'⟩ s' ⟨rfl,hf,p,hpe,hpr,hout⟩; dsimp only; have hsz2 : p.size = vs.length := by have := hpr.length_eq; simpa using this
      refine wpAny_bind (seqEpoch_at ho6 rfl ?_); refine wpAny_bind (listUpdate_at ho6 rfl ?_ (hsz2 := by rw [hout,List.size_toArray,List.length_map,Array.length_toList,hsz2,sizeLine_eq]; omega))
      rw [hf]; simp only [bne_self_eq_false,Bool.false_eq_true,if_false]; refine wpAny_pure ?_; rw [hout,hpe]; exact h _ rfl
end
theorem zjK (c : Nat -> Nat -> Bool) {its : List Value} (h : ¬ 2 <= its.length) : ((zbJ c (kas_sort its.length)).toList.map fun i => its.getD i Value.none) = its := by
  match its,h with
  | [],_ => rfl
  | [v],_ => rfl
  | _ :: _ :: _,h => exact absurd (by simp) h
theorem zkU {α : Type} {l : List α} (h : ¬ 2 <= l.length) : l.reverse = l := by
  match l,h with
  | [],_ => rfl
  | [v],_ => rfl
  | _ :: _ :: _,h => exact absurd (by simp) h
theorem zd2 {α : Type} (vs : List α) (d : α) : (List.range vs.length).map (fun i => vs.getD i d) = vs := by
  refine List.ext_getElem (by simp) fun i h1 h2 => ?_
  simp [List.getD_eq_getElem?_getD,List.getElem?_eq_getElem h2]
section
variable {X : Cx}
theorem zhV : zbH X (.builtin "sorted") (fun us H Q => ∃ (p : Addr) (vs : List V) (xs : List (Int × Int)),us = [.ref p] /\ H p = some (.lst vs) /\ vs.length < 64 /\ xs.length = vs.length /\ (∀ (i : Nat) v,vs[i]? = some v -> ∃ t,v = .ref t /\ H t = some (.tup [.int (zaH xs i).1,.int (zaH xs i).2])) ∧
    (((∀ i j,i < j -> j < xs.length -> (zaH xs i).1 < (zaH xs j).1) /\ ∀ (l : Addr),H l = none -> Q (.ref l) (upd H l (.lst vs))) ∨
      ((∀ i j,i < j -> j < xs.length -> (zaH xs j).1 < (zaH xs i).1) /\ ∀ (l : Addr),H l = none -> Q (.ref l) (upd H l (.lst vs.reverse))))) := by
  intro pins s σ H us vsv Q I r h; obtain ⟨p,vs,xs,rfl,hp,h64,hxl,hv,q⟩ := h; obtain ⟨u,rfl,ru⟩ := zc4 r
  cases (show u = Value.ref p from ru)
  obtain ⟨its,rv,pl,hz⟩ := I.list (SqL.of (K := X.K) hp); have hlen : its.length = vs.length := by have := rv.length; omega
  have hsz : sizeLine = 16777216 := sizeLine_eq; have hl := pl.isList
  have hpr : ∀ (i : Nat) u,its[i]? = some u -> zgb s.heap u (zaH xs i).1 (zaH xs i).2 := fun i u hu => by
    obtain ⟨v,hvi,hru⟩ := rv.get' hu; obtain ⟨t,rfl,ht⟩ := hv i v hvi
    cases (show u = Value.ref t from hru)
    obtain ⟨its2,r2,⟨⟨cls,dd,data,sl⟩,ho,hc,n,hd⟩,_⟩ := I.tuple (SqT.of (K := X.K) ht); obtain ⟨u1,u2,e,q1,q2⟩ := zim r2; obtain ⟨t1,rfl⟩ := (show ∃ t1,u1 = Value.int _ t1 from q1); obtain ⟨t2,rfl⟩ := (show ∃ t2,u2 = Value.int _ t2 from q2); exact ⟨t,t1,t2,n,_,rfl,ho,hc,by rw [hd,e]⟩
  refine Calls.call_function_entry kind_sorted plain_sorted entry_sorted (args_sorted1 _) ?_; unfold Builtin.«sorted»; refine wpAny_bind (m := checkCount "sorted" 1 1 _) (wpAny_pure ?_); refine wpAny_bind (collect_list hl ?_); refine wpAny_bind (wpAny_newList ?_)
  have hsz2 : ((s.heap.push (seqObj "list" #[] 0)).update s.heap.objs.size (Obj.mapSeq (· ++ its.toArray))).objs.size = s.heap.objs.size + 1 := by
    rw [Heap.size_update,size_push']
  have hoL : (((s.heap.push (seqObj "list" #[] 0)).update s.heap.objs.size (Obj.mapSeq (· ++ its.toArray))).push (seqObj "list" its.toArray 0)).get? (s.heap.objs.size + 1) = some (seqObj "list" its.toArray 0) := by
    rw [<- hsz2]; exact Heap.get?_push_size _ rfl
  have keep : ∀ b o,s.heap.get? b = some o -> (((s.heap.push (seqObj "list" #[] 0)).update s.heap.objs.size (Obj.mapSeq (· ++ its.toArray))).push (seqObj "list" its.toArray 0)).get? b = some o := fun b o q => by
    have hlt : b < s.heap.objs.size := Heap.lt_size q; rw [Heap.get?_push_ne _ _ _ (by rw [hsz2]; exact Nat.ne_of_lt (Nat.lt_succ_of_lt hlt)),Heap.get?_update_ne _ _ _ _ (Nat.ne_of_lt hlt),Heap.get?_push_ne _ _ _ (Nat.ne_of_lt hlt)]
    exact q
  show wpAny _ _ _ _ _ { s with heap := ((s.heap.push (seqObj "list" #[] 0)).update s.heap.objs.size (Obj.mapSeq (· ++ its.toArray))).push (seqObj "list" its.toArray 0) }
  rw [hsz2]
  have fin : ∀ out : List Value,(∃ ys : List V,Vals ys out /\ ys.length <= sizeLine /\ ∀ l,H l = none -> Q (.ref l) (upd H l (.lst ys))) -> EP X pins σ Q (.ref (s.heap.objs.size + 1)) { s with heap := sortedAll s.heap its out.toArray } := by
    rintro out ⟨ys,hvy,hyl,hq⟩; obtain ⟨e,he⟩ := sortedAll_at s.heap its out.toArray; exact ⟨.ref _,_,I.laid (a := s.heap.objs.size + 1) (t' := s.toks) (fun b o e => sortedAll_old e) (Nat.le_succ _) (show ObjOk X.prog X.w _ _ _ (.lst ys) from ⟨hyl,out,e,hvy,he⟩),rfl,hq _ (I.hok.fresh (Nat.le_succ _))⟩
  refine wpAny_bind (wpAny_holding (wpAny_call_entry slot_list_sort ⟨_,hoL,rfl⟩ entry_list_sort (zms (xs := xs) hoL (by omega) (fun i u hu => ?_) (by omega) (fun u hu z => ?_) fun out hout => ⟨_,rfl,?_⟩) (args_list_sort _)))
  . obtain ⟨c,t1,t2,n,o,e,hc,r⟩ := hpr i u hu; exact ⟨c,t1,t2,n,o,e,keep c o hc,r⟩
  . obtain ⟨i,hi⟩ := List.getElem?_of_mem hu; obtain ⟨c,t1,t2,n,o,e,hc,r⟩ := hpr i u hi; rw [e] at z; have h1 := Heap.lt_size hc; have h2 := Value.ref.inj z; rw [h2] at h1; exact Nat.lt_irrefl _ (Nat.lt_trans (Nat.lt_succ_self _) h1)
  . refine wpAny_pure ⟨_,rfl,fin out ?_⟩; rw [hout]; clear hout
    rcases q with ⟨hup,q⟩ | ⟨hdn,q⟩
    . by_cases h0 : 0 < its.length
      . have e : zbJ (fun i j => zfQ (zaH xs i) (zaH xs j)) (kas_sort its.length) = (List.range its.length).toArray := zoB h0 fun i j hi hj => by
          unfold zfQ
          rcases Nat.lt_trichotomy i j with hij | hij | hij
          . have := hup i j hij (by omega)
            rw [if_neg (by omega),decide_eq_true this,decide_eq_true hij]
          . subst hij; rw [if_pos rfl,if_pos rfl,decide_eq_false (Nat.lt_irrefl _)]
          . have := hup j i hij (by omega)
            rw [if_neg (by omega),decide_eq_false (by omega),decide_eq_false (by omega)]
        rw [e]; exact ⟨vs,by show Vals vs ((List.range its.length).map fun i => its.getD i Value.none); rw [zd2]; exact rv,by omega,q⟩
      . have e0 : its = [] := List.length_eq_zero_iff.mp (by omega)
        have e1 : vs = [] := List.length_eq_zero_iff.mp (by omega)
        subst e0 e1; exact ⟨[],.nil,Nat.zero_le _,q⟩
    . by_cases h0 : 2 <= its.length
      . have e : zbJ (fun i j => zfQ (zaH xs i) (zaH xs j)) (kas_sort its.length) = (List.range its.length).reverse.toArray := zmD h0 fun i j hi hj => by
          unfold zfQ
          rcases Nat.lt_trichotomy i j with hij | hij | hij
          . have := hdn i j hij (by omega)
            rw [if_neg (by omega),decide_eq_false (by omega),decide_eq_false (by omega)]
          . subst hij; rw [if_pos rfl,if_pos rfl,decide_eq_false (Nat.lt_irrefl _)]
          . have := hdn j i hij (by omega)
            rw [if_neg (by omega),decide_eq_true (by omega),decide_eq_true (by omega)]
        rw [e]; refine ⟨vs.reverse,?_,by rw [List.length_reverse]; omega,q⟩
        show Vals vs.reverse ((List.range its.length).reverse.map fun i => its.getD i Value.none); rw [List.map_reverse,zd2]; refine zjU (by rw [List.length_reverse,List.length_reverse]; omega) fun i x y hx hy => ?_
        have hi : i < vs.length := by have := (List.getElem?_eq_some_iff.mp hx).1; rwa [List.length_reverse] at this
        rw [List.getElem?_reverse hi] at hx; rw [List.getElem?_reverse (by omega)] at hy
        obtain ⟨u,hu,ru⟩ := rv.get hx; rw [show its.length - 1 - i = vs.length - 1 - i by omega,hu] at hy
        rw [<- Option.some.inj hy]; exact ru
      . rw [zjK _ h0]; refine ⟨vs,rv,by omega,fun l hl => ?_⟩
        have := q l hl; rw [zkU (by omega)] at this
        exact this
end
section
variable {X : Cx}
theorem zhh : zbH X (.builtin "sorted") (fun us H Q => ∃ (p : Addr) (vs : List V) (xs : List (Int × Int)) (up : Bool),us = [.ref p] /\ H p = some (.lst vs) /\ vs.length < 64 /\ xs.length = vs.length /\ (∀ (i : Nat) v,vs[i]? = some v -> ∃ t,v = .ref t /\ H t = some (.tup [.int (zaH xs i).1,.int (zaH xs i).2])) ∧
    (∀ i j,i < j -> j < xs.length -> if up then (zaH xs i).1 < (zaH xs j).1 else (zaH xs j).1 < (zaH xs i).1) /\ ∀ (l : Addr),H l = none -> Q (.ref l) (upd H l (.lst (if up then vs else vs.reverse)))) := by
  intro pins s σ H us vsv Q I r h; obtain ⟨p,vs,xs,up,h1,h2,h3,h4,h5,h6,h7⟩ := h; refine zhV pins s σ H us vsv Q I r ⟨p,vs,xs,h1,h2,h3,h4,h5,?_⟩
  cases up with
  | true => exact .inl ⟨fun i j hi hj => h6 i j hi hj,fun l hl => h7 l hl⟩
  | false => exact .inr ⟨fun i j hi hj => h6 i j hi hj,fun l hl => h7 l hl⟩
end
section
variable {X : Cx} {pos : Pos}
theorem zoD {i : Nat} {x : Str} {pos' lp dp dp2 : Pos} {k k2 v2 : Expr} {tk tk2 tv2 : TE} (hN : X.N.Nodup) (hi : X.N[i]? = some x) (hx : Loc X.env.scope x) (hu : X.A.units + 100 < cLine) (hk : PE X k tk) (hk2 : PE X k2 tk2) (hv2 : PE X v2 tv2)
    (hf : X.fn x = true \/ X.env.scope.names.lookup x = some .local := by first | exact .inl rfl | exact .inr rfl | assumption) :
    S1 X (.Assign [.Name x pos'] (.List [.Dict [some k] [.Dict [some k2] [v2] dp2] dp] lp) pos) (znz (zpI (zlQ (zjl X.prog X.w X.K tk (zjl X.prog X.w X.K tk2 tv2)) zla)) (zcL i)) :=
  ⟨zar hN hi hx (zaM (zaa (zia hu hk (zia hu hk2 hv2)) zad)) (hf := hf)⟩
end
theorem Fun.okS {P : Program} {w : World} {K : Fg} {mg : Str -> Option Value} {base : Heap} {x qual : Str} {st : Stmt} {f : Addr} {fd : FuncData} {N ps : List Str} {k : Nat} {sp : Sp} (F : Fun K x qual st f fd) (S : zaw N ps (zag st)) (len : ∀ vs H Q E,sp vs H Q E -> vs.length = ps.length)
    (hb : ∀ (cdv : Value) (A : Around) (outer : List Env) (s : Shared) (H : Hp) (vs : List V) (Q : VK) (E : XK),Room k (A.deeper (envOfC qual (zag st) s.heap.objs.size f cdv)) -> sp vs H Q E →
      ∃ t,SSs (zcp CX0 P w K mg base N qual (zag st) f cdv A outer s H E).nox (zaI st) t /\ t { nx := fun _ H' => Q .non H',rt := Q } (start N vs) H) : FnOk P w K mg base CX0 (k + 1) f fd ps sp :=
  F.ok S len fun cdv A outer s H vs Q E hr h => let ⟨t,h1,h2⟩ := hb cdv A outer s H vs Q E hr h; ⟨t,h1.out,h2⟩
structure FnAt (K : Fg) (x : Str) (st : Stmt) (f : Addr) (fd : FuncData) : Prop where
  ns : PySem.W.nsIn K mainGlobals x = some (some (.ref f))
  fn : Fun K x x st f fd
structure FnAtC (K : Fg) (x : Str) (st : Stmt) (f : Addr) (fd : FuncData) (c : Addr) : Prop where
  ns : PySem.W.nsIn K mainGlobals x = some (some (.ref f))
  fn : FunC K x x st f fd c
section
variable {P : Program} {w : World} {K : Fg} {mg : Str -> Option Value} {base h : Heap} {x : Str} {st : Stmt} {f c : Addr} {fd : FuncData} {k : Nat} {sp : Sp} {ps : List Str} {oc kV doc pm cdv ct : Value} {od an : Option Addr} {osl : Array (Option Value)}
theorem fnAt (a : PySem.W.nsIn K mainGlobals x = some (some (.ref f))) (l : K.lookup f = some ⟨oc,od,.func (PySem.W.fnOf x x (za1 st) (zaI st) (zag st) .none kV doc pm an cdv ct),osl⟩) (hc : PySem.W.codeIn K cdv x = true) (hk : PySem.W.keepIn K (.ref f) = true) :
    FnAt K x st f (PySem.W.fnOf x x (za1 st) (zaI st) (zag st) .none kV doc pm an cdv ct) := ⟨a,zov l hc hk⟩
theorem fnAtC (a : PySem.W.nsIn K mainGlobals x = some (some (.ref f))) (l : K.lookup f = some ⟨oc,od,.func (PySem.W.fnOf x x (za1 st) (zaI st) (zag st) .none kV doc pm an (.ref c) ct),osl⟩) (hc : PySem.W.codeIn K (.ref c) x = true) (hk : PySem.W.keepIn K (.ref f) = true) :
    FnAtC K x st f (PySem.W.fnOf x x (za1 st) (zaI st) (zag st) .none kV doc pm an (.ref c) ct) c := ⟨a,znx l hc hk⟩
abbrev zfA (x : Str) (st : Stmt) (ps : List Str) : Prop := ∀ (kV doc pm : Value) (an : Option Addr) (cdv ct : Value) (us : List Value),us.length = ps.length -> bindArgs (PySem.W.fnOf x x (za1 st) (zaI st) (zag st) .none kV doc pm an cdv ct) ⟨us,[]⟩ = pure (ps.zip us)
theorem FnAt.g (a : FnAt K x st f fd) (X : K.In h) (G : h.Ns mainGlobals mg) (ok : FnOk P w K mg base CX0 k f fd ps sp) (b : zfA x st ps) : FnX P w K mg base x k sp := (Fn.mk' ok (PySem.W.mg_of X G a.ns) a.fn.kp (a.fn.binds b)).x
theorem FnAt.gX (a : FnAt K x st f fd) (X : K.In h) (G : h.Ns mainGlobals mg) (ok : FnOk P w K mg base (CX1 P w) k f fd ps sp) (b : zfA x st ps) : FnX P w K mg base x k sp := FnX.mk' ok (PySem.W.mg_of X G a.ns) a.fn.kp (a.fn.binds b)
theorem FnAtC.g (a : FnAtC K x st f fd c) (X : K.In h) (G : h.Ns mainGlobals mg) (ok : FnOk P w K mg base CX0 k f fd ps sp) (b : zfA x st ps) : FnX P w K mg base x k sp := (Fn.mk' ok (PySem.W.mg_of X G a.ns) a.fn.kp (a.fn.fn.binds b)).x
end
end L2
namespace HT
open PySem PySem.W PySem.Calls PyProof.Rows Builtin Builtin.ObjectAttr Builtin.Getset_descriptor
section
variable {prog : Program} {w : World} {A : Around} {E : Value -> Shared -> Prop} {s : Shared} {K : Frag} {x C : Addr} {ox : Obj}
end
end HT
namespace L2
open PySem PySem.Spec PyProof.Rows
section
variable {X : Cx}
end
section
variable {X : Cx} {pins : List (Addr × Obj)} {σ : St} {H : Hp} {s : Shared} {e : Addr} {o : HO}
end
section
variable {X : Cx} {D : zfn}
end
section
variable {X : Cx} {tg : Expr}
end
theorem zdG (K : Fg) {X : Cx} {a : Expr} {ta : TE} (ha : PE X a ta) (he : ∀ whole,isTrue a X.env whole = (do let v <- whole; standAt a.pos; holding [v] (truthy v))) (hK : X.K = K := by rfl) :
    PT X a (fun σ H Q => ta σ H fun x H' => ∃ k,zoT K x H' k /\ Q k H') := by
  subst hK; exact zlH ha he
theorem zaK (K : Fg) {X : Cx} {tg l : Expr} {tl : TE} (hl : PE X l tl) (hK : X.K = K := by rfl) : PI X tg l (znS K tl) := by
  subst hK; exact znH hl
theorem zck (K : Fg) {X : Cx} {o e : Expr} {es : List Expr} {to : TE} {t : TA} {name : Str} {apos cpos : Pos} {T id : String} {r : V -> List V -> Hp -> VK -> Prop} (pa : PlainAttrs T) (slot : Slot T name id) (hty : typeOf (.builtin id) = pure (.type "method_descriptor")) (hm : MtR X id r) (ho : PE X o to) (ha : PA X (e :: es) t)
    (hbase : attributeBase o name X.env (eval o X.env) = eval o X.env := by rfl)
    (hfew : ((backTo cpos (starEach (e :: es) X.env)).all (fun x => !x.1) && (backToKw cpos (keywordEach [] X.env)).all (fun x => x.1.isSome)
      && decide ((e :: es).length + ([] : List Keyword).length + (if ([] : List Keyword).isEmpty then 0 else 1) < 30)) = true := by rfl)
    (hline : (apos.endLine == cpos.line) = true := by rfl) (hs : starEach (e :: es) X.env = (false,eval e X.env) :: starEach es X.env := by rfl) (hplain : (backTo cpos (starEach es X.env)).any (·.1) = false := by rfl) (hK : X.K = K := by rfl) :
    PE X (.Call (.Attribute o name apos) (e :: es) [] cpos) (tBM K T r to t) := by
  subst hK; exact zpR pa slot hty hm ho ha hbase hfew hline hs hplain
theorem bt1 {x : Str} {st : Stmt} {a0 : Str} (h : ∀ (kV doc pm : Value) (an : Option Addr) (cdv ct u0 : Value),bindArgs (PySem.W.fnOf x x (za1 st) (zaI st) (zag st) .none kV doc pm an cdv ct) ⟨[u0],[]⟩ = pure [(a0,u0)]) : zfA x st [a0] := fun kV doc pm an cdv ct us e => by
  rcases us with _ | ⟨u0,_ | ⟨u1,us⟩⟩
  . cases e
  . exact h kV doc pm an cdv ct u0
  . cases e
theorem bt2 {x : Str} {st : Stmt} {a0 a1 : Str} (h : ∀ (kV doc pm : Value) (an : Option Addr) (cdv ct u0 u1 : Value),bindArgs (PySem.W.fnOf x x (za1 st) (zaI st) (zag st) .none kV doc pm an cdv ct) ⟨[u0,u1],[]⟩ = pure [(a0,u0),(a1,u1)]) : zfA x st [a0,a1] := fun kV doc pm an cdv ct us e => by
  rcases us with _ | ⟨u0,_ | ⟨u1,_ | ⟨u2,us⟩⟩⟩
  . cases e
  . cases e
  . exact h kV doc pm an cdv ct u0 u1
  . cases e
theorem bt3 {x : Str} {st : Stmt} {a0 a1 a2 : Str} (h : ∀ (kV doc pm : Value) (an : Option Addr) (cdv ct u0 u1 u2 : Value),bindArgs (PySem.W.fnOf x x (za1 st) (zaI st) (zag st) .none kV doc pm an cdv ct) ⟨[u0,u1,u2],[]⟩ = pure [(a0,u0),(a1,u1),(a2,u2)]) : zfA x st [a0,a1,a2] := fun kV doc pm an cdv ct us e => by
  rcases us with _ | ⟨u0,_ | ⟨u1,_ | ⟨u2,_ | ⟨u3,us⟩⟩⟩⟩
  . cases e
  . cases e
  . cases e
  . exact h kV doc pm an cdv ct u0 u1 u2
  . cases e
theorem bt4 {x : Str} {st : Stmt} {a0 a1 a2 a3 : Str} (h : ∀ (kV doc pm : Value) (an : Option Addr) (cdv ct u0 u1 u2 u3 : Value),bindArgs (PySem.W.fnOf x x (za1 st) (zaI st) (zag st) .none kV doc pm an cdv ct) ⟨[u0,u1,u2,u3],[]⟩ = pure [(a0,u0),(a1,u1),(a2,u2),(a3,u3)]) : zfA x st [a0,a1,a2,a3] := fun kV doc pm an cdv ct us e => by
  rcases us with _ | ⟨u0,_ | ⟨u1,_ | ⟨u2,_ | ⟨u3,_ | ⟨u4,us⟩⟩⟩⟩⟩
  . cases e
  . cases e
  . cases e
  . cases e
  . exact h kV doc pm an cdv ct u0 u1 u2 u3
  . cases e
end L2
namespace HD
open PySem PySem.W PySem.Calls PyProof.Rows
section
variable (d : Addr) (a : Addr) (h : Int) (es : Array DictEntry)
def asked (tells few : Bool) : List Nat -> Option Nat -> Sem (Option Nat)
  | [],hit => pure hit
  | i :: r,hit => match es[i]? with
    | none => asked tells few r hit
    | some e => dictEpoch d none >>= fun b => eqBool e.key (.ref a) >>= fun same => dictEpoch d none >>= fun b' =>
      if (b' != b) = true then .unsupported "dict.changed-during-lookup"
      else if same = true then
        (if hit.isSome = true then .unsupported "dict.find:order-among-keys-of-one-hash" else rule "dict.find.hit" >>= fun _ => if few = true then pure (some i) else asked tells few r (some i))
      else rule "dict.find.same-hash-other-key" >>= fun _ => if (tells && !(decide (0 <= h) && decide (h < 32))) = true then .unsupported "dict.find:asked-again-or-not-hangs-on-the-table" else asked tells few r hit
def zaW (pl : List Nat) : List Value := pl.filterMap fun i => es[i]?.map (·.key)
def behind (pl : List Nat) : Sem (Option Nat) :=
  if (es.any fun e => e.key == .ref a && e.hash != h) = true then .unsupported "dict.find:a-stored-key-whose-hash-has-changed"
  else (if (zaW es pl == [.ref a]) = true then pure false else tableMayTell (.ref a) (zaW es pl)) >>= fun tells =>
    if (tells && decide ((zaW es pl).length ≥ 2)) = true then .unsupported "dict.find:order-among-keys-of-one-hash" else asked d a h es tells (decide ((zaW es pl).length < 2)) pl none
end
theorem zfT (d a : Addr) (h : Int) (es : Array DictEntry) (tells : Bool) (n : Nat) (F : Nat -> Option (Option Nat) × Option Nat -> Sem (ForInStep (Option (Option Nat) × Option Nat))) (post : Option (Option Nat) × Option Nat -> Sem (Option Nat)) (p1 : ∀ x,post (none,x) = pure x) (p2 : ∀ r x,post (some r,x) = pure r)
    (hF : ∀ i hit,F i (none,hit) = match es[i]? with
      | some e => if (e.hash == h) = true then (dictEpoch d none >>= fun b => eqBool e.key (.ref a) >>= fun same => dictEpoch d none >>= fun b' =>
          if (b' != b) = true then .unsupported "dict.changed-during-lookup"
          else if same = true then
            (if hit.isSome = true then .unsupported "dict.find:order-among-keys-of-one-hash" else rule "dict.find.hit" >>= fun _ => if n < 2 then pure (ForInStep.done (some (some i),hit)) else pure (ForInStep.yield (none,some i)))
          else rule "dict.find.same-hash-other-key" >>= fun _ => if (tells && !(decide (0 <= h) && decide (h < 32))) = true then .unsupported "dict.find:asked-again-or-not-hangs-on-the-table" else pure (ForInStep.yield (none,hit)))
        else pure (ForInStep.yield (none,hit))
      | none => pure (ForInStep.yield (none,hit))) :
    ∀ (pl : List Nat) (hit : Option Nat),(∀ i ∈ pl,∀ e,es[i]? = some e -> (e.hash == h) = true) →
      (forIn pl ((none : Option (Option Nat)),hit) F >>= post) = asked d a h es tells (decide (n < 2)) pl hit
  | [],hit,_ => p1 hit
  | i :: r,hit,ha => by
    have ih := zfT d a h es tells n F post p1 p2 hF r; have hr : ∀ j ∈ r,∀ e,es[j]? = some e -> (e.hash == h) = true := fun j hj => ha j (List.mem_cons_of_mem _ hj); rw [List.forIn_cons,hF i hit]; unfold asked
    cases he : es[i]? with
    | none => exact ih hit hr
    | some e =>
      simp only [ha i (List.mem_cons_self ..) e he,if_true,bind_assoc]; refine congrArg _ (funext fun b => congrArg _ (funext fun same => congrArg _ (funext fun b' => ?_)))
      by_cases h1 : (b' != b) = true
      . simp only [h1,if_true]; rfl
      . simp only [h1]
        cases same with
        | true =>
          cases hh : hit.isSome with
          | true => rfl
          | false =>
            by_cases hn : n < 2
            . simp only [hn]; simp only [Bool.false_eq_true,if_false,if_true,bind_assoc,pure_bind,decide_true,p2]
            . simp only [hn]; simp only [Bool.false_eq_true,if_false,if_true,bind_assoc,pure_bind,decide_false]; simp only [decide_eq_false hn] at ih; exact congrArg _ (funext fun _ => ih _ hr)
        | false =>
          by_cases ht : (tells && !(decide (0 <= h) && decide (h < 32))) = true
          . simp only [ht,Bool.false_eq_true,if_false,if_true]; rfl
          . simp only [ht,Bool.false_eq_true,if_false,bind_assoc,pure_bind]; exact congrArg _ (funext fun _ => ih _ hr)
theorem zic (d a : Addr) (h : Int) : dictFind d (.ref a) h = holding [.ref a] (dictEntries d none >>= fun es => behind d a h es (placesWithHash es.size (fun i => es[i]?.map (·.hash)) h)) := by
  refine congrArg (holding [Value.ref a]) (congrArg (dictEntries d none >>= ·) (funext fun es => ?_))
  have hp : ∀ i ∈ placesWithHash es.size (fun i => es[i]?.map (·.hash)) h,∀ e,es[i]? = some e -> (e.hash == h) = true := fun i hi e he => by
    unfold placesWithHash at hi; have this : (es[i]?.map (·.hash) == some h) = true := (List.mem_filter.mp hi).2; rw [he] at this; exact this
  generalize placesWithHash es.size (fun i => es[i]?.map (·.hash)) h = pl at hp; unfold behind; show (if (Value.ref a :: zaW es pl).all carriedByValue = true then _ else _) = _; rw [if_neg (by simp [carriedByValue])]
  by_cases h0 : (es.any fun e => e.key == .ref a && e.hash != h) = true
  . simp only [h0,if_true]; rfl
  . simp only [h0]
    by_cases h2 : (zaW es pl == [.ref a]) = true
    . refine Eq.trans (if_pos h2) (Eq.trans ?_ (congrArg (fun x : Sem Bool => x >>= _) (if_pos h2)).symm); refine congrArg (fun f => (pure false : Sem Bool) >>= f) (funext fun tells => ?_)
      by_cases h3 : (tells && decide ((zaW es pl).length ≥ 2)) = true
      . refine (if_pos h3).trans (Eq.trans ?_ (if_pos h3).symm); rfl
      . refine (if_neg h3).trans (Eq.trans ?_ (if_neg h3).symm); refine zfT d a h es tells (zaW es pl).length _ _ (fun _ => rfl) (fun _ _ => rfl) ?_ pl none hp; intro i hit; show (match es[i]? with | some e => _ | _ => _) = _
        cases es[i]? <;> rfl
    . refine Eq.trans (if_neg h2) (Eq.trans ?_ (congrArg (fun x : Sem Bool => x >>= _) (if_neg h2)).symm); refine congrArg (fun f => tableMayTell (.ref a) (zaW es pl) >>= f) (funext fun tells => ?_)
      by_cases h3 : (tells && decide ((zaW es pl).length ≥ 2)) = true
      . refine (if_pos h3).trans (Eq.trans ?_ (if_pos h3).symm); rfl
      . refine (if_neg h3).trans (Eq.trans ?_ (if_neg h3).symm); refine zfT d a h es tells (zaW es pl).length _ _ (fun _ => rfl) (fun _ _ => rfl) ?_ pl none hp; intro i hit; show (match es[i]? with | some e => _ | _ => _) = _
        cases es[i]? <;> rfl
section
variable {tb : String -> Option Builtin} {p : Program} {w : World} {n₀ : Nat} {ann : Option Value}
theorem zha {b : Nat} (k : Nat) : ∀ (n : Nat) (s : Shared) (t : Thread) (r : Flow × Shared × Code × Pos),segRun tb p w n₀ ann b n s t = some r -> segRun tb p w n₀ ann b (n + k) s t = some r
  | 0,_,_,_,e => by cases e
  | n + 1,s,t,r,e => by
    rw [Nat.add_right_comm]; simp only [segRun] at e ⊢
    cases h1 : endAt b t with
    | some f => rw [h1] at e; exact e
    | none =>
      cases h2 : stepOk n₀ ann t with
      | false => rw [h1,h2] at e; cases e
      | true =>
        rw [h1,h2] at e
        cases h3 : step (denote tb) p w s t with
        | halt _ _ => rw [h3] at e; cases e
        | go s' t' => rw [h3] at e; exact zha k n s' t' r e
def zls (tag : String) (t : Thread) : Bool := match t.stack,t.cur with
  | [_],.rule g _ => g == tag
  | _,_ => false
def zdM (tb : String -> Option Builtin) (p : Program) (w : World) (n₀ : Nat) (ann : Option Value) (tag : String) : Nat -> SharedT -> Thread -> Option (SharedT × Thread)
  | 0,_,_ => none
  | n + 1,s,t => match zls tag t with
    | true => some (s,t)
    | false => match endAt 1 t,stepOk n₀ ann t with
      | none,true => (stepT (denote tb) p w s t).bind fun x => zdM tb p w n₀ ann tag n x.1 x.2
      | _,_ => none
theorem ziI {tag : String} : ∀ {n N : Nat} {s s' : SharedT} {t t' : Thread} {r : Flow × Shared × Code × Pos},zdM tb p w n₀ ann tag n s t = some (s',t') -> segRun tb p w n₀ ann 1 N s'.abs t' = some r →
    segRun tb p w n₀ ann 1 (n + N) s.abs t = some r
  | 0,_,_,_,_,_,_,e,_ => by cases e
  | n + 1,N,s,s',t,t',r,e,k => by
    unfold zdM at e
    cases h0 : zls tag t with
    | true =>
      rw [h0] at e; obtain ⟨rfl,rfl⟩ : s = s' /\ t = t' := by simpa using e
      rw [Nat.add_comm]; exact zha _ _ _ _ _ k
    | false =>
      rw [h0] at e; rw [Nat.add_right_comm]; simp only [segRun]
      cases h1 : endAt 1 t with
      | some f => rw [h1] at e; cases e
      | none =>
        cases h2 : stepOk n₀ ann t with
        | false => rw [h1,h2] at e; cases e
        | true =>
          rw [h1,h2] at e; obtain ⟨⟨s2,t2⟩,h3,h4⟩ := Option.bind_eq_some_iff.mp e; rw [stepT_spec h3]; exact ziI h4 k
theorem zfs {n N M : Nat} {s s' : SharedT} {t t' : Thread} {r : Flow × Shared × Code × Pos} (e : segGoT tb p w n₀ ann 1 n s t = some (s',t')) (k : segRun tb p w n₀ ann 1 N s'.abs t' = some r) (h : n + N = M) : segRun tb p w n₀ ann 1 M s.abs t = some r := by
  subst h; exact seg_go (segGo_of e) k
end
section
variable {α β : Type} {K : α -> Sem β} {H : Value -> Sem β} {gd : Bool -> Bool} {lv : List Value -> List Value}
theorem zg7 (a : α) : (pure a : Sem α).wrap K H gd lv = K a := rfl
theorem zbb {γ : Type} (m : Sem γ) (f : γ -> Sem α) : (m >>= f).wrap K H gd lv = m.wrap (fun a => (f a).wrap K H gd lv) H gd lv := by
  rw [Sem.bind_eq_wrap',Sem.wrap_wrap]; rfl
theorem zdI (vs : List Value) (m : Sem α) : (m.keep vs).wrap K H gd lv = m.wrap K H gd (fun l => lv (vs ++ l)) := by
  rw [Sem.keep_eq_wrap,Sem.wrap_wrap]; rfl
end
def zbK (d : Addr) : List (Value × Value) -> Sem Unit
  | [] => pure ()
  | x :: r => dictSet d x.1 x.2 >>= fun _ => zbK d r
theorem zgM (d : Addr) (F : Value × Value -> PUnit -> Sem (ForInStep PUnit)) (hF : ∀ x u,F x u = (dictSet d x.1 x.2 >>= fun _ => pure (ForInStep.yield PUnit.unit))) :
    ∀ vs : List (Value × Value),(forIn vs PUnit.unit F >>= fun _ => (pure () : Sem Unit)) = zbK d vs
  | [] => rfl
  | x :: r => by
    rw [List.forIn_cons,hF,zbK,bind_assoc,bind_assoc]; refine congrArg _ (funext fun _ => ?_); rw [pure_bind]; exact zgM d F hF r
def zhp (vs : List (Value × Value)) : List Value := (vs.flatMap fun x => [x.1,x.2]).filter Value.isRef
theorem zly (pairs : List (Sem Value × Sem Value)) (hl : pairs.length <= 15) : subDict pairs =
    (alloc { cls := .type "dict",data := .dict #[] } >>= fun d => ((evalPairs pairs >>= fun vs => (zbK d vs).keep (zhp vs)).keep [.ref d]) >>= fun _ => pure d) := by
  unfold subDict; refine congrArg _ (funext fun d => ?_); rw [if_pos hl,holding_eq_keep]; refine congrArg (fun m : Sem Unit => m >>= fun _ => pure d) ?_; refine congrArg (Sem.keep [.ref d]) (congrArg _ (funext fun vs => ?_)); rw [holding_eq_keep]; exact congrArg _ (zgM d _ (fun _ _ => rfl) vs)
theorem zld (env : Env) (x : Str) (pos' dpos pos : Pos) (ks : List (Option Expr)) (vs : List Expr) (pairs : List (Sem Value × Sem Value))
    (hs : swapsWith (.Dict ks vs dpos) (some (.Name x pos')) pos.line env = pure false) (hd : eval (.Dict ks vs dpos) env = (standAt dpos >>= fun _ => (subDict pairs >>= fun d => pure (Value.ref d)))) (hl : pairs.length <= 15)
    (K : Flow -> Sem Fin) (H : Value -> Sem Fin) :
    (exec (.Assign [.Name x pos'] (.Dict ks vs dpos) pos) env).wrap K H id id =
      (standAt pos >>= fun _ => standAt dpos >>= fun _ => alloc { cls := .type "dict",data := .dict #[] }).wrap (fun d => (evalPairs pairs).wrap (fun vs =>
        (zbK d vs).wrap (fun _ => (standAt pos' >>= fun _ => bindName env x (.ref d) >>= fun _ => pure Flow.next).wrap K H id id) H id (fun l => [.ref d] ++ (zhp vs ++ l))) H id (fun l => [.ref d] ++ l)) H id id := by
  rw [exec_Assign_Name env x pos' _ pos hs,hd,zly pairs hl]; simp only [zbb,zdI,zg7,id]
theorem zmM (d a : Addr) (v : Value) (hv : v.isRef = false) : ∃ G : Int -> Option Nat -> Sem Unit,(∀ h,G h none = (rule "dict.set.new-key-at-the-end" >>= fun _ => updateDictKeys d (·.push ⟨h,.ref a,v⟩) none)) ∧
    ∀ {β : Type} (K : Unit -> Sem β) (H : Value -> Sem β) (gd : Bool -> Bool) (lv : List Value -> List Value),(dictSet d (.ref a) v).wrap K H gd lv =
      (pyHash (.ref a)).wrap (fun h => (dictEntries d none).wrap (fun es => (behind d a h es (placesWithHash es.size (fun i => es[i]?.map (·.hash)) h)).wrap
        (fun r => (G h r).wrap K H gd (fun l => lv ([.ref a] ++ ([.ref a] ++ l)))) H gd (fun l => lv ([.ref a] ++ ([.ref a] ++ ([.ref a] ++ l))))) H gd (fun l => lv ([.ref a] ++ ([.ref a] ++ ([.ref a] ++ l))))) H gd (fun l => lv ([.ref a] ++ l)) := by
  have hf : ([Value.ref a,v].filter Value.isRef) = [.ref a] := by cases v <;> first | rfl | cases hv
  refine ⟨?G,?g1,?g2⟩
  case g2 =>
    intro β K H gd lv; unfold dictSet; rw [holding_eq_keep,hf,zdI,zbb]; refine Sem.wrap_congr _ _ _ (fun h => ?_) fun _ => rfl; unfold dictSetHashed; rw [holding_eq_keep,hf,zdI,zbb,zic,holding_eq_keep,show ([Value.ref a].filter Value.isRef) = [.ref a] from rfl,zdI,zbb]
  case g1 => intro h; rfl
theorem zkJ (acc : Nat) (h : acc < 2 ^ 64) (r : Int) (e : r = if (acc == 2 ^ 64 - 1) = true then 1546275796 else if acc < 2 ^ 63 then (acc : Int) else (acc : Int) - ((2 ^ 64 : Nat) : Int)) :
    (decide (-(2 ^ 63 : Int) <= r) && decide (r < 2 ^ 63)) = true := by
  simp only [Bool.and_eq_true,decide_eq_true_eq]; subst e
  split
  . exact ⟨by decide,by decide⟩
  . split <;> omega
theorem zjM (l : List Int) : (decide (-(2 ^ 63 : Int) <= Builtin.Tuple.tupleHashOf l) && decide (Builtin.Tuple.tupleHashOf l < 2 ^ 63)) = true := zkJ _ (Nat.mod_lt _ (by decide)) _ rfl
theorem zji (l : List Int) : pyHashByItsType.reduced (Builtin.Tuple.tupleHashOf l) = pure (reduceHash (Builtin.Tuple.tupleHashOf l)) := by
  have e := zjM l; unfold pyHashByItsType.reduced reduceHash; generalize Builtin.Tuple.tupleHashOf l = i at e; rw [if_pos e,if_pos e]
def zp5 (hf : List Int -> Int) : Builtin := fun args => slotArgs "__hash__" 0 args >>= fun x => Builtin.Tuple.tupleItemsOf x.1 >>= fun xs => forIn xs #[] (fun y hs => pyHash y >>= fun h => pure (.yield (hs.push h))) >>= fun hs => retInt (hf hs.toList)
noncomputable def tbH (hf : List Int -> Int) : String -> Option Builtin := fun id => if id = "tuple.__hash__" then some (zp5 hf) else treeTable id
theorem zeF : tbH Builtin.Tuple.tupleHashOf = treeTable := funext fun id => by
  unfold tbH
  by_cases h : id = "tuple.__hash__"
  . rw [if_pos h,h]; kernel_rfl
  . rw [if_neg h]
def hsh (P : Params) (x : String) : Int := if (PySem.Str.ofString x).cps.isEmpty then 0 else reduceHash (P.strHash (PySem.Str.ofString x).cps)
abbrev fol (b : Bool) (w : World) : World := w.withFollow "special-get-raises" b
def pl (bs : List Bool) : List Nat := (List.range bs.length).filter fun i => (bs[i]?).getD false
def ent (i : Nat) (v : Value) (h : Int) : DictEntry := ⟨h,.ref i,v⟩
def hP (P : Params) (x y : String) : Int := reduceHash (Builtin.Tuple.tupleHashOf [hsh P x,hsh P y])
theorem zl2 {p q : Program} {loose : List Str} {Xt : Shared -> Bool} {α : Type} {Yf : Shared -> α} {Ya : World -> α} {N : Nat} {g0 : Bool} {H₀ : Params -> Heap} {gs₀ : Array GenState} {d₀ : Drawn} {k₀ m₀ M n : Nat} {ann : Option Value}
    {T : World -> OsState -> SharedT} {rest : List Stmt} {env : Env} {c : Code} {pos pos' fp : Pos}
    (open_ : ∀ w : World,(fencedOpening treeTable p w N).map (fun s => (s.heap,s.gens,s.drawn,s.toks)) = some (H₀ w.params,gs₀,d₀,k₀))
    (size : ∀ w : World,((H₀ w.params).isNs mainGlobals && gs₀.size == 0,(H₀ w.params).objs.size,(H₀ w.params).nsMap mainGlobals "__annotations__") = (true,m₀,ann))
    (run : ∀ (w : World) (os : OsState) (N' : Nat) (r : Shared),topRun treeTable p w m₀ ann N' (T w os).abs (restOf rest env c pos [topFrame fp]) = some r -> topRun treeTable p w m₀ ann (M + N') ⟨H₀ w.params,gs₀,d₀,k₀,os⟩ (topStub p) = some r)
    (fin : ∀ (w : World) (s : Shared),topRun treeTable p w m₀ ann 2 s ⟨doneF .next,c,pos',[topFrame fp]⟩ = some s)
    (suf : ∀ (w : World) (os : OsState),(segRunT treeTable p w m₀ ann 1 n (T w os) (piecesOf rest env c pos [topFrame fp])).map (fun x => (x.1,x.2.2,
        (staticsOk (importedModules p.main.body) (H₀ w.params) x.2.1.abs.heap && namesBound p x.2.1.abs.heap && gensDone x.2.1.abs && laidKept (H₀ w.params) x.2.1.abs.heap),openSeen q loose (importedModules p.main.body) Xt g0 x.2.1.abs,Yf x.2.1.abs)) =
      some (.next,(c,pos'),true,openGood q loose,Ya w))
    (le : Nat.ble (M + (n + 2)) N = true) : LeftO p q loose Xt Yf Ya N g0 := fun w => by
  obtain ⟨⟨h,gs,d,k,os⟩,e1,e2⟩ := Option.map_eq_some_iff.mp (open_ w); obtain ⟨rfl,rfl,rfl,rfl⟩ : h = H₀ w.params /\ gs = gs₀ /\ d = d₀ /\ k = k₀ := by simpa only [Prod.mk.injEq] using e2
  obtain ⟨z1,z2,z3⟩ : _ /\ _ /\ _ := by simpa only [Prod.mk.injEq] using size w
  obtain ⟨⟨f,s1,c1,q1⟩,e3,e4⟩ := Option.map_eq_some_iff.mp (suf w os); obtain ⟨rfl,⟨rfl,rfl⟩,l1,l2,l3⟩ : f = .next /\ (c1 = c /\ q1 = pos') /\ _ /\ _ /\ _ := by simpa only [Prod.mk.injEq] using e4
  have r1 : topRun treeTable p w m₀ ann (n + 2) (T w os).abs (restOf (rest ++ []) env c1 pos [topFrame fp]) = some s1.abs := piece_app (segRun_of e3) (piece_nil (fin w s1.abs)); rw [List.append_nil] at r1; have r2 := topRun_mono (N - (M + (n + 2))) _ _ _ _ (run w os _ _ r1); rw [Nat.add_sub_of_le (nlb le)] at r2
  have t : topFrom treeTable p w N ⟨H₀ w.params,gs,d,k,os⟩ = some s1.abs := by
    simp only [topFrom,z1,z2,z3,r2,Option.bind_some]; rw [l1]
  show ((fencedOpening treeTable p w N).bind (topFrom treeTable p w N)).map _ = _; rw [e1,Option.bind_some,t]; exact congrArg some (Prod.ext l2 l3)
end HD
set_option maxHeartbeats 0
namespace HD
open PySem PySem.W PySem.Calls PyProof.Rows
noncomputable abbrev pR : Program := PySem.Challenge.rw_callorder_k10_whole_one_after_the_other.prog
def pA : Program := { PySem.Challenge.rw_callorder_k10_whole_one_after_the_other.prog with main := { PySem.Challenge.rw_callorder_k10_whole_one_after_the_other.prog.main with body := PySem.Challenge.rw_callorder_k10_whole_one_after_the_other.prog.main.body.take 6 } }
noncomputable def _root_.PySem.W.Fast.tw7541984421006763804 : PySem.W.OpenLaw := PySem.Challenge.rw_callorder_k10_whole_one_after_the_other
theorem _root_.PySem.W.Fast.te7541984421006763804 : PySem.Challenge.rw_callorder_k10_whole_one_after_the_other = PySem.W.Fast.tw7541984421006763804 := rfl
open_shared sh for pA leaving 0
def zpW : Option Expr -> Option Expr
  | some (.Tuple [_,e] _ _) => some e
  | k => k
def zow : Option Expr -> Expr -> Expr
  | some (.Tuple [e1,e2] c p),v => .Tuple [e1,e2,v,v] c p
  | _,v => v
def zle : Stmt -> Stmt
  | .Assign [.Name x p1] (.Dict ks vs p2) p3 => .Assign [.Name x p1] (.Dict (ks.map zpW) (List.zipWith zow ks vs) p2) p3
  | s => s
def pZ : Program := { PySem.Challenge.rw_callorder_k10_whole_one_after_the_other.prog with main := { PySem.Challenge.rw_callorder_k10_whole_one_after_the_other.prog.main with body := PySem.Challenge.rw_callorder_k10_whole_one_after_the_other.prog.main.body.take 6 ++ (((PySem.Challenge.rw_callorder_k10_whole_one_after_the_other.prog.main.body.drop 6).take 1).map zle ++ PySem.Challenge.rw_callorder_k10_whole_one_after_the_other.prog.main.body.drop 7) } }
open_shared shZ for pZ leaving 0
noncomputable def zaB (i : Nat) : Stmt := (pR.main.body[i]?).getD (.Pass default)
structure ziv where
  x : PySem.Str
  posN : Pos
  ks : List (Option Expr)
  vs : List Expr
  dpos : Pos
  pos : Pos
noncomputable def zlE : Stmt -> Option ziv
  | .Assign [.Name x p1] (.Dict ks vs p2) p3 => some ⟨x,p1,ks,vs,p2,p3⟩
  | _ => none
noncomputable def ds : ziv := (zlE (zaB 6)).getD ⟨"",default,[],[],default,default⟩
theorem st6 : zaB 6 = .Assign [.Name ds.x ds.posN] (.Dict ds.ks ds.vs ds.dpos) ds.pos := by kernel_rfl
noncomputable def cE : Code := .body (behindTheImports pR) sh.env_1
def zpF : Pos := { line := 0,col := 0,endLine := 0,endCol := 0 }
def zoX : Pos := { line := 0,col := 0,endLine := 0,endCol := 0 }
def zmu : Pos := { line := 9,col := 0,endLine := 9,endCol := 6 }
def zpH : Pos := { line := 292,col := 0,endLine := 313,endCol := 60 }
noncomputable abbrev B0 : List Frame := [topFrame zpF]
abbrev za3 : Option Value := some (.ref 6)
noncomputable def pairs : List (Sem Value × Sem Value) := ((ds.ks.filterMap id).map fun k => eval k sh.env_1).zip (ds.vs.map fun v => (do let x <- eval v sh.env_1; standAt ds.dpos; pure x))
noncomputable def SA (w : World) (os : OsState) : SharedT := { tree := sh.tree_53 w.params,n := 54,life := { },gens := { toList := [] },drawn := { },toks := 247,os := os }
theorem zot : swapsWith (.Dict ds.ks ds.vs ds.dpos) (some (.Name ds.x ds.posN)) ds.pos.line sh.env_1 = pure false := by kernel_rfl
theorem zgY : pairs.length = 6 := by kernel_rfl
theorem zqN : eval (.Dict ds.ks ds.vs ds.dpos) sh.env_1 = (standAt ds.dpos >>= fun _ => (subDict pairs >>= fun d => pure (Value.ref d))) := by
  have hl := zgY; rw [show (subDict pairs >>= fun d => pure (Value.ref d)) = dictDisplay (pairs.map fun p => (some p.1,p.2)) from (dictDisplay_pairs pairs (by intro e; rw [e] at hl; cases hl) (by omega)).symm]
  kernel_rfl
def tup (x y : String) (t : Nat) : Obj := ⟨.type "tuple",none,.seq #[.str (PySem.Str.ofString x) t,.str (PySem.Str.ofString y) (t + 1)] 0,#[]⟩
def zfB (es : List DictEntry) : Obj := ⟨.type "dict",none,.dict es.toArray es.length,#[]⟩
noncomputable def zlG (P : Params) : BT := (((((((sh.tree_53 P).ins 54 (zfB [])).ins 55 (tup "row" "put" 247)).ins 56 (tup "row" "take" 250)).ins 57 (tup "row" "look" 253)).ins 58 (tup "number" "set" 256)).ins 59 (tup "number" "add" 259)).ins 60 (tup "number" "look" 262)
def vs0 : List (Value × Value) := [(.ref 55,.int 3 249),(.ref 56,.int 2 252),(.ref 57,.int 2 255),(.ref 58,.int 3 258),(.ref 59,.int 3 261),(.ref 60,.int 2 264)]
noncomputable def S (P : Params) (os : OsState) (es : List DictEntry) (toks : Nat) : SharedT := { tree := (zlG P).set 54 (fun _ => zfB es),n := 61,life := { },gens := { toList := [] },drawn := { },toks := toks,os := os }
theorem go1 (w : World) (os : OsState) (K : Addr -> Unit -> Sem Fin) (H : Value -> Sem Fin) :
    segGoT treeTable pR w 11 za3 1 39 (SA w os) ⟨(standAt ds.pos >>= fun _ => standAt ds.dpos >>= fun _ => alloc { cls := .type "dict",data := .dict #[] }).wrap (fun d => (evalPairs pairs).wrap (fun vs =>
        (zbK d vs).wrap (K d) H id (fun l => [.ref d] ++ (zhp vs ++ l))) H id (fun l => [.ref d] ++ l)) H id id,cE,zmu,B0⟩ =
      some (S w.params os [] 265,⟨(zbK 54 vs0).wrap (K 54) H id (fun l => [.ref 54] ++ (zhp vs0 ++ l)),cE,ds.dpos,B0⟩) := by kernel_rfl
def gOf (h : Int) (a : Addr) (v : Value) (G : Nat -> Sem Unit) : Option Nat -> Sem Unit
  | none => rule "dict.set.new-key-at-the-end" >>= fun _ => updateDictKeys 54 (·.push ⟨h,.ref a,v⟩) none
  | some i => G i
section
variable {W : World} {s0 s1 s2 : SharedT} {a : Addr} {v : Value} {l : List Int} {es : Array DictEntry} {K : Unit -> Sem Fin} {H : Value -> Sem Fin} {lv : List Value -> List Value} {r : Flow × Shared × Code × Pos} {N : Nat}
theorem zdD (hv : v.isRef = false)
    (h1 : ∀ (K : Int -> Sem Fin) lv,segGoT treeTable pR W 11 za3 1 25 s0 ⟨(pyHash (.ref a)).wrap K H id lv,cE,ds.dpos,B0⟩ = some (s1,⟨(pyHashByItsType.reduced (Builtin.Tuple.tupleHashOf l)).wrap K H id lv,cE,ds.dpos,B0⟩))
    (h2 : ∀ (K : Array DictEntry -> Sem Fin) lv,segGoT treeTable pR W 11 za3 1 1 s1 ⟨(dictEntries 54 none).wrap K H id lv,cE,ds.dpos,B0⟩ = some (s1,⟨K es,cE,ds.dpos,B0⟩))
    (h3 : ∀ (h : Int) G (K : Unit -> Sem Fin) lv lv',zdM treeTable pR W 11 za3 "dict.set.new-key-at-the-end" 500 s1 ⟨(behind 54 a h es (placesWithHash es.size (fun i => es[i]?.map (·.hash)) h)).wrap (fun r => (gOf h a v G r).wrap K H id lv') H id lv,cE,ds.dpos,B0⟩ =
      some (s1,⟨(gOf h a v G none).wrap K H id lv',cE,ds.dpos,B0⟩))
    (h4 : ∀ G (K : Unit -> Sem Fin) lv,segGoT treeTable pR W 11 za3 1 4 s1 ⟨(gOf (reduceHash (Builtin.Tuple.tupleHashOf l)) a v G none).wrap K H id lv,cE,ds.dpos,B0⟩ = some (s2,⟨K (),cE,ds.dpos,B0⟩))
    (k : segRun treeTable pR W 11 za3 1 N s2.abs ⟨K (),cE,ds.dpos,B0⟩ = some r) :
    segRun treeTable pR W 11 za3 1 (530 + N) s0.abs ⟨(dictSet 54 (.ref a) v).wrap K H id lv,cE,ds.dpos,B0⟩ = some r := by
  obtain ⟨G,g1,g2⟩ := zmM 54 a v hv; rw [g2 K H id lv]; refine zfs (h1 _ _) (N := 505 + N) ?_ (by omega)
  rw [zji,zg7]; refine zfs (h2 _ _) (N := 504 + N) ?_ (by omega)
  generalize hh : reduceHash (Builtin.Tuple.tupleHashOf l) = h at *
  rw [show (fun r => (G h r).wrap K H id (fun l => lv ([.ref a] ++ ([.ref a] ++ l)))) = (fun r => (gOf h a v (fun i => G h (some i)) r).wrap K H id (fun l => lv ([.ref a] ++ ([.ref a] ++ l)))) from funext fun r => by
    cases r with
    | none => rw [g1 h]; rfl
    | some i => rfl]
  rw [show 504 + N = 500 + (4 + N) by omega]
  refine ziI (h3 _ _ _ _ _) ?_; exact zfs (h4 _ _ _) k rfl
end
section
variable (hf : List Int -> Int) (b : Bool) (w : World) (os : OsState) (H : Value -> Sem Fin) (es : List DictEntry)
theorem zoc (tk : Nat) (K : Int -> Sem Fin) (lv : List Value -> List Value) : segGoT (tbH hf) pR (fol b w) 11 za3 1 25 (S w.params os es tk) ⟨(pyHash (.ref 55)).wrap K H id lv,cE,ds.dpos,B0⟩ =
    some (S w.params os es (tk + 3),⟨(pyHashByItsType.reduced (hf [hsh w.params "row",hsh w.params "put"])).wrap K H id lv,cE,ds.dpos,B0⟩) := by cases b <;> kernel_rfl
theorem zoG (tk : Nat) (K : Int -> Sem Fin) (lv : List Value -> List Value) : segGoT (tbH hf) pR (fol b w) 11 za3 1 25 (S w.params os es tk) ⟨(pyHash (.ref 56)).wrap K H id lv,cE,ds.dpos,B0⟩ =
    some (S w.params os es (tk + 3),⟨(pyHashByItsType.reduced (hf [hsh w.params "row",hsh w.params "take"])).wrap K H id lv,cE,ds.dpos,B0⟩) := by cases b <;> kernel_rfl
theorem zn2 (tk : Nat) (K : Int -> Sem Fin) (lv : List Value -> List Value) : segGoT (tbH hf) pR (fol b w) 11 za3 1 25 (S w.params os es tk) ⟨(pyHash (.ref 57)).wrap K H id lv,cE,ds.dpos,B0⟩ =
    some (S w.params os es (tk + 3),⟨(pyHashByItsType.reduced (hf [hsh w.params "row",hsh w.params "look"])).wrap K H id lv,cE,ds.dpos,B0⟩) := by cases b <;> kernel_rfl
theorem zo2 (tk : Nat) (K : Int -> Sem Fin) (lv : List Value -> List Value) : segGoT (tbH hf) pR (fol b w) 11 za3 1 25 (S w.params os es tk) ⟨(pyHash (.ref 58)).wrap K H id lv,cE,ds.dpos,B0⟩ =
    some (S w.params os es (tk + 3),⟨(pyHashByItsType.reduced (hf [hsh w.params "number",hsh w.params "set"])).wrap K H id lv,cE,ds.dpos,B0⟩) := by cases b <;> kernel_rfl
theorem zn9 (tk : Nat) (K : Int -> Sem Fin) (lv : List Value -> List Value) : segGoT (tbH hf) pR (fol b w) 11 za3 1 25 (S w.params os es tk) ⟨(pyHash (.ref 59)).wrap K H id lv,cE,ds.dpos,B0⟩ =
    some (S w.params os es (tk + 3),⟨(pyHashByItsType.reduced (hf [hsh w.params "number",hsh w.params "add"])).wrap K H id lv,cE,ds.dpos,B0⟩) := by cases b <;> kernel_rfl
theorem zoQ (tk : Nat) (K : Int -> Sem Fin) (lv : List Value -> List Value) : segGoT (tbH hf) pR (fol b w) 11 za3 1 25 (S w.params os es tk) ⟨(pyHash (.ref 60)).wrap K H id lv,cE,ds.dpos,B0⟩ =
    some (S w.params os es (tk + 3),⟨(pyHashByItsType.reduced (hf [hsh w.params "number",hsh w.params "look"])).wrap K H id lv,cE,ds.dpos,B0⟩) := by cases b <;> kernel_rfl
theorem zpZ (tk : Nat) (K : Array DictEntry -> Sem Fin) (lv : List Value -> List Value) : segGoT treeTable pR (fol b w) 11 za3 1 1 (S w.params os [] tk) ⟨(dictEntries 54 none).wrap K H id lv,cE,ds.dpos,B0⟩ =
    some (S w.params os [] tk,⟨K #[],cE,ds.dpos,B0⟩) := by kernel_rfl
theorem zqJ (h0 : Int) (tk : Nat) (G : Nat -> Sem Unit) (K : Unit -> Sem Fin) (lv : List Value -> List Value) : segGoT treeTable pR (fol b w) 11 za3 1 4 (S w.params os [] tk) ⟨(gOf h0 55 (.int 3 249) G none).wrap K H id lv,cE,ds.dpos,B0⟩ =
    some (S w.params os [ent 55 (.int 3 249) h0] tk,⟨K (),cE,ds.dpos,B0⟩) := by kernel_rfl
theorem zo7 (h : Int) (tk : Nat) (G : Nat -> Sem Unit) (K : Unit -> Sem Fin) (lv lv' : List Value -> List Value) : zdM treeTable pR (fol b w) 11 za3 "dict.set.new-key-at-the-end" 500 (S w.params os [] tk)
    ⟨(behind 54 55 h #[] (pl [])).wrap (fun r => (gOf h 55 (.int 3 249) G r).wrap K H id lv') H id lv,cE,ds.dpos,B0⟩ =
    some (S w.params os [] tk,⟨(gOf h 55 (.int 3 249) G none).wrap K H id lv',cE,ds.dpos,B0⟩) := by cases b <;> kernel_rfl
theorem znb (h : Int) : placesWithHash (#[] : Array DictEntry).size (fun i => (#[] : Array DictEntry)[i]?.map (·.hash)) h = pl [] := by kernel_rfl
theorem zpq (h0 : Int) (tk : Nat) (K : Array DictEntry -> Sem Fin) (lv : List Value -> List Value) : segGoT treeTable pR (fol b w) 11 za3 1 1 (S w.params os [ent 55 (.int 3 249) h0] tk) ⟨(dictEntries 54 none).wrap K H id lv,cE,ds.dpos,B0⟩ =
    some (S w.params os [ent 55 (.int 3 249) h0] tk,⟨K #[ent 55 (.int 3 249) h0],cE,ds.dpos,B0⟩) := by kernel_rfl
theorem zqw (h0 : Int) (h1 : Int) (tk : Nat) (G : Nat -> Sem Unit) (K : Unit -> Sem Fin) (lv : List Value -> List Value) : segGoT treeTable pR (fol b w) 11 za3 1 4 (S w.params os [ent 55 (.int 3 249) h0] tk) ⟨(gOf h1 56 (.int 2 252) G none).wrap K H id lv,cE,ds.dpos,B0⟩ =
    some (S w.params os [ent 55 (.int 3 249) h0,ent 56 (.int 2 252) h1] tk,⟨K (),cE,ds.dpos,B0⟩) := by kernel_rfl
theorem zoh (h0 : Int) (b0 : Bool) (h : Int) (tk : Nat) (G : Nat -> Sem Unit) (K : Unit -> Sem Fin) (lv lv' : List Value -> List Value) : zdM treeTable pR (fol b w) 11 za3 "dict.set.new-key-at-the-end" 500 (S w.params os [ent 55 (.int 3 249) h0] tk)
    ⟨(behind 54 56 h #[ent 55 (.int 3 249) h0] (pl [b0])).wrap (fun r => (gOf h 56 (.int 2 252) G r).wrap K H id lv') H id lv,cE,ds.dpos,B0⟩ =
    some (S w.params os [ent 55 (.int 3 249) h0] tk,⟨(gOf h 56 (.int 2 252) G none).wrap K H id lv',cE,ds.dpos,B0⟩) := by cases b <;> cases b0 <;> kernel_rfl
theorem znj (h0 h : Int) : placesWithHash (#[ent 55 (.int 3 249) h0] : Array DictEntry).size (fun i => (#[ent 55 (.int 3 249) h0] : Array DictEntry)[i]?.map (·.hash)) h = pl [h0 == h] := by kernel_rfl
theorem zpT (h0 h1 : Int) (tk : Nat) (K : Array DictEntry -> Sem Fin) (lv : List Value -> List Value) : segGoT treeTable pR (fol b w) 11 za3 1 1 (S w.params os [ent 55 (.int 3 249) h0,ent 56 (.int 2 252) h1] tk) ⟨(dictEntries 54 none).wrap K H id lv,cE,ds.dpos,B0⟩ =
    some (S w.params os [ent 55 (.int 3 249) h0,ent 56 (.int 2 252) h1] tk,⟨K #[ent 55 (.int 3 249) h0,ent 56 (.int 2 252) h1],cE,ds.dpos,B0⟩) := by kernel_rfl
theorem zqh (h0 h1 : Int) (h2 : Int) (tk : Nat) (G : Nat -> Sem Unit) (K : Unit -> Sem Fin) (lv : List Value -> List Value) : segGoT treeTable pR (fol b w) 11 za3 1 4 (S w.params os [ent 55 (.int 3 249) h0,ent 56 (.int 2 252) h1] tk) ⟨(gOf h2 57 (.int 2 255) G none).wrap K H id lv,cE,ds.dpos,B0⟩ =
    some (S w.params os [ent 55 (.int 3 249) h0,ent 56 (.int 2 252) h1,ent 57 (.int 2 255) h2] tk,⟨K (),cE,ds.dpos,B0⟩) := by kernel_rfl
theorem zoL (h0 h1 : Int) (b0 b1 : Bool) (h : Int) (tk : Nat) (G : Nat -> Sem Unit) (K : Unit -> Sem Fin) (lv lv' : List Value -> List Value) : zdM treeTable pR (fol b w) 11 za3 "dict.set.new-key-at-the-end" 500 (S w.params os [ent 55 (.int 3 249) h0,ent 56 (.int 2 252) h1] tk)
    ⟨(behind 54 57 h #[ent 55 (.int 3 249) h0,ent 56 (.int 2 252) h1] (pl [b0,b1])).wrap (fun r => (gOf h 57 (.int 2 255) G r).wrap K H id lv') H id lv,cE,ds.dpos,B0⟩ =
    some (S w.params os [ent 55 (.int 3 249) h0,ent 56 (.int 2 252) h1] tk,⟨(gOf h 57 (.int 2 255) G none).wrap K H id lv',cE,ds.dpos,B0⟩) := by cases b <;> cases b0 <;> cases b1 <;> kernel_rfl
theorem zne (h0 h1 h : Int) : placesWithHash (#[ent 55 (.int 3 249) h0,ent 56 (.int 2 252) h1] : Array DictEntry).size (fun i => (#[ent 55 (.int 3 249) h0,ent 56 (.int 2 252) h1] : Array DictEntry)[i]?.map (·.hash)) h = pl [h0 == h,h1 == h] := by kernel_rfl
theorem zpU (h0 h1 h2 : Int) (tk : Nat) (K : Array DictEntry -> Sem Fin) (lv : List Value -> List Value) : segGoT treeTable pR (fol b w) 11 za3 1 1 (S w.params os [ent 55 (.int 3 249) h0,ent 56 (.int 2 252) h1,ent 57 (.int 2 255) h2] tk) ⟨(dictEntries 54 none).wrap K H id lv,cE,ds.dpos,B0⟩ =
    some (S w.params os [ent 55 (.int 3 249) h0,ent 56 (.int 2 252) h1,ent 57 (.int 2 255) h2] tk,⟨K #[ent 55 (.int 3 249) h0,ent 56 (.int 2 252) h1,ent 57 (.int 2 255) h2],cE,ds.dpos,B0⟩) := by kernel_rfl
theorem zqf (h0 h1 h2 : Int) (h3 : Int) (tk : Nat) (G : Nat -> Sem Unit) (K : Unit -> Sem Fin) (lv : List Value -> List Value) : segGoT treeTable pR (fol b w) 11 za3 1 4 (S w.params os [ent 55 (.int 3 249) h0,ent 56 (.int 2 252) h1,ent 57 (.int 2 255) h2] tk) ⟨(gOf h3 58 (.int 3 258) G none).wrap K H id lv,cE,ds.dpos,B0⟩ =
    some (S w.params os [ent 55 (.int 3 249) h0,ent 56 (.int 2 252) h1,ent 57 (.int 2 255) h2,ent 58 (.int 3 258) h3] tk,⟨K (),cE,ds.dpos,B0⟩) := by kernel_rfl
theorem zpe (h0 h1 h2 : Int) (b0 b1 b2 : Bool) (h : Int) (tk : Nat) (G : Nat -> Sem Unit) (K : Unit -> Sem Fin) (lv lv' : List Value -> List Value) : zdM treeTable pR (fol b w) 11 za3 "dict.set.new-key-at-the-end" 500 (S w.params os [ent 55 (.int 3 249) h0,ent 56 (.int 2 252) h1,ent 57 (.int 2 255) h2] tk)
    ⟨(behind 54 58 h #[ent 55 (.int 3 249) h0,ent 56 (.int 2 252) h1,ent 57 (.int 2 255) h2] (pl [b0,b1,b2])).wrap (fun r => (gOf h 58 (.int 3 258) G r).wrap K H id lv') H id lv,cE,ds.dpos,B0⟩ =
    some (S w.params os [ent 55 (.int 3 249) h0,ent 56 (.int 2 252) h1,ent 57 (.int 2 255) h2] tk,⟨(gOf h 58 (.int 3 258) G none).wrap K H id lv',cE,ds.dpos,B0⟩) := by cases b <;> cases b0 <;> cases b1 <;> cases b2 <;> kernel_rfl
theorem znK (h0 h1 h2 h : Int) : placesWithHash (#[ent 55 (.int 3 249) h0,ent 56 (.int 2 252) h1,ent 57 (.int 2 255) h2] : Array DictEntry).size (fun i => (#[ent 55 (.int 3 249) h0,ent 56 (.int 2 252) h1,ent 57 (.int 2 255) h2] : Array DictEntry)[i]?.map (·.hash)) h = pl [h0 == h,h1 == h,h2 == h] := by kernel_rfl
theorem zpp (h0 h1 h2 h3 : Int) (tk : Nat) (K : Array DictEntry -> Sem Fin) (lv : List Value -> List Value) : segGoT treeTable pR (fol b w) 11 za3 1 1 (S w.params os [ent 55 (.int 3 249) h0,ent 56 (.int 2 252) h1,ent 57 (.int 2 255) h2,ent 58 (.int 3 258) h3] tk) ⟨(dictEntries 54 none).wrap K H id lv,cE,ds.dpos,B0⟩ =
    some (S w.params os [ent 55 (.int 3 249) h0,ent 56 (.int 2 252) h1,ent 57 (.int 2 255) h2,ent 58 (.int 3 258) h3] tk,⟨K #[ent 55 (.int 3 249) h0,ent 56 (.int 2 252) h1,ent 57 (.int 2 255) h2,ent 58 (.int 3 258) h3],cE,ds.dpos,B0⟩) := by kernel_rfl
theorem zqz (h0 h1 h2 h3 : Int) (h4 : Int) (tk : Nat) (G : Nat -> Sem Unit) (K : Unit -> Sem Fin) (lv : List Value -> List Value) : segGoT treeTable pR (fol b w) 11 za3 1 4 (S w.params os [ent 55 (.int 3 249) h0,ent 56 (.int 2 252) h1,ent 57 (.int 2 255) h2,ent 58 (.int 3 258) h3] tk) ⟨(gOf h4 59 (.int 3 261) G none).wrap K H id lv,cE,ds.dpos,B0⟩ =
    some (S w.params os [ent 55 (.int 3 249) h0,ent 56 (.int 2 252) h1,ent 57 (.int 2 255) h2,ent 58 (.int 3 258) h3,ent 59 (.int 3 261) h4] tk,⟨K (),cE,ds.dpos,B0⟩) := by kernel_rfl
theorem zok (h0 h1 h2 h3 : Int) (b0 b1 b2 b3 : Bool) (h : Int) (tk : Nat) (G : Nat -> Sem Unit) (K : Unit -> Sem Fin) (lv lv' : List Value -> List Value) : zdM treeTable pR (fol b w) 11 za3 "dict.set.new-key-at-the-end" 500 (S w.params os [ent 55 (.int 3 249) h0,ent 56 (.int 2 252) h1,ent 57 (.int 2 255) h2,ent 58 (.int 3 258) h3] tk)
    ⟨(behind 54 59 h #[ent 55 (.int 3 249) h0,ent 56 (.int 2 252) h1,ent 57 (.int 2 255) h2,ent 58 (.int 3 258) h3] (pl [b0,b1,b2,b3])).wrap (fun r => (gOf h 59 (.int 3 261) G r).wrap K H id lv') H id lv,cE,ds.dpos,B0⟩ =
    some (S w.params os [ent 55 (.int 3 249) h0,ent 56 (.int 2 252) h1,ent 57 (.int 2 255) h2,ent 58 (.int 3 258) h3] tk,⟨(gOf h 59 (.int 3 261) G none).wrap K H id lv',cE,ds.dpos,B0⟩) := by cases b <;> cases b0 <;> cases b1 <;> cases b2 <;> cases b3 <;> kernel_rfl
theorem zm1 (h0 h1 h2 h3 h : Int) : placesWithHash (#[ent 55 (.int 3 249) h0,ent 56 (.int 2 252) h1,ent 57 (.int 2 255) h2,ent 58 (.int 3 258) h3] : Array DictEntry).size (fun i => (#[ent 55 (.int 3 249) h0,ent 56 (.int 2 252) h1,ent 57 (.int 2 255) h2,ent 58 (.int 3 258) h3] : Array DictEntry)[i]?.map (·.hash)) h = pl [h0 == h,h1 == h,h2 == h,h3 == h] := by kernel_rfl
theorem zpN (h0 h1 h2 h3 h4 : Int) (tk : Nat) (K : Array DictEntry -> Sem Fin) (lv : List Value -> List Value) : segGoT treeTable pR (fol b w) 11 za3 1 1 (S w.params os [ent 55 (.int 3 249) h0,ent 56 (.int 2 252) h1,ent 57 (.int 2 255) h2,ent 58 (.int 3 258) h3,ent 59 (.int 3 261) h4] tk) ⟨(dictEntries 54 none).wrap K H id lv,cE,ds.dpos,B0⟩ =
    some (S w.params os [ent 55 (.int 3 249) h0,ent 56 (.int 2 252) h1,ent 57 (.int 2 255) h2,ent 58 (.int 3 258) h3,ent 59 (.int 3 261) h4] tk,⟨K #[ent 55 (.int 3 249) h0,ent 56 (.int 2 252) h1,ent 57 (.int 2 255) h2,ent 58 (.int 3 258) h3,ent 59 (.int 3 261) h4],cE,ds.dpos,B0⟩) := by kernel_rfl
theorem zqM (h0 h1 h2 h3 h4 : Int) (h5 : Int) (tk : Nat) (G : Nat -> Sem Unit) (K : Unit -> Sem Fin) (lv : List Value -> List Value) : segGoT treeTable pR (fol b w) 11 za3 1 4 (S w.params os [ent 55 (.int 3 249) h0,ent 56 (.int 2 252) h1,ent 57 (.int 2 255) h2,ent 58 (.int 3 258) h3,ent 59 (.int 3 261) h4] tk) ⟨(gOf h5 60 (.int 2 264) G none).wrap K H id lv,cE,ds.dpos,B0⟩ =
    some (S w.params os [ent 55 (.int 3 249) h0,ent 56 (.int 2 252) h1,ent 57 (.int 2 255) h2,ent 58 (.int 3 258) h3,ent 59 (.int 3 261) h4,ent 60 (.int 2 264) h5] tk,⟨K (),cE,ds.dpos,B0⟩) := by kernel_rfl
theorem zoJ (h0 h1 h2 h3 h4 : Int) (b0 b1 b2 b3 b4 : Bool) (h : Int) (tk : Nat) (G : Nat -> Sem Unit) (K : Unit -> Sem Fin) (lv lv' : List Value -> List Value) : zdM treeTable pR (fol b w) 11 za3 "dict.set.new-key-at-the-end" 500 (S w.params os [ent 55 (.int 3 249) h0,ent 56 (.int 2 252) h1,ent 57 (.int 2 255) h2,ent 58 (.int 3 258) h3,ent 59 (.int 3 261) h4] tk)
    ⟨(behind 54 60 h #[ent 55 (.int 3 249) h0,ent 56 (.int 2 252) h1,ent 57 (.int 2 255) h2,ent 58 (.int 3 258) h3,ent 59 (.int 3 261) h4] (pl [b0,b1,b2,b3,b4])).wrap (fun r => (gOf h 60 (.int 2 264) G r).wrap K H id lv') H id lv,cE,ds.dpos,B0⟩ =
    some (S w.params os [ent 55 (.int 3 249) h0,ent 56 (.int 2 252) h1,ent 57 (.int 2 255) h2,ent 58 (.int 3 258) h3,ent 59 (.int 3 261) h4] tk,⟨(gOf h 60 (.int 2 264) G none).wrap K H id lv',cE,ds.dpos,B0⟩) := by cases b <;> cases b0 <;> cases b1 <;> cases b2 <;> cases b3 <;> cases b4 <;> kernel_rfl
theorem znt (h0 h1 h2 h3 h4 h : Int) : placesWithHash (#[ent 55 (.int 3 249) h0,ent 56 (.int 2 252) h1,ent 57 (.int 2 255) h2,ent 58 (.int 3 258) h3,ent 59 (.int 3 261) h4] : Array DictEntry).size (fun i => (#[ent 55 (.int 3 249) h0,ent 56 (.int 2 252) h1,ent 57 (.int 2 255) h2,ent 58 (.int 3 258) h3,ent 59 (.int 3 261) h4] : Array DictEntry)[i]?.map (·.hash)) h = pl [h0 == h,h1 == h,h2 == h,h3 == h,h4 == h] := by kernel_rfl
end
def parts (P : Params) : List DictEntry := [ent 55 (.int 3 249) (hP P "row" "put"),ent 56 (.int 2 252) (hP P "row" "take"),ent 57 (.int 2 255) (hP P "row" "look"),ent 58 (.int 3 258) (hP P "number" "set"),ent 59 (.int 3 261) (hP P "number" "add"),ent 60 (.int 2 264) (hP P "number" "look")]
noncomputable def SB (w : World) (os : OsState) : SharedT := { S w.params os (parts w.params) 284 with tree := ((zlG w.params).set 54 (fun _ => zfB (parts w.params))).set 3 (Obj.mapDictKeys (·.push ⟨PyData.keyHash w.params (PySem.Str.ofString "PARTS"),.str (PySem.Str.ofString "PARTS") 283,.ref 54⟩)) }
theorem zpi (b : Bool) (w : World) (os : OsState) (es : List DictEntry) (tk : Nat) : S (fol b w).params os es tk = S w.params os es tk := by kernel_rfl
theorem zqG (b : Bool) (w : World) (os : OsState) (hs : List DictEntry) (e : hs = parts w.params) : segRunT treeTable pR (fol b w) 11 za3 1 8 (S w.params os hs 283) ⟨(standAt ds.posN >>= fun _ => bindName sh.env_1 ds.x (.ref 54) >>= fun _ => pure Flow.next).wrap doneF deadEnd id id,cE,ds.dpos,B0⟩ =
    some (.next,{ S w.params os hs 284 with tree := ((zlG w.params).set 54 (fun _ => zfB hs)).set 3 (Obj.mapDictKeys (·.push ⟨PyData.keyHash w.params (PySem.Str.ofString "PARTS"),.str (PySem.Str.ofString "PARTS") 283,.ref 54⟩)) },cE,ds.posN) := by kernel_rfl
theorem mid (b : Bool) (w : World) (os : OsState) : segRun treeTable pR (fol b w) 11 za3 1 (39 + (530 + (530 + (530 + (530 + (530 + (530 + 8))))))) (SA (fol b w) os).abs (pieceOf (zaB 6) sh.env_1 cE zmu B0) = some (.next,(SB (fol b w) os).abs,cE,ds.posN) := by
  rw [st6]; show segRun treeTable pR (fol b w) 11 za3 1 _ (SA (fol b w) os).abs ⟨(exec (.Assign [.Name ds.x ds.posN] (.Dict ds.ks ds.vs ds.dpos) ds.pos) sh.env_1).wrap doneF deadEnd id id,cE,zmu,B0⟩ = _; rw [zld sh.env_1 ds.x ds.posN ds.dpos ds.pos ds.ks ds.vs pairs zot zqN (by rw [zgY]; decide) doneF deadEnd]
  refine zfs (go1 (fol b w) os (fun d _ => (standAt ds.posN >>= fun _ => bindName sh.env_1 ds.x (.ref d) >>= fun _ => pure Flow.next).wrap doneF deadEnd id id) deadEnd) ?_ rfl; rw [zpi]; unfold vs0; rw [zbK,zbb]
  refine zdD (l := [hsh w.params "row",hsh w.params "put"]) (es := #[]) (s1 := S w.params os [] 268) (s2 := S w.params os [ent 55 (.int 3 249) (hP w.params "row" "put")] 268) rfl (fun K lv => zeF ▸ zoc Builtin.Tuple.tupleHashOf b w os deadEnd [] 265 K lv) (fun K lv => zpZ b w os deadEnd  268 K lv)
    (fun h G K lv lv' => by rw [znb]; exact zo7 b w os deadEnd   h 268 G K lv lv') (fun G K lv => zqJ b w os deadEnd  _ 268 G K lv) ?_
  rw [zbK,zbb]
  refine zdD (l := [hsh w.params "row",hsh w.params "take"]) (es := #[ent 55 (.int 3 249) (hP w.params "row" "put")]) (s1 := S w.params os [ent 55 (.int 3 249) (hP w.params "row" "put")] 271) (s2 := S w.params os [ent 55 (.int 3 249) (hP w.params "row" "put"),ent 56 (.int 2 252) (hP w.params "row" "take")] 271) rfl (fun K lv => zeF ▸ zoG Builtin.Tuple.tupleHashOf b w os deadEnd [ent 55 (.int 3 249) (hP w.params "row" "put")] 268 K lv) (fun K lv => zpq b w os deadEnd (hP w.params "row" "put") 271 K lv)
    (fun h G K lv lv' => by rw [znj]; exact zoh b w os deadEnd (hP w.params "row" "put") _ h 271 G K lv lv') (fun G K lv => zqw b w os deadEnd (hP w.params "row" "put") _ 271 G K lv) ?_
  rw [zbK,zbb]
  refine zdD (l := [hsh w.params "row",hsh w.params "look"]) (es := #[ent 55 (.int 3 249) (hP w.params "row" "put"),ent 56 (.int 2 252) (hP w.params "row" "take")]) (s1 := S w.params os [ent 55 (.int 3 249) (hP w.params "row" "put"),ent 56 (.int 2 252) (hP w.params "row" "take")] 274) (s2 := S w.params os [ent 55 (.int 3 249) (hP w.params "row" "put"),ent 56 (.int 2 252) (hP w.params "row" "take"),ent 57 (.int 2 255) (hP w.params "row" "look")] 274) rfl (fun K lv => zeF ▸ zn2 Builtin.Tuple.tupleHashOf b w os deadEnd [ent 55 (.int 3 249) (hP w.params "row" "put"),ent 56 (.int 2 252) (hP w.params "row" "take")] 271 K lv) (fun K lv => zpT b w os deadEnd (hP w.params "row" "put") (hP w.params "row" "take") 274 K lv)
    (fun h G K lv lv' => by rw [zne]; exact zoL b w os deadEnd (hP w.params "row" "put") (hP w.params "row" "take") _ _ h 274 G K lv lv') (fun G K lv => zqh b w os deadEnd (hP w.params "row" "put") (hP w.params "row" "take") _ 274 G K lv) ?_
  rw [zbK,zbb]
  refine zdD (l := [hsh w.params "number",hsh w.params "set"]) (es := #[ent 55 (.int 3 249) (hP w.params "row" "put"),ent 56 (.int 2 252) (hP w.params "row" "take"),ent 57 (.int 2 255) (hP w.params "row" "look")]) (s1 := S w.params os [ent 55 (.int 3 249) (hP w.params "row" "put"),ent 56 (.int 2 252) (hP w.params "row" "take"),ent 57 (.int 2 255) (hP w.params "row" "look")] 277) (s2 := S w.params os [ent 55 (.int 3 249) (hP w.params "row" "put"),ent 56 (.int 2 252) (hP w.params "row" "take"),ent 57 (.int 2 255) (hP w.params "row" "look"),ent 58 (.int 3 258) (hP w.params "number" "set")] 277) rfl (fun K lv => zeF ▸ zo2 Builtin.Tuple.tupleHashOf b w os deadEnd [ent 55 (.int 3 249) (hP w.params "row" "put"),ent 56 (.int 2 252) (hP w.params "row" "take"),ent 57 (.int 2 255) (hP w.params "row" "look")] 274 K lv) (fun K lv => zpU b w os deadEnd (hP w.params "row" "put") (hP w.params "row" "take") (hP w.params "row" "look") 277 K lv)
    (fun h G K lv lv' => by rw [znK]; exact zpe b w os deadEnd (hP w.params "row" "put") (hP w.params "row" "take") (hP w.params "row" "look") _ _ _ h 277 G K lv lv') (fun G K lv => zqf b w os deadEnd (hP w.params "row" "put") (hP w.params "row" "take") (hP w.params "row" "look") _ 277 G K lv) ?_
  rw [zbK,zbb]
  refine zdD (l := [hsh w.params "number",hsh w.params "add"]) (es := #[ent 55 (.int 3 249) (hP w.params "row" "put"),ent 56 (.int 2 252) (hP w.params "row" "take"),ent 57 (.int 2 255) (hP w.params "row" "look"),ent 58 (.int 3 258) (hP w.params "number" "set")]) (s1 := S w.params os [ent 55 (.int 3 249) (hP w.params "row" "put"),ent 56 (.int 2 252) (hP w.params "row" "take"),ent 57 (.int 2 255) (hP w.params "row" "look"),ent 58 (.int 3 258) (hP w.params "number" "set")] 280) (s2 := S w.params os [ent 55 (.int 3 249) (hP w.params "row" "put"),ent 56 (.int 2 252) (hP w.params "row" "take"),ent 57 (.int 2 255) (hP w.params "row" "look"),ent 58 (.int 3 258) (hP w.params "number" "set"),ent 59 (.int 3 261) (hP w.params "number" "add")] 280) rfl (fun K lv => zeF ▸ zn9 Builtin.Tuple.tupleHashOf b w os deadEnd [ent 55 (.int 3 249) (hP w.params "row" "put"),ent 56 (.int 2 252) (hP w.params "row" "take"),ent 57 (.int 2 255) (hP w.params "row" "look"),ent 58 (.int 3 258) (hP w.params "number" "set")] 277 K lv) (fun K lv => zpp b w os deadEnd (hP w.params "row" "put") (hP w.params "row" "take") (hP w.params "row" "look") (hP w.params "number" "set") 280 K lv)
    (fun h G K lv lv' => by rw [zm1]; exact zok b w os deadEnd (hP w.params "row" "put") (hP w.params "row" "take") (hP w.params "row" "look") (hP w.params "number" "set") _ _ _ _ h 280 G K lv lv') (fun G K lv => zqz b w os deadEnd (hP w.params "row" "put") (hP w.params "row" "take") (hP w.params "row" "look") (hP w.params "number" "set") _ 280 G K lv) ?_
  rw [zbK,zbb]
  refine zdD (l := [hsh w.params "number",hsh w.params "look"]) (es := #[ent 55 (.int 3 249) (hP w.params "row" "put"),ent 56 (.int 2 252) (hP w.params "row" "take"),ent 57 (.int 2 255) (hP w.params "row" "look"),ent 58 (.int 3 258) (hP w.params "number" "set"),ent 59 (.int 3 261) (hP w.params "number" "add")]) (s1 := S w.params os [ent 55 (.int 3 249) (hP w.params "row" "put"),ent 56 (.int 2 252) (hP w.params "row" "take"),ent 57 (.int 2 255) (hP w.params "row" "look"),ent 58 (.int 3 258) (hP w.params "number" "set"),ent 59 (.int 3 261) (hP w.params "number" "add")] 283) (s2 := S w.params os [ent 55 (.int 3 249) (hP w.params "row" "put"),ent 56 (.int 2 252) (hP w.params "row" "take"),ent 57 (.int 2 255) (hP w.params "row" "look"),ent 58 (.int 3 258) (hP w.params "number" "set"),ent 59 (.int 3 261) (hP w.params "number" "add"),ent 60 (.int 2 264) (hP w.params "number" "look")] 283) rfl (fun K lv => zeF ▸ zoQ Builtin.Tuple.tupleHashOf b w os deadEnd [ent 55 (.int 3 249) (hP w.params "row" "put"),ent 56 (.int 2 252) (hP w.params "row" "take"),ent 57 (.int 2 255) (hP w.params "row" "look"),ent 58 (.int 3 258) (hP w.params "number" "set"),ent 59 (.int 3 261) (hP w.params "number" "add")] 280 K lv) (fun K lv => zpN b w os deadEnd (hP w.params "row" "put") (hP w.params "row" "take") (hP w.params "row" "look") (hP w.params "number" "set") (hP w.params "number" "add") 283 K lv)
    (fun h G K lv lv' => by rw [znt]; exact zoJ b w os deadEnd (hP w.params "row" "put") (hP w.params "row" "take") (hP w.params "row" "look") (hP w.params "number" "set") (hP w.params "number" "add") _ _ _ _ _ h 283 G K lv lv') (fun G K lv => zqM b w os deadEnd (hP w.params "row" "put") (hP w.params "row" "take") (hP w.params "row" "look") (hP w.params "number" "set") (hP w.params "number" "add") _ 283 G K lv) ?_
  exact segRun_of (zqG b w os _ rfl)
theorem zns (w : World) (os : OsState) : segRun treeTable pR w 11 za3 1 3227 (SA w os).abs (pieceOf (zaB 6) sh.env_1 cE zmu B0) = some (.next,(SB w os).abs,cE,ds.posN) :=
  byRow2 "special-get-raises" (P := fun w => segRun treeTable pR w 11 za3 1 3227 (SA w os).abs (pieceOf (zaB 6) sh.env_1 cE zmu B0) = some (.next,(SB w os).abs,cE,ds.posN)) (fun w => mid false w os) (fun w => mid true w os) w
noncomputable def KF (P : Params) : Frag := [(2,PySem.W.boot_o_2 P),(3,shZ.o_289 P),(15,shZ.o_7 P),(22,shZ.o_14 P),(23,shZ.o_15 P),(24,shZ.o_39 P),(25,shZ.o_17 P),(28,shZ.o_24 P),(35,shZ.o_31 P),(36,shZ.o_32 P),(37,shZ.o_33 P),(40,shZ.o_40 P),(47,shZ.o_47 P),(48,shZ.o_48 P),(49,shZ.o_49 P),(52,shZ.o_52 P),(53,shZ.o_53 P),(54,zfB (parts P)),(55,tup "row" "put" 247),(56,tup "row" "take" 250),(57,tup "row" "look" 253),(58,tup "number" "set" 256),(59,tup "number" "add" 259),(60,tup "number" "look" 262),(61,shZ.o_66 P),(63,shZ.o_68 P),(64,shZ.o_69 P),(66,shZ.o_71 P),(67,shZ.o_72 P),(68,shZ.o_73 P),(70,shZ.o_75 P),(71,shZ.o_76 P),(73,shZ.o_78 P),(74,shZ.o_79 P),(75,shZ.o_80 P),(77,shZ.o_82 P),(78,shZ.o_83 P),(80,shZ.o_85 P),(81,shZ.o_86 P),(82,shZ.o_87 P),(84,shZ.o_89 P),(85,shZ.o_90 P),(87,shZ.o_92 P),(88,shZ.o_93 P),(89,shZ.o_94 P),(91,shZ.o_96 P),(92,shZ.o_97 P),(94,shZ.o_99 P),(95,shZ.o_100 P),(96,shZ.o_101 P),(98,shZ.o_103 P),(99,shZ.o_104 P),(101,shZ.o_106 P),(102,shZ.o_107 P),(103,shZ.o_108 P),(105,shZ.o_110 P),(106,shZ.o_111 P),(108,shZ.o_113 P),(109,shZ.o_114 P),(110,shZ.o_115 P),(112,shZ.o_117 P),(113,shZ.o_118 P),(115,shZ.o_120 P),(116,shZ.o_121 P),(117,shZ.o_127 P),(119,shZ.o_129 P),(120,shZ.o_130 P),(122,shZ.o_132 P),(123,shZ.o_133 P),(124,shZ.o_134 P),(126,shZ.o_136 P),(127,shZ.o_137 P),(129,shZ.o_139 P),(130,shZ.o_140 P),(131,shZ.o_141 P),(133,shZ.o_143 P),(134,shZ.o_144 P),(136,shZ.o_146 P),(137,shZ.o_147 P),(138,shZ.o_148 P),(141,shZ.o_151 P),(142,shZ.o_152 P),(143,shZ.o_153 P),(145,shZ.o_155 P),(146,shZ.o_156 P),(148,shZ.o_158 P),(149,shZ.o_159 P),(150,shZ.o_160 P),(153,shZ.o_163 P),(154,shZ.o_164 P),(155,shZ.o_165 P),(158,shZ.o_168 P),(159,shZ.o_169 P),(160,shZ.o_170 P),(162,shZ.o_172 P),(163,shZ.o_173 P),(165,shZ.o_175 P),(166,shZ.o_176 P),(167,shZ.o_177 P),(169,shZ.o_179 P),(170,shZ.o_180 P),(172,shZ.o_182 P),(173,shZ.o_183 P),(174,shZ.o_184 P),(176,shZ.o_186 P),(177,shZ.o_187 P),(179,shZ.o_189 P),(180,shZ.o_190 P),(181,shZ.o_191 P),(183,shZ.o_193 P),(184,shZ.o_194 P),(186,shZ.o_196 P),(187,shZ.o_197 P),(188,shZ.o_198 P),(191,shZ.o_201 P),(192,shZ.o_202 P),(193,shZ.o_206 P),(195,shZ.o_208 P),(196,shZ.o_209 P),(198,shZ.o_211 P),(199,shZ.o_212 P),(200,shZ.o_213 P),(202,shZ.o_215 P),(203,shZ.o_216 P),(205,shZ.o_218 P),(206,shZ.o_219 P),(207,shZ.o_220 P),(209,shZ.o_222 P),(210,shZ.o_223 P),(212,shZ.o_225 P),(213,shZ.o_226 P),(214,shZ.o_227 P),(216,shZ.o_229 P),(217,shZ.o_230 P),(219,shZ.o_232 P),(220,shZ.o_233 P),(221,shZ.o_234 P),(223,shZ.o_236 P),(224,shZ.o_237 P),(226,shZ.o_239 P),(227,shZ.o_240 P),(228,shZ.o_241 P),(230,shZ.o_243 P),(231,shZ.o_244 P),(233,shZ.o_246 P),(234,shZ.o_247 P),(235,shZ.o_248 P),(237,shZ.o_250 P),(238,shZ.o_251 P),(240,shZ.o_253 P),(241,shZ.o_254 P),(242,shZ.o_255 P),(244,shZ.o_257 P),(245,shZ.o_258 P),(247,shZ.o_260 P),(248,shZ.o_261 P),(249,shZ.o_262 P),(251,shZ.o_264 P),(252,shZ.o_265 P),(254,shZ.o_267 P),(255,shZ.o_268 P),(256,shZ.o_269 P),(258,shZ.o_271 P),(259,shZ.o_272 P),(261,shZ.o_274 P),(262,shZ.o_275 P),(263,shZ.o_276 P),(265,shZ.o_278 P),(266,shZ.o_279 P),(268,shZ.o_281 P),(269,shZ.o_282 P),(270,shZ.o_283 P),(273,shZ.o_286 P),(274,shZ.o_287 P),(275,shZ.o_291 P),(277,shZ.o_293 P),(278,shZ.o_294 P),(280,shZ.o_296 P),(281,shZ.o_297 P),(282,shZ.o_298 P),(284,shZ.o_300 P),(285,shZ.o_301 P),(287,shZ.o_303 P),(288,shZ.o_304 P),(289,shZ.o_305 P),(291,shZ.o_307 P),(292,shZ.o_308 P),(294,shZ.o_310 P),(295,shZ.o_311 P),(296,shZ.o_312 P),(298,shZ.o_314 P),(299,shZ.o_315 P),(301,shZ.o_317 P),(302,shZ.o_318 P),(303,shZ.o_319 P),(306,shZ.o_322 P),(307,shZ.o_323 P)]
def as0 : List Addr := [2,3,15,22,23,24,25,28,35,36,37,40,47,48,49,52,53,54,55,56,57,58,59,60,61,63,64,66,67,68,70,71,73,74,75,77,78,80,81,82,84,85,87,88,89,91,92,94,95,96,98,99,101,102,103,105,106,108,109,110,112,113,115,116,117,119,120,122,123,124,126,127,129,130,131,133,134,136,137,138,141,142,143,145,146,148,149,150,153,154,155,158,159,160,162,163,165,166,167,169,170,172,173,174,176,177,179,180,181,183,184,186,187,188,191,192,193,195,196,198,199,200,202,203,205,206,207,209,210,212,213,214,216,217,219,220,221,223,224,226,227,228,230,231,233,234,235,237,238,240,241,242,244,245,247,248,249,251,252,254,255,256,258,259,261,262,263,265,266,268,269,270,273,274,275,277,278,280,281,282,284,285,287,288,289,291,292,294,295,296,298,299,301,302,303,306,307]
noncomputable def q0 : Program := { PySem.Challenge.rw_callorder_k10_whole_one_after_the_other.prog with main := { PySem.Challenge.rw_callorder_k10_whole_one_after_the_other.prog.main with body := [zaB 1,zaB 2,zaB 3,zaB 5,zaB 6,zaB 7,zaB 8,zaB 9,zaB 10,zaB 11,zaB 12,zaB 13,zaB 14,zaB 15,zaB 16,zaB 18,zaB 19,zaB 21,zaB 23,zaB 24,zaB 25,zaB 26,zaB 27,zaB 28,zaB 29,zaB 30,zaB 32,zaB 33,zaB 34,zaB 35,zaB 36,zaB 37,zaB 38,zaB 39,zaB 40,zaB 41,zaB 42,zaB 43,zaB 44,zaB 45,zaB 46,zaB 47] } }
abbrev loose0 : List PySem.Str := [PySem.Str.ofString "STARTS",PySem.Str.ofString "PARTS"]
noncomputable def zke : List Stmt := (behindTheImports pR).drop 7
theorem zmU : behindTheImports pR = sh.sts_4 ++ (sh.sts_21 ++ (sh.sts_37 ++ (zaB 6 :: zke))) := by kernel_rfl
theorem zp8 : ∀ w : World,(fencedOpening treeTable pR w 20000).map (fun s => (s.heap,s.gens,s.drawn,s.toks)) = some (boot_heap w.params,Array.mk [],boot_drawn,boot_toks) := boot_open (p := pR) (N := 20000) (by kernel_rfl) (by decide) (fun s => by kernel_rfl)
theorem zqA (w : World) (os : OsState) : topGo treeTable pR w 11 za3 12 ⟨boot_heap w.params,Array.mk [],boot_drawn,boot_toks,os⟩ (topStub pR) =
    some (({ tree := sh.tree_4 w.params,n := 15,life := { },gens := { toList := [] },drawn := { },toks := 187,os := os } : SharedT).abs,⟨denote treeTable cE,cE,zoX,B0⟩) := by kernel_rfl
theorem zph (w : World) (os : OsState) : segRun treeTable pR w 11 za3 1 1 ({ tree := sh.tree_4 w.params,n := 15,life := { },gens := { toList := [] },drawn := { },toks := 187,os := os } : SharedT).abs (blockOf (behindTheImports pR) sh.env_1 cE zoX B0) =
    some (.next,({ tree := sh.tree_4 w.params,n := 15,life := { },gens := { toList := [] },drawn := { },toks := 187,os := os } : SharedT).abs,cE,zoX) := by kernel_rfl
theorem zqr (w : World) (os : OsState) (N' : Nat) (r : Shared) (h : topRun treeTable pR w 11 za3 N' (SB w os).abs (restOf zke sh.env_1 cE ds.posN B0) = some r) :
    topRun treeTable pR w 11 za3 (12 + (1 + (196 + (214 + (264 + 3227)))) + N') ⟨boot_heap w.params,Array.mk [],boot_drawn,boot_toks,os⟩ (topStub pR) = some r := by
  have h1 := piece_cons (zns w os) h; have h2 := sh.chain pR (behindTheImports pR) w os (zaB 6 :: zke) (3227 + N') r h1; have h3 := piece_block (n := 1) (zph w os) (b := behindTheImports pR) (r := r) (N := (Nat.add 196 (Nat.add 214 (Nat.add 264 (3227 + N'))))) (by rw [<- zmU] at h2; exact h2)
  have h4 := go_top (zqA w os) h3; rw [show 12 + (1 + (196 + (214 + (264 + 3227)))) + N' = 12 + (1 + (Nat.add 196 (Nat.add 214 (Nat.add 264 (3227 + N'))))) from by show _ = 12 + (1 + (196 + (214 + (264 + (3227 + N'))))); omega]
  exact h4
theorem zqI (w : World) (s : Shared) : topRun treeTable pR w 11 za3 2 s ⟨doneF .next,cE,zpH,B0⟩ = some s := by
  obtain ⟨h,g,d,k,o⟩ := s; kernel_rfl
noncomputable abbrev hk : Hook := kHook KF as0 (fun _ => by kernel_rfl)
noncomputable abbrev Xt0 : Shared -> Bool := fun s => xlAt q0 [] s && recOk (RowW.records (OpenRow.toRowW PySem.Challenge.rw_callorder_k10_whole_one_after_the_other.row)) s
theorem zqg (w : World) (os : OsState) : (segRunT treeTable pR w 11 za3 1 1248 (SB w os) (piecesOf zke sh.env_1 cE ds.posN [topFrame zpF])).map (fun x => (x.1,x.2.2,
        (staticsOk (importedModules pR.main.body) (boot_heap w.params) x.2.1.abs.heap && namesBound pR x.2.1.abs.heap && gensDone x.2.1.abs && laidKept (boot_heap w.params) x.2.1.abs.heap),
        openSeen q0 loose0 (importedModules pR.main.body) Xt0 true x.2.1.abs,hk.obs x.2.1.abs)) =
      some (.next,(cE,zpH),true,openGood q0 loose0,hk.val w) := by kernel_rfl
theorem left0 : LeftO pR q0 loose0 Xt0 (Hook.obs hk) (Hook.val hk) 20000 := zl2 zp8 (fun w => by kernel_rfl) zqr zqI zqg (by decide)
end HD
namespace My
open PySem L2
open PySem.Spec (same_self)
def top (i : Nat) : Stmt := PySem.Challenge.pw_callorder_k10_whole_one_after_the_other.main.body.getD i (.Pass ⟨0,0,0,0⟩)
abbrev zcT : Stmt := top 7
abbrev zgE : List Str := ["kind"]
theorem zgq : zaw zgE ["kind"] (zag zcT) := ⟨rfl,rfl,rfl,by decide +kernel,rfl,by decide +kernel,by decide +kernel⟩
abbrev zhD : Stmt := top 8
abbrev zmB : List Str := ["kind"]
theorem zmc : zaw zmB ["kind"] (zag zhD) := ⟨rfl,rfl,rfl,by decide +kernel,rfl,by decide +kernel,by decide +kernel⟩
abbrev zbF : Stmt := top 9
abbrev zdR : List Str := ["value"]
theorem zdQ : zaw zdR ["value"] (zag zbF) := ⟨rfl,rfl,rfl,by decide +kernel,rfl,by decide +kernel,by decide +kernel⟩
abbrev zdg : Stmt := top 10
abbrev zhZ : List Str := ["deed","parts"]
theorem zhO : zaw zhZ ["deed","parts"] (zag zdg) := ⟨rfl,rfl,rfl,by decide +kernel,rfl,by decide +kernel,by decide +kernel⟩
abbrev zfL : Stmt := top 11
abbrev zkF : List Str := ["kind","deed","key"]
theorem sc_can_do : zaw zkF ["kind","deed"] (zag zfL) := ⟨rfl,rfl,rfl,by decide +kernel,rfl,by decide +kernel,by decide +kernel⟩
abbrev zcR : Stmt := top 12
abbrev zgn : List Str := ["kind","deed","word"]
theorem sc_check_deed : zaw zgn ["kind","deed"] (zag zcR) := ⟨rfl,rfl,rfl,by decide +kernel,rfl,by decide +kernel,by decide +kernel⟩
abbrev zfI : Stmt := top 13
abbrev zkt : List Str := ["row","deed","first"]
theorem sc_do_row : zaw zkt ["row","deed"] (zag zfI) := ⟨rfl,rfl,rfl,by decide +kernel,rfl,by decide +kernel,by decide +kernel⟩
abbrev zdl : Stmt := top 14
abbrev zhm : List Str := ["number","deed"]
theorem zhB : zaw zhm ["number","deed"] (zag zdl) := ⟨rfl,rfl,rfl,by decide +kernel,rfl,by decide +kernel,by decide +kernel⟩
abbrev zeE : Stmt := top 15
abbrev zjq : List Str := ["kind","thing","deed"]
theorem zjt : zaw zjq ["kind","thing","deed"] (zag zeE) := ⟨rfl,rfl,rfl,by decide +kernel,rfl,by decide +kernel,by decide +kernel⟩
abbrev zeB : Stmt := top 16
abbrev zjo : List Str := ["kind","deeds","thing","given","deed","done"]
theorem sc_answers : zaw zjo ["kind","deeds"] (zag zeB) := ⟨rfl,rfl,rfl,by decide +kernel,rfl,by decide +kernel,by decide +kernel⟩
abbrev zcx : Stmt := top 18
abbrev zfK : List Str := ["call"]
theorem zf1 : zaw zfK ["call"] (zag zcx) := ⟨rfl,rfl,rfl,by decide +kernel,rfl,by decide +kernel,by decide +kernel⟩
abbrev zbm : Stmt := top 19
abbrev zbM : List Str := ["calls","gone","call","left","first_end"]
theorem sc_free_calls : zaw zbM ["calls","gone"] (zag zbm) := ⟨rfl,rfl,rfl,by decide +kernel,rfl,by decide +kernel,by decide +kernel⟩
abbrev zcz : Stmt := top 21
abbrev zf4 : List Str := ["kind","calls","call"]
theorem sc_check_calls : zaw zf4 ["kind","calls"] (zag zcz) := ⟨rfl,rfl,rfl,by decide +kernel,rfl,by decide +kernel,by decide +kernel⟩
abbrev zaQ : Stmt := top 23
abbrev zbW : List Str := ["seeing","value","first_end","fitting"]
theorem sc_fitting_call : zaw zbW ["seeing","value"] (zag zaQ) := ⟨rfl,rfl,rfl,by decide +kernel,rfl,by decide +kernel,by decide +kernel⟩
abbrev zaX : Stmt := top 24
abbrev zba : List Str := ["row","calls","order","left","seeing","call","later","place","value"]
theorem sc_can_come_out : zaw zba ["row","calls","order"] (zag zaX) := ⟨rfl,rfl,rfl,by decide +kernel,rfl,by decide +kernel,by decide +kernel⟩
abbrev zeH : Stmt := top 25
abbrev zi3 : List Str := ["kind","calls","order","thing","ways","number","done"]
theorem sc_ways_on : zaw zi3 ["kind","calls","order","thing"] (zag zeH) := ⟨rfl,rfl,rfl,by decide +kernel,rfl,by decide +kernel,by decide +kernel⟩
abbrev zcj : Stmt := top 26
abbrev zfg : List Str := ["kind","calls","waiting","seen","way","order","thing","key"]
theorem sc_search_order : zaw zfg ["kind","calls"] (zag zcj) := ⟨rfl,rfl,rfl,by decide +kernel,rfl,by decide +kernel,by decide +kernel⟩
abbrev zbV : Stmt := top 27
abbrev zeP : List Str := ["kind","call","things","behind","thing","done"]
theorem sc_things_behind : zaw zeP ["kind","call","things"] (zag zbV) := ⟨rfl,rfl,rfl,by decide +kernel,rfl,by decide +kernel,by decide +kernel⟩
abbrev zcS : Stmt := top 28
abbrev zgp : List Str := ["kind","calls","level","following","gone","number","things"]
theorem sc_next_level : zaw zgp ["kind","calls","level"] (zag zcS) := ⟨rfl,rfl,rfl,by decide +kernel,rfl,by decide +kernel,by decide +kernel⟩
abbrev zcs : Stmt := top 29
abbrev zew : List Str := ["kind","calls","levels","dead","level","gone"]
theorem sc_dead_ends : zaw zew ["kind","calls"] (zag zcs) := ⟨rfl,rfl,rfl,by decide +kernel,rfl,by decide +kernel,by decide +kernel⟩
abbrev zdX : Stmt := top 30
abbrev ziJ : List Str := ["kind","calls","order"]
theorem sc_order_of : zaw ziJ ["kind","calls"] (zag zdX) := ⟨rfl,rfl,rfl,by decide +kernel,rfl,by decide +kernel,by decide +kernel⟩
abbrev zcV : Stmt := top 32
abbrev zgr : List Str := ["_law_found"]
theorem zgm : zaw zgr ["_law_found"] (zag zcV) := ⟨rfl,rfl,rfl,by decide +kernel,rfl,by decide +kernel,by decide +kernel⟩
abbrev zeO : Stmt := top 33
abbrev zi2 : List Str := ["_law_script","_law_k"]
theorem zi8 : zaw zi2 ["_law_script","_law_k"] (zag zeO) := ⟨rfl,rfl,rfl,by decide +kernel,rfl,by decide +kernel,by decide +kernel⟩
abbrev zdw : Stmt := top 34
abbrev zhn : List Str := ["_law_kind","_law_state","_law_deed","_law_first"]
theorem sc__law_done : zaw zhn ["_law_kind","_law_state","_law_deed"] (zag zdw) := ⟨rfl,rfl,rfl,by decide +kernel,rfl,by decide +kernel,by decide +kernel⟩
abbrev zca : Stmt := top 35
abbrev zfo : List Str := ["_law_cell","_law_kind","_law_thing","_law_wide","_law_value","_law_here","_law_word"]
theorem sc__law_deed_of : zaw zfo ["_law_cell","_law_kind","_law_thing"] (zag zca) := ⟨rfl,rfl,rfl,by decide +kernel,rfl,by decide +kernel,by decide +kernel⟩
abbrev zbz : Stmt := top 36
abbrev zei : List Str := ["_law_cells","_law_kind","_law_thing","_law_wide","_law_calls","_law_state","_law_k","_law_cell","_law_begin","_law_end","_law_deed","_law_answer","_law_made","_law_spot"]
theorem sc__law_kept : zaw zei ["_law_cells","_law_kind","_law_thing","_law_wide"] (zag zbz) := ⟨rfl,rfl,rfl,by decide +kernel,rfl,by decide +kernel,by decide +kernel⟩
abbrev zcA : Stmt := top 37
abbrev zgc : List Str := ["_law_calls","_law_cell","_law_made","_law_spot","_law_begin","_law_end","_law_deed","_law_answer","_law_way","_law_some"]
theorem sc__law_spoilt : zaw zgc ["_law_calls","_law_cell"] (zag zcA) := ⟨rfl,rfl,rfl,by decide +kernel,rfl,by decide +kernel,by decide +kernel⟩
abbrev zbC : Stmt := top 38
abbrev zdV : List Str := ["_law_calls","_law_order","_law_gone","_law_k","_law_j"]
theorem sc__law_keeps_time : zaw zdV ["_law_calls","_law_order"] (zag zbC) := ⟨rfl,rfl,rfl,by decide +kernel,rfl,by decide +kernel,by decide +kernel⟩
abbrev zcY : Stmt := top 39
abbrev zgl : List Str := ["_law_kind","_law_calls","_law_order","_law_state","_law_k","_law_answer"]
theorem sc__law_holds : zaw zgl ["_law_kind","_law_calls","_law_order"] (zag zcY) := ⟨rfl,rfl,rfl,by decide +kernel,rfl,by decide +kernel,by decide +kernel⟩
abbrev zbX : Stmt := top 40
abbrev zeD : List Str := ["_law_kind","_law_state"]
theorem zeW : zaw zeD ["_law_kind","_law_state"] (zag zbX) := ⟨rfl,rfl,rfl,by decide +kernel,rfl,by decide +kernel,by decide +kernel⟩
abbrev zb8 : Stmt := top 41
abbrev zfj : List Str := ["_law_kind","_law_state"]
theorem zfm : zaw zfj ["_law_kind","_law_state"] (zag zb8) := ⟨rfl,rfl,rfl,by decide +kernel,rfl,by decide +kernel,by decide +kernel⟩
abbrev zbv : Stmt := top 42
abbrev zcf : List Str := ["_law_kind","_law_calls","_law_row","_law_known","_law_left","_law_k","_law_many","_law_here","_law_state","_law_answer","_law_behind"]
theorem sc__law_is_end : zaw zcf ["_law_kind","_law_calls","_law_row","_law_known"] (zag zbv) := ⟨rfl,rfl,rfl,by decide +kernel,rfl,by decide +kernel,by decide +kernel⟩
abbrev zcX : Stmt := top 43
abbrev zgu : List Str := ["_law_kind","_law_calls","_law_rows","_law_known","_law_row"]
theorem sc__law_shows : zaw zgu ["_law_kind","_law_calls","_law_rows"] (zag zcX) := ⟨rfl,rfl,rfl,by decide +kernel,rfl,by decide +kernel,by decide +kernel⟩
abbrev zbY : Stmt := top 44
abbrev zeM : List Str := ["_law_found","_law_kind","_law_row","_law_numbers","_law_number"]
theorem sc__law_are_ends : zaw zeM ["_law_found","_law_kind"] (zag zbY) := ⟨rfl,rfl,rfl,by decide +kernel,rfl,by decide +kernel,by decide +kernel⟩
abbrev zby : Stmt := top 45
abbrev zdJ : List Str := ["_law_found","_law_number"]
theorem sc__law_are_numbers : zaw zdJ ["_law_found"] (zag zby) := ⟨rfl,rfl,rfl,by decide +kernel,rfl,by decide +kernel,by decide +kernel⟩
abbrev zbB : Stmt := top 46
abbrev zdO : List Str := ["_law_found","_law_kind","_law_calls"]
theorem zdT : zaw zdO ["_law_found","_law_kind","_law_calls"] (zag zbB) := ⟨rfl,rfl,rfl,by decide +kernel,rfl,by decide +kernel,by decide +kernel⟩
abbrev zbp : Stmt := top 47
abbrev zc1 : List Str := ["_law_script","_law_kind","_law_drawn","_law_calls","_law_k","_law_place","_law_rows","_law_order","_law_plain","_law_begin","_law_end","_law_deed","_law_answer","_law_due","_law_found"]
theorem sc_law : zaw zc1 ["_law_script"] (zag zbp) := ⟨rfl,rfl,rfl,by decide +kernel,rfl,by decide +kernel,by decide +kernel⟩
structure Bl (mg : Str -> Option Value) : Prop where
  any_ : mg "any" = none
  bool_ : mg "bool" = none
  enumerate_ : mg "enumerate" = none
  int_ : mg "int" = none
  isinstance_ : mg "isinstance" = none
  len_ : mg "len" = none
  list_ : mg "list" = none
  min_ : mg "min" = none
  range_ : mg "range" = none
  reversed_ : mg "reversed" = none
  sorted_ : mg "sorted" = none
  str_ : mg "str" = none
  tuple_ : mg "tuple" = none
def zor (K : Fg) : R2 := fun x y H Q => ∃ a b xs ys,x = .ref a /\ y = .ref b /\ SqT K H a xs /\ SqT K H b ys /\ ys ≠ [] /\ xs.length + ys.length <= sizeLine /\ (xs = [] -> Q (.ref b) H) /\ (xs ≠ [] -> ∀ p,H p = none -> Q (.ref p) (upd H p (.tup (xs ++ ys))))
theorem ziH {X : Cx} : OpR X (binaryOp .Add) (zor X.K) := by
  intro pins s σ H x y v u Q I rx ry h; obtain ⟨a,b,xs,ys,rfl,rfl,ha,hb,hy,hz,q1,q2⟩ := h
  by_cases hx : xs = []
  . cases rx; cases ry; obtain ⟨its,r1,p1,_⟩ := I.tuple ha; obtain ⟨its2,r2,p2,_⟩ := I.tuple hb; subst hx; cases r1; obtain ⟨⟨cls,dd,data,sl⟩,ho,hc,n,hd⟩ := p1; obtain ⟨⟨cls2,dd2,data2,sl2⟩,ho2,hc2,n2,hd2⟩ := p2; simp only at hc hd hc2 hd2; subst hc hd hc2 hd2
    exact concat_meets ⟨_,ho,rfl⟩ ⟨_,ho2,rfl⟩ noFill_tuple_add seq_tuple_add PySem.F.slot_tuple_add PySem.F.entry_tuple_add (PySem.F.args_tuple_add_2 _ _)
      (PyProof.Rows.tuple_addW0 a b _ _ n n2 dd dd2 sl sl2 rfl) ⟨ho,ho2,⟨.ref b,H,I,rfl,q1 rfl⟩⟩
  . exact znG pins s σ H _ _ v u Q I rx ry ⟨a,b,xs,ys,rfl,rfl,ha,hb,hx,hz,fun e => (hy e).elim,fun _ => q2 hx⟩
def zd5 : List (List Key × V) := [([.inr "row",.inr "put"],.int 3),([.inr "row",.inr "take"],.int 2),([.inr "row",.inr "look"],.int 2),([.inr "number",.inr "set"],.int 3),([.inr "number",.inr "add"],.int 3),([.inr "number",.inr "look"],.int 2)]
structure Tp (P : Program) (w : World) (K : Fg) (mg : Str -> Option Value) (st pt r b n : Addr) : Prop where
  mST : mg "STARTS" = some (.ref st)
  mPT : mg "PARTS" = some (.ref pt)
  tST : zon P w K st [(.inr "row",.ref r),(.inr "number",.int 0)]
  tPT : zoH P w K pt zd5
  em : ∀ H,SqT K H r []
  kN : zpb K mg "NoKind" n
  kB : zpb K mg "BadCall" b
  e1 : PySem.W.exmOne K (.ref b) (.ref b) = some true
  e2 : PySem.W.exmOne K (.ref n) (.ref b) = some false
  e3 : PySem.W.exmOne K (.ref n) (.ref n) = some true
def Sh (x : Str) : Prop := x.length <= 100 /\ (reprText x).length <= 1000
def zni (xs : List V) : Prop := xs.length <= 3 /\ (∀ y,xs[0]? = some y -> ∃ t,y = .str t) /\ ∀ y,xs[1]? = some y -> ∃ i,y = .int i
def pOf (k wd : Str) : Option V := zeV zd5 [.inr k,.inr wd]
theorem zlZ {k wd : Str} {v : V} (h : pOf k wd = some v) : v = .int 2 \/ v = .int 3 := by
  unfold pOf at h; have : ∀ p ∈ zd5,p.2 = .int 2 \/ p.2 = .int 3 := by decide
  unfold zeV at h; obtain ⟨p,hp,rfl⟩ := Option.map_eq_some_iff.mp h; exact this p (List.mem_of_find?_eq_some hp)
theorem zi1 {K : Fg} : PySem.W.kitOne K (.type "str") (.type "str") = some true := by rfl
inductive zdC (vs : List V) (H : Hp) (Q : VK) (E_ : XK) : Prop
  | mk (i : _) : (vs = [.int i]) -> (Q (.bl true) H) -> zdC vs H Q E_
inductive zmv (n : Addr) (vs : List V) (H : Hp) (Q : VK) (E : XK) : Prop
  | mk (k : Str) : (vs = [.str k]) -> (Sh k) -> (if k = "row" \/ k = "number" then Q .non H else E (.ref n) none H) -> zmv n vs H Q E
def zeg (r : Addr) : Sp := fun vs H Q _ => (vs = [.str "row"] /\ Q (.ref r) H) \/ (vs = [.str "number"] /\ Q (.int 0) H)
inductive zpa (K : Fg) (vs : List V) (H : Hp) (Q : VK) (E_ : XK) : Prop
  | mk (a x xs p : _) : (vs = [.ref a,.int p]) -> (SqT K H a (x :: xs)) -> (zni xs) -> ((p = 2 \/ p = 3)) -> (Q (.bl (decide ((xs.length : Int) + 1 = p))) H) -> zpa K vs H Q E_
def zlf (k wd : Str) (n : Nat) : Bool := match pOf k wd with
  | some (.int p) => decide ((n : Int) + 1 = p)
  | _ => false
inductive zmO (K : Fg) (vs : List V) (H : Hp) (Q : VK) (E_ : XK) : Prop
  | mk (k wd a xs : _) : (vs = [.str k,.ref a]) -> (SqT K H a (.str wd :: xs)) -> (zni xs) -> (∀ H',Same H H' -> Q (.bl (zlf k wd xs.length)) H') -> zmO K vs H Q E_
inductive zno (K : Fg) (b n : Addr) (vs : List V) (H : Hp) (Q : VK) (E : XK) : Prop
  | mk (k wd a xs : _) : (vs = [.str k,.ref a]) -> (SqT K H a (.str wd :: xs)) -> (zni xs) -> (Sh k) -> (Sh wd) -> (∀ H',Same H H' -> if k = "row" \/ k = "number" then (if zlf k wd xs.length then Q .non H' else E (.ref b) none H') else E (.ref n) none H') -> zno K b n vs H Q E
section
variable {P : Program} {w : World} {K : Fg} {mg : Str -> Option Value} {base : Heap} {f : Addr} {fd : FuncData} {st pt r b n : Addr}
theorem zd0 (F : Fun K "is_whole_number" "is_whole_number" zbF f fd) (B : Bl mg) : FnOk P w K mg base CX0 1 f fd ["value"] zdC := by
  refine F.ok zdQ (fun vs H Q E h => ?_) (fun cdv A outer s H vs Q E hr h => ?_)
  . obtain ⟨i,rfl,_⟩ := h; rfl
  . obtain ⟨i,rfl,k⟩ := h; refine ⟨_,(zaf (zao (zfM (zas (zcK K) rfl B.isinstance_ PyProof.Rows.boot_isinstance (zaa (pv 0) (zaa (zbj (v := .ty "int") rfl B.int_ PyProof.Rows.boot_int rfl) zad))) (zd3 (zmb (zas (zcK K) rfl B.isinstance_ PyProof.Rows.boot_isinstance (zaa (pv 0) (zaa (zbj (v := .ty "bool") rfl B.bool_ PyProof.Rows.boot_bool rfl) zad)))))))),?_⟩; refine ⟨_,rfl,_,_,.type "int",true,rfl,TyOf.int i,zmA,true,rfl,?_⟩; exact ⟨_,rfl,_,_,.type "int",false,rfl,TyOf.int i,zl8,false,rfl,k⟩
theorem zgs (F : Fun K "check_kind" "check_kind" zcT f fd) (B : Bl mg) (T : Tp P w K mg st pt r b n) : FnOk P w K mg base (CX1 P w) 1 f fd ["kind"] (zmv n) := by
  refine F.okX zgq (fun vs H Q E h => ?_) (fun cdv A outer s H vs Q E hr h => ?_)
  . obtain ⟨k,rfl,_⟩ := h; rfl
  . obtain ⟨kd,rfl,⟨_,hl⟩,hq⟩ := h; have hu := zlJ hr; have k_NoKind := T.kN
    refine ⟨_,(zaf (zaD (zoW (zkG hu (pv 0) (zft (v := .ref st) rfl T.mST rfl)))
    (zaf (ziq k_NoKind zkj rfl rfl (zaa (zhd (.cons zaA (.cons (ziC (pv 0)) .nil))) zad) rfl)) zaq)),?_⟩
    refine ⟨_,rfl,st,_,rfl,.inl ⟨_,.inr kd,T.tST,rfl,rfl⟩,_,rfl,?_⟩
    by_cases h1 : kd = "row"
    . subst h1; rw [if_pos (Or.inl rfl)] at hq; exact hq
    . by_cases h2 : kd = "number"
      . subst h2; rw [if_pos (Or.inr rfl)] at hq; exact hq
      . rw [if_neg (fun h => h.elim h1 h2)] at hq; rw [zel (fun h => h1 (Sum.inr.inj h).symm),zel (fun h => h2 (Sum.inr.inj h).symm),zlR]; have z0 : (Str.empty ++ Str.ofString "there is no kind ").length = 17 := by rfl
        have z1 : (Str.empty ++ Str.ofString "there is no kind " ++ reprText kd).length <= 1017 := by rw [strLen_append,z0]; omega
        exact zaR ⟨_,rfl,by rw [z0]; decide,_,rfl,kd,rfl,Nat.le_trans hl (by decide),_,rfl,Nat.le_trans z1 (by decide),Nat.le_trans z1 (by decide),nlb rfl,hq⟩
theorem zmf (F : Fun K "start" "start" zhD f fd) (B : Bl mg) (T : Tp P w K mg st pt r b n) (g_check_kind : FnX P w K mg base "check_kind" 1 (zmv n)) : FnOk P w K mg base CX0 2 f fd ["kind"] (zeg r) := by
  refine F.ok zmc (fun vs H Q E h => ?_) (fun cdv A outer s H vs Q E hr h => ?_)
  . rcases h with ⟨rfl,_⟩ | ⟨rfl,_⟩ <;> rfl
  . have hu := zlJ hr
    refine ⟨_,(zac (zaS (zay g_check_kind zaF hr rfl (zaa (pv 0) zad)))
    (zaf (zao (zj4 hu (zft (v := .ref st) rfl T.mST rfl) (pv 0) (fun _ _ => rfl))))),?_⟩
    rcases h with ⟨rfl,k⟩ | ⟨rfl,k⟩
    . exact ⟨_,rfl,_,rfl,⟨by decide,by decide +kernel⟩,_,rfl,st,_,rfl,.inl ⟨_,.inr "row",T.tST,rfl,rfl⟩,k⟩
    . exact ⟨_,rfl,_,rfl,⟨by decide,by decide +kernel⟩,_,rfl,st,_,rfl,.inl ⟨_,.inr "number",T.tST,rfl,rfl⟩,k⟩
theorem zhr (F : Fun K "has_parts" "has_parts" zdg f fd) (B : Bl mg) (g_is_whole_number : FnX P w K mg base "is_whole_number" 1 zdC) : FnOk P w K mg base CX0 2 f fd ["deed","parts"] (zpa K) := by
  refine F.ok zhO (fun vs H Q E h => ?_) (fun cdv A outer s H vs Q E hr h => ?_)
  . obtain ⟨a,x,xs,p,rfl,_⟩ := h; rfl
  . obtain ⟨a,x,xs,p,rfl,hS,⟨hl,h0,h1⟩,hp,k⟩ := h
    refine ⟨_,(zac (zaD (PW.pt (zcN (zan zdx (zas (zau K) rfl B.len_ PySem.boot_len (zaa (pv 0) zad)) (pv 1) (zat _)) (zcw (zbd (za6 (zas (zcK K) rfl B.isinstance_ PyProof.Rows.boot_isinstance (zaa (zak (zai K) (pv 0) zae (fun _ _ => rfl)) (zaa (zbj (v := .ty "str") rfl B.str_ PyProof.Rows.boot_str rfl) zad))))))))
    (zaf (zao zaY)) zaq)
    (zaf (zao (znV (zbg zaV (pv 1) zae (zat _)) (zd3 (zay g_is_whole_number zaF hr rfl (zaa (zak (zai K) (pv 0) zae (fun _ _ => rfl)) zad))))))),?_⟩
    refine ⟨_,rfl,a,x :: xs,rfl,.inr hS,_,rfl,rfl,_,rfl,?_⟩
    have e : (decide (V.int ((x :: xs).length : Int) = V.int p)) = decide ((xs.length : Int) + 1 = p) := by
      rw [zey,List.length_cons]
      by_cases q : (xs.length : Int) + 1 = p
      . rw [decide_eq_true q]; simp; omega
      . rw [decide_eq_false q]; simp; omega
    rw [e]
    by_cases q : (xs.length : Int) + 1 = p
    . rw [decide_eq_true q] at k ⊢; refine zaE ?_
      match xs,hl,h0,h1,q,hS with
      | [],_,_,_,q,_ => simp at q; omega
      | y :: ys,hl,h0,h1,q,hS =>
        obtain ⟨t,rfl⟩ := h0 y rfl; refine ⟨_,rfl,a,_,1,_,rfl,rfl,hS,at1,_,_,.type "str",true,rfl,TyOf.str t,zi1,true,rfl,?_⟩; refine zaE ?_
        rcases hp with rfl | rfl
        . exact ⟨_,rfl,rfl,true,rfl,zaR k⟩
        . match ys,h1,q,hS with
          | [],_,q,_ => simp at q
          | y :: zs,h1,q,hS =>
            obtain ⟨i,rfl⟩ := h1 y rfl; exact ⟨_,rfl,rfl,false,rfl,zaE ⟨_,rfl,a,_,2,_,rfl,rfl,hS,at2,i,rfl,k⟩⟩
    . rw [decide_eq_false q] at k ⊢; exact zaR (zaR k)
theorem zkV (F : Fun K "can_do" "can_do" zfL f fd) (B : Bl mg) (T : Tp P w K mg st pt r b n) (g_has_parts : FnX P w K mg base "has_parts" 2 (zpa K)) :
    FnOk P w K mg base CX0 3 f fd ["kind","deed"] (zmO K) := by
  refine F.ok sc_can_do (fun vs H Q E h => ?_) (fun cdv A outer s H vs Q E hr h => ?_)
  . obtain ⟨k,wd,a,xs,rfl,_⟩ := h; rfl
  . obtain ⟨kd,wd,a,xs,rfl,hS,hT,hq⟩ := h; have hu := zlJ hr
    refine ⟨_,(zac (zar (i := 2) sc_can_do.nd rfl (by first | exact .inl rfl | exact .inr rfl) (zaJ (zaa (pv 0) (zaa (zak (zai K) (pv 1) zae (fun _ _ => rfl)) zad))))
    (zaf (zao (zfM (zod (zoS hu (pv 2) (zft (v := .ref pt) rfl T.mPT rfl))) (zd3 (zay g_has_parts zaF hr rfl (zaa (pv 1) (zaa (zj4 hu (zft (v := .ref pt) rfl T.mPT rfl) (pv 2) (fun _ _ => rfl)) zad)))))))),?_⟩
    refine ⟨_,rfl,_,rfl,a,_,0,_,rfl,rfl,hS,at0,nlb rfl,fun p hp => ?_⟩; have s1 : Same H (upd H p (.tup [.str kd,.str wd])) := Same.upd hp; have z := hq _ s1; refine ⟨_,rfl,pt,_,rfl,.inr ⟨zd5,[.inr kd,.inr wd],p,T.tPT,rfl,zab,rfl⟩,_,rfl,?_⟩; unfold zlf at z; show if (pOf kd wd).isSome = true then _ else _
    cases e : pOf kd wd with
    | none =>
      rw [e] at z; exact zaE z
    | some v =>
      rw [e] at z; obtain ⟨q,rfl,hq2⟩ : ∃ q : Int,v = .int q /\ (q = 2 \/ q = 3) := by rcases zlZ e with rfl | rfl; exact ⟨2,rfl,.inl rfl⟩; exact ⟨3,rfl,.inr rfl⟩
      exact zaR ⟨_,rfl,_,rfl,pt,.int q,rfl,.inr ⟨zd5,[.inr kd,.inr wd],p,T.tPT,rfl,zab,e.symm⟩,a,.str wd,xs,q,rfl,Same.tup s1 hS,hT,hq2,z⟩
theorem zgw (F : Fun K "check_deed" "check_deed" zcR f fd) (B : Bl mg) (T : Tp P w K mg st pt r b n) (g_can_do : FnX P w K mg base "can_do" 3 (zmO K)) (g_check_kind : FnX P w K mg base "check_kind" 1 (zmv n)) :
    FnOk P w K mg base (CX1 P w) 4 f fd ["kind","deed"] (zno K b n) := by
  refine F.okX sc_check_deed (fun vs H Q E h => ?_) (fun cdv A outer s H vs Q E hr h => ?_)
  . obtain ⟨k,wd,a,xs,rfl,_⟩ := h; rfl
  . obtain ⟨kd,wd,a,xs,rfl,hS,hT,hk,hw,hq⟩ := h; have k_BadCall := T.kB
    refine ⟨_,(zac (zaS (zay g_check_kind (znO zjw) hr rfl (zaa (pv 0) zad)))
    (zaf (zaD (zbd (za6 (zay g_can_do (znO zjw) hr rfl (zaa (pv 0) (zaa (pv 1) zad)))))
    (zac (zar (i := 2) sc_check_deed.nd rfl (by first | exact .inl rfl | exact .inr rfl) (zak (zai K) (pv 1) zae (fun _ _ => rfl)))
    (zaf (ziq k_BadCall zkj rfl rfl (zaa (zhd (.cons zaA (.cons (zks (pv 0)) (.cons zaA (.cons (ziC (pv 2)) (.cons zaA .nil)))))) zad) rfl))) zaq))),?_⟩
    refine ⟨_,rfl,kd,rfl,hk,?_⟩
    by_cases h1 : kd = "row" \/ kd = "number"
    . rw [if_pos h1]; refine ⟨_,rfl,_,rfl,kd,wd,a,xs,rfl,hS,hT,fun H' s1 => ⟨_,rfl,?_⟩⟩; have z := hq _ s1; rw [if_pos h1] at z
      cases e : zlf kd wd xs.length with
      | true =>
        rw [e] at z; exact zaE z
      | false =>
        rw [e] at z; have z1 : (Str.empty ++ Str.ofString "a ").length = 2 := rfl; have z2 : (Str.empty ++ Str.ofString "a " ++ kd).length <= 102 := by rw [strLen_append,z1]; have := hk.1; omega
        have z3 : (Str.empty ++ Str.ofString "a " ++ kd ++ Str.ofString " has no deed ").length <= 115 := by rw [strLen_append,show (Str.ofString " has no deed ").length = 13 from rfl]; omega
        have z4 : (Str.empty ++ Str.ofString "a " ++ kd ++ Str.ofString " has no deed " ++ reprText wd).length <= 1115 := by rw [strLen_append]; have := hw.2; omega
        have z5 : (Str.empty ++ Str.ofString "a " ++ kd ++ Str.ofString " has no deed " ++ reprText wd ++ Str.ofString " with these parts").length <= 1132 := by rw [strLen_append,show (Str.ofString " with these parts").length = 17 from rfl]; omega
        refine zaR ⟨_,rfl,a,_,0,_,rfl,rfl,Same.tup s1 hS,at0,?_⟩; exact ⟨_,rfl,by rw [z1]; decide,_,rfl,kd,rfl,Nat.le_trans hk.1 (by decide),_,rfl,Nat.le_trans z2 (by decide),_,rfl,Nat.le_trans z3 (by decide),_,rfl,wd,rfl,Nat.le_trans hw.2 (by decide),_,rfl,Nat.le_trans z4 (by decide),_,rfl,Nat.le_trans z5 (by decide),Nat.le_trans z5 (by decide),nlb rfl,z⟩
    . have z := hq H (Same.refl H); rw [if_neg h1] at z ⊢; exact z
def zc5 (K : Fg) (H : Hp) (a : Addr) (wd : Str) (v : Option Int) : Prop := SqT K H a (.str wd :: .str "a" :: (v.map V.int).toList)
def zfc (n : Int) (wd : Str) (v : Option Int) : Int × Option Int :=
  if wd = "set" then (v.getD 0,none) else if wd = "add" then (n + v.getD 0,some (n + v.getD 0)) else (n,some n)
def aV : Option Int -> V
  | some i => .int i
  | none => .non
inductive zmq (K : Fg) (vs : List V) (H : Hp) (Q : VK) (E_ : XK) : Prop
  | mk (x a wd v : _) : (vs = [.int x,.ref a]) -> (zc5 K H a wd v) -> (((wd = "set" \/ wd = "add") -> v.isSome = true)) -> (∀ p,H p = none -> Q (.ref p) (upd H p (.tup [.int (zfc x wd v).1,aV (zfc x wd v).2]))) -> zmq K vs H Q E_
theorem zh0 (F : Fun K "do_number" "do_number" zdl f fd) (B : Bl mg) : FnOk P w K mg base CX0 1 f fd ["number","deed"] (zmq K) := by
  refine F.ok zhB (fun vs H Q E h => ?_) (fun cdv A outer s H vs Q E hr h => ?_)
  . obtain ⟨x,a,wd,v,rfl,_⟩ := h; rfl
  . obtain ⟨x,a,wd,v,rfl,hS,hv,k⟩ := h
    refine ⟨_,(zac (zaD (zan zaV (zak (zai K) (pv 1) zae (fun _ _ => rfl)) zaA (zat _))
    (zaf (zao (zaJ (zaa (zak (zai K) (pv 1) zae (fun _ _ => rfl)) (zaa zbI zad))))) zaq)
    (zac (zaD (zan zaV (zak (zai K) (pv 1) zae (fun _ _ => rfl)) zaA (zat _))
    (zaf (zao (zaJ (zaa (zav zbD (pv 0) (zak (zai K) (pv 1) zae (fun _ _ => rfl))) (zaa (zav zbD (pv 0) (zak (zai K) (pv 1) zae (fun _ _ => rfl))) zad))))) zaq)
    (zaf (zao (zaJ (zaa (pv 0) (zaa (pv 0) zad))))))),?_⟩
    refine ⟨_,rfl,a,_,0,_,rfl,rfl,hS,at0,rfl,_,rfl,?_⟩
    by_cases h1 : wd = "set"
    . subst h1; obtain ⟨i,rfl⟩ := Option.isSome_iff_exists.mp (hv (.inl rfl)); exact zaR ⟨_,rfl,a,_,2,_,rfl,rfl,hS,at2,nlb rfl,fun p hp => k p hp⟩
    . rw [show decide (V.str wd = V.str (Str.ofString "set")) = false from decide_eq_false fun q => h1 (V.str.inj q)]; refine zaE ?_; refine ⟨_,rfl,a,_,0,_,rfl,rfl,hS,at0,rfl,_,rfl,?_⟩
      by_cases h2 : wd = "add"
      . subst h2; obtain ⟨i,rfl⟩ := Option.isSome_iff_exists.mp (hv (.inr rfl)); exact zaR ⟨_,rfl,_,rfl,a,_,2,_,rfl,rfl,hS,at2,_,_,rfl,rfl,_,rfl,_,rfl,a,_,2,_,rfl,rfl,hS,at2,_,_,rfl,rfl,nlb rfl,fun p hp => k p hp⟩
      . rw [show decide (V.str wd = V.str (Str.ofString "add")) = false from decide_eq_false fun q => h2 (V.str.inj q)]; refine zaE ⟨_,rfl,_,rfl,nlb rfl,fun p hp => ?_⟩; have := k p hp; unfold zfc at this; rw [if_neg h1,if_neg h2] at this; exact this
def za7 (xs : List Int) (wd : Str) (v : Option Int) : List Int × Option Int :=
  if wd = "put" then (xs ++ [v.getD 0],none) else if wd = "take" then (xs.drop 1,xs.head?) else (xs,xs.head?)
def RowT (K : Fg) (H : Hp) (v : V) (xs : List Int) : Prop := ∃ a,v = .ref a /\ SqT K H a (xs.map V.int)
inductive zlp (K : Fg) (vs : List V) (H : Hp) (Q : VK) (E_ : XK) : Prop
  | mk (x xs a wd v : _) : (vs = [x,.ref a]) -> (RowT K H x xs) -> (xs.length <= 1000) -> (zc5 K H a wd v) -> ((wd = "put" -> v.isSome = true)) -> (∀ H' p y,Same H H' -> H' p = some (.tup [y,aV (za7 xs wd v).2]) -> RowT K H' y (za7 xs wd v).1 -> Q (.ref p) H') -> zlp K vs H Q E_
theorem RowT.keep {K : Fg} {H H' : Hp} {v : V} {xs : List Int} (s : Same H H') (h : RowT K H v xs) : RowT K H' v xs := by
  obtain ⟨a,rfl,h⟩ := h; exact ⟨a,rfl,Same.tup s h⟩
theorem zkH (F : Fun K "do_row" "do_row" zfI f fd) (B : Bl mg) : FnOk P w K mg base CX0 1 f fd ["row","deed"] (zlp K) := by
  refine F.ok sc_do_row (fun vs H Q E h => ?_) (fun cdv A outer s H vs Q E hr h => ?_)
  . obtain ⟨x,xs,a,wd,v,rfl,_⟩ := h; rfl
  . obtain ⟨x,xs,a,wd,v,rfl,⟨ra,rfl,hR⟩,hl,hS,hv,k⟩ := h; have hsz : sizeLine = 16777216 := sizeLine_eq
    refine ⟨_,(zac (zaD (zan zaV (zak (zai K) (pv 1) zae (fun _ _ => rfl)) zaA (zat _))
    (zaf (zao (zaJ (zaa (zav ziH (pv 0) (zaJ (zaa (zak (zai K) (pv 1) zae (fun _ _ => rfl)) zad))) (zaa zbI zad))))) zaq)
    (zac (zar (i := 2) sc_do_row.nd rfl (by first | exact .inl rfl | exact .inr rfl) (zmI (zdG K (pv 0) (fun _ => rfl)) (zak (zai K) (pv 0) zae (fun _ _ => rfl)) zbI))
    (zac (zaD (zan zaV (zak (zai K) (pv 1) zae (fun _ _ => rfl)) zaA (zat _))
    (zaf (zao (zaJ (zaa (zex zj6 (pv 0) (zen zae) zhW) (zaa (pv 2) zad))))) zaq)
    (zaf (zao (zaJ (zaa (pv 0) (zaa (pv 2) zad)))))))),?_⟩
    refine ⟨_,rfl,a,_,0,_,rfl,rfl,hS,at0,rfl,_,rfl,?_⟩
    by_cases h1 : wd = "put"
    . subst h1; obtain ⟨i,rfl⟩ := Option.isSome_iff_exists.mp (hv rfl); refine zaR ⟨_,rfl,_,rfl,a,_,2,_,rfl,rfl,hS,at2,nlb rfl,fun p hp => ?_⟩; have s1 : Same H (upd H p (.tup [.int i])) := Same.upd hp; refine ⟨ra,p,xs.map V.int,[.int i],rfl,rfl,Same.tup s1 hR,SqT.of zab,by simp,by simp; omega,fun e => ?_,fun e p2 hp2 => ?_⟩
      . refine ⟨nlb rfl,fun p3 hp3 => k _ p3 (.ref p) (s1.trans (Same.upd hp3)) zab ?_⟩; have e' : xs = [] := by cases xs with | nil => rfl | cons => cases e
        subst e'; exact ⟨p,rfl,Same.tup (Same.upd hp3) (SqT.of zab)⟩
      . refine ⟨nlb rfl,fun p3 hp3 => k _ p3 (.ref p2) ((s1.trans (Same.upd hp2)).trans (Same.upd hp3)) zab ?_⟩; refine ⟨p2,rfl,Same.tup (Same.upd hp3) ?_⟩; have : (za7 xs "put" (some i)).1.map V.int = xs.map V.int ++ [.int i] := by simp [za7]
        rw [this]; exact SqT.of zab
    . rw [show decide (V.str wd = V.str (Str.ofString "put")) = false from decide_eq_false fun q => h1 (V.str.inj q)]; refine zaE ?_; refine ⟨_,rfl,_,.inr (.inl ⟨_,hR,rfl⟩),?_⟩; have nt : ∀ z : Str,wd ≠ z -> decide (V.str wd = V.str z) = false := fun z h => decide_eq_false fun q => h (V.str.inj q)
      match xs,hR,hl,k with
      | [],hR,hl,k =>
        refine zaE ?_; refine ⟨_,rfl,a,_,0,_,rfl,rfl,hS,at0,rfl,_,rfl,?_⟩
        by_cases h2 : wd = "take"
        . subst h2; refine zaR ⟨_,rfl,1,rfl,ra,_,rfl,hR,.inl ⟨rfl,rfl,_,rfl,nlb rfl,fun p hp => ?_⟩⟩; exact k _ p (.ref ra) (Same.upd hp) zab ⟨ra,rfl,Same.tup (Same.upd hp) hR⟩
        . rw [nt _ h2]; refine zaE ⟨_,rfl,_,rfl,nlb rfl,fun p hp => ?_⟩; have e : za7 [] wd v = ([],none) := by unfold za7; rw [if_neg h1,if_neg h2]; rfl
          rw [e] at k; exact k _ p (.ref ra) (Same.upd hp) zab ⟨ra,rfl,Same.tup (Same.upd hp) hR⟩
      | x0 :: xr,hR,hl,k =>
        refine zaR ⟨_,rfl,ra,_,0,_,rfl,rfl,hR,at0,?_⟩; refine ⟨_,rfl,a,_,0,_,rfl,rfl,hS,at0,rfl,_,rfl,?_⟩
        by_cases h2 : wd = "take"
        . subst h2; refine zaR ⟨_,rfl,1,rfl,ra,_,rfl,hR,.inr ⟨fun q => ?_,fun p2 hp2 => ⟨_,rfl,nlb rfl,fun p hp => ?_⟩⟩⟩
          . have := q.1; simp [HT.sIx] at this
          . have e : zc9 ((x0 :: xr).map V.int) (some 1) none = xr.map V.int := by
              unfold zc9
              have e1 : HT.sIx ((x0 :: xr).map V.int).length 0 (some 1) = 1 := by
                show HT.sIx _ 0 (some ((1 : Nat) : Int)) = 1; rw [HT.sIx_nat,List.length_map,List.length_cons]; omega
              rw [e1,HT.sIx_none]; simp; exact List.take_of_length_le (by simp)
            rw [e] at hp ⊢; exact k _ p (.ref p2) ((Same.upd hp2).trans (Same.upd hp)) zab ⟨p2,rfl,Same.tup (Same.upd hp) (SqT.of zab)⟩
        . rw [nt _ h2]; refine zaE ⟨_,rfl,_,rfl,nlb rfl,fun p hp => ?_⟩; have e : za7 (x0 :: xr) wd v = (x0 :: xr,some x0) := by unfold za7; rw [if_neg h1,if_neg h2]; rfl
          rw [e] at k; exact k _ p (.ref ra) (Same.upd hp) zab ⟨ra,rfl,Same.tup (Same.upd hp) hR⟩
inductive Thing (K : Fg) (H : Hp) : Str -> V -> (List Int ⊕ Int) -> Prop
  | row {v : V} {xs : List Int} : RowT K H v xs -> Thing K H "row" v (.inl xs)
  | num {n : Int} : Thing K H "number" (.int n) (.inr n)
theorem Thing.keep {K : Fg} {H H' : Hp} {k : Str} {v : V} {t : List Int ⊕ Int} (s : Same H H') (h : Thing K H k v t) : Thing K H' k v t := by
  cases h with
  | row h => exact .row (h.keep s)
  | num => exact .num
def doT : (List Int ⊕ Int) -> Str -> Option Int -> (List Int ⊕ Int) × Option Int
  | .inl xs,wd,v => (.inl (za7 xs wd v).1,(za7 xs wd v).2)
  | .inr n,wd,v => (.inr (zfc n wd v).1,(zfc n wd v).2)
def zbo : (List Int ⊕ Int) -> Nat
  | .inl xs => xs.length
  | .inr _ => 0
def Has (wd : Str) (v : Option Int) : Prop := (wd = "put" \/ wd = "set" \/ wd = "add") -> v.isSome = true
inductive zlF (K : Fg) (vs : List V) (H : Hp) (Q : VK) (E_ : XK) : Prop
  | mk (k x t a wd v : _) : (vs = [.str k,x,.ref a]) -> (Thing K H k x t) -> (zbo t <= 1000) -> (zc5 K H a wd v) -> (Has wd v) -> (∀ H' p y,Same H H' -> H' p = some (.tup [y,aV (doT t wd v).2]) -> Thing K H' k y (doT t wd v).1 -> Q (.ref p) H') -> zlF K vs H Q E_
theorem zjr (F : Fun K "do_deed" "do_deed" zeE f fd) (B : Bl mg) (g_do_number : FnX P w K mg base "do_number" 1 (zmq K)) (g_do_row : FnX P w K mg base "do_row" 1 (zlp K)) : FnOk P w K mg base CX0 2 f fd ["kind","thing","deed"] (zlF K) := by
  refine F.ok zjt (fun vs H Q E h => ?_) (fun cdv A outer s H vs Q E hr h => ?_)
  . obtain ⟨k,x,t,a,wd,v,rfl,_⟩ := h; rfl
  . obtain ⟨kd,x,t,a,wd,v,rfl,hT,hz,hS,hv,k⟩ := h
    refine ⟨_,(zac (zaD (zan zaV (pv 0) zaA (zat _))
    (zaf (zao (zay g_do_row zaF hr rfl (zaa (pv 1) (zaa (pv 2) zad))))) zaq)
    (zaf (zao (zay g_do_number zaF hr rfl (zaa (pv 1) (zaa (pv 2) zad)))))),?_⟩
    cases hT with
    | @row x xs hR =>
      refine ⟨_,rfl,rfl,_,rfl,zaR ⟨_,rfl,_,rfl,x,xs,a,wd,v,rfl,hR,hz,hS,fun e => hv (.inl e),fun H' p y s1 hp hy => ?_⟩⟩; exact k H' p y s1 hp (.row hy)
    | @num n =>
      refine ⟨_,rfl,rfl,_,rfl,zaE ⟨_,rfl,_,rfl,n,a,wd,v,rfl,hS,fun e => hv (.inr e),fun p hp => ?_⟩⟩; exact k _ p _ (Same.upd hp) zab .num
abbrev zce := Str × Option Int
def stT (t : List Int ⊕ Int) (ds : List zce) : List Int ⊕ Int := ds.foldl (fun t d => (doT t d.1 d.2).1) t
def zdb : (List Int ⊕ Int) -> List zce -> List (Option Int)
  | _,[] => []
  | t,d :: r => (doT t d.1 d.2).2 :: zdb (doT t d.1 d.2).1 r
theorem zgf (t : List Int ⊕ Int) (ds : List zce) (d : zce) : stT t (ds ++ [d]) = (doT (stT t ds) d.1 d.2).1 := by unfold stT; rw [List.foldl_append]; rfl
theorem zeC : ∀ (ds : List zce) (t : List Int ⊕ Int) (d : zce),zdb t (ds ++ [d]) = zdb t ds ++ [(doT (stT t ds) d.1 d.2).2]
  | [],_,_ => rfl
  | e :: r,t,d => by
    show _ :: zdb _ (r ++ [d]) = _; rw [zeC r]
    rfl
theorem zhY (t : List Int ⊕ Int) (d : zce) : zbo (doT t d.1 d.2).1 <= zbo t + 1 := by
  cases t with
  | inr n => exact Nat.zero_le _
  | inl xs =>
    show (za7 xs d.1 d.2).1.length <= xs.length + 1; unfold za7
    split
    . simp
    . split <;> simp <;> omega
theorem zhU : ∀ (ds : List zce) (t : List Int ⊕ Int),zbo (stT t ds) <= zbo t + ds.length
  | [],_ => Nat.le_refl _
  | d :: r,t => by
    have h1 := zhU r (doT t d.1 d.2).1; have h2 := zhY t d; show zbo (stT (doT t d.1 d.2).1 r) <= _; rw [List.length_cons]; omega
def zhS (k : Str) (d : zce) : Prop := pOf k d.1 = some (.int (if d.2.isSome then 3 else 2))
structure znX (K : Fg) (H : Hp) (k : Str) (vs : List V) (ds : List zce) : Prop where
  len : vs.length = ds.length
  at_ : ∀ (i : Nat) (v : V),vs[i]? = some v -> ∃ a d,v = .ref a /\ ds[i]? = some d /\ zc5 K H a d.1 d.2 /\ zhS k d /\ Sh d.1
def t0 (k : Str) : List Int ⊕ Int := if k = "row" then .inl [] else .inr 0
inductive ze5 (K : Fg) (vs : List V) (H : Hp) (Q : VK) (E_ : XK) : Prop
  | mk (k l xs ds : _) : (vs = [.str k,.ref l]) -> ((k = "row" \/ k = "number")) -> (SqL K H l xs) -> (znX K H k xs ds) -> (ds.length <= 200) -> (∀ H' g,Same H H' -> H' g = some (.lst ((zdb (t0 k) ds).map aV)) -> Q (.ref g) H') -> ze5 K vs H Q E_
theorem zb5 {k : Str} {d : zce} (hk : k = "row" \/ k = "number") (h : zhS k d) : Has d.1 d.2 := by
  intro hw
  cases e : d.2 with
  | some _ => rfl
  | none =>
    exfalso; unfold zhS at h; rw [e] at h
    rcases hk with rfl | rfl <;> rcases hw with hw | hw | hw <;> rw [hw] at h <;> revert h <;> decide
theorem ziM {k : Str} {d : zce} (h : zhS k d) : zlf k d.1 (V.str (Str.ofString "a") :: (d.2.map V.int).toList).length = true := by
  unfold zlf; rw [show pOf k d.1 = some (.int (if d.2.isSome then 3 else 2)) from h]
  cases d.2 <;> rfl
theorem zfN {Q : VK} {E : XK} {H : Hp} {kd : Str} (T : Tp P w K mg st pt r b n) (hk : kd = "row" \/ kd = "number") (h : ∀ x0,Thing K H kd x0 (t0 kd) -> Q x0 H) : zeg r [.str kd] H Q E := by
  rcases hk with rfl | rfl
  . exact .inl ⟨rfl,h _ (.row ⟨r,rfl,T.em H⟩)⟩
  . exact .inr ⟨rfl,h _ .num⟩
theorem zgK (v : Option Int) : zni (V.str "a" :: (v.map V.int).toList) := by
  cases v with
  | none => exact ⟨by decide,fun y e => ⟨_,(Option.some.inj e).symm⟩,fun y e => nomatch e⟩
  | some i => exact ⟨nlb rfl,fun y e => ⟨_,(Option.some.inj e).symm⟩,fun y e => ⟨_,(Option.some.inj e).symm⟩⟩
theorem zev : ∀ (ds : List zce) (t : List Int ⊕ Int),(zdb t ds).length = ds.length
  | [],_ => rfl
  | d :: r,t => by show (zdb _ r).length + 1 = _; rw [zev r]; rfl
theorem SqT.updL {K : Fg} {H : Hp} {a g : Addr} {xs zs : List V} {o : HO} (hg : H g = some (.lst zs)) (h : SqT K H a xs) : SqT K (upd H g o) a xs := by
  rcases h with (h | ⟨ob,h⟩) | h
  . exact .inl (.inl (by rw [zaj (za2 h hg (by intro q; cases q))]; exact h))
  . exact .inl (.inr ⟨ob,by rw [zaj (za2 h hg (by intro q; cases q))]; exact h⟩)
  . exact .inr h
theorem Thing.updL {K : Fg} {H : Hp} {g : Addr} {zs : List V} {o : HO} {k : Str} {v : V} {t : List Int ⊕ Int} (hg : H g = some (.lst zs)) (h : Thing K H k v t) : Thing K (upd H g o) k v t := by
  cases h with
  | row h => obtain ⟨a,rfl,h⟩ := h; exact .row ⟨a,rfl,SqT.updL hg h⟩
  | num => exact .num
theorem zbn {α : Type} {l : List α} {i : Nat} {x : α} (h : l[i]? = some x) : l.take (i + 1) = l.take i ++ [x] := by
  rw [List.take_add_one,h]; rfl
theorem zi5 (F : Fun K "answers" "answers" zeB f fd) (B : Bl mg) (T : Tp P w K mg st pt r b n) (g_check_deed : FnX P w K mg base "check_deed" 4 (zno K b n)) (g_do_deed : FnX P w K mg base "do_deed" 2 (zlF K)) (g_start : FnX P w K mg base "start" 2 (zeg r)) :
    FnOk P w K mg base CX0 5 f fd ["kind","deeds"] (ze5 K) := by
  refine F.ok sc_answers (fun vs H Q E h => ?_) (fun cdv A outer s H vs Q E hr h => ?_)
  . obtain ⟨k,l,xs,ds,rfl,_⟩ := h; rfl
  . obtain ⟨kd,l,xs,ds,rfl,hk,hS,hD,hl,k⟩ := h; have hsz : sizeLine = 16777216 := sizeLine_eq; have hkS : Sh kd := by rcases hk with rfl | rfl; exact ⟨by decide,by decide +kernel⟩; exact ⟨by decide,by decide +kernel⟩
    refine ⟨_,(zac (zar (i := 2) sc_answers.nd rfl (by first | exact .inl rfl | exact .inr rfl) (zay g_start zaF hr rfl (zaa (pv 0) zad)))
    (zac (zar (i := 3) sc_answers.nd rfl (by first | exact .inl rfl | exact .inr rfl) (zaM zad))
    (zac (zaZ PassesOwn.never rfl (zaK K (pv 1)) (zaC (i := 4) sc_answers.nd rfl (by first | exact .inl rfl | exact .inr rfl))
    (zac (zaS (zay g_check_deed zaF hr rfl (zaa (pv 0) (zaa (pv 4) zad))))
    (zac (zar (i := 5) sc_answers.nd rfl (by first | exact .inl rfl | exact .inr rfl) (zay g_do_deed zaF hr rfl (zaa (pv 0) (zaa (pv 2) (zaa (pv 4) zad)))))
    (zac (zar (i := 2) sc_answers.nd rfl (by first | exact .inl rfl | exact .inr rfl) (zak (zai K) (pv 5) zae (fun _ _ => rfl)))
    (zaf (zaS (zck K PySem.F.plainAttrs_list PySem.F.slot_list_append PySem.F.type_list_append zb4 (pv 3) (zaa (zak (zai K) (pv 5) zae (fun _ _ => rfl)) zad))))))))
    (zaf (zao (pv 3)))))),?_⟩
    refine ⟨_,rfl,?_⟩; dsimp only [zla,List.append_nil,List.cons_append,List.nil_append]; refine zfN T hk fun x0 hx0 => ?_; refine ⟨nlb rfl,fun g hg => ?_⟩; have sg : Same H (upd H g (.lst [])) := Same.upd hg
    refine ⟨_,rfl,l,rfl,⟨xs,sg.seq hS⟩,za9 (K := K) (a := l) (xs := xs) (fun i σ H2 => ∃ x v4 v5,σ = [some (.str kd),some (.ref l),some x,some (.ref g),v4,v5] /\ Thing K H2 kd x (stT (t0 kd) (ds.take i)) /\ Same H H2 /\ H2 g = some (.lst ((zdb (t0 kd) (ds.take i)).map aV)))
      ⟨x0,none,none,rfl,hx0.keep sg,sg,zab⟩ (fun i σ H2 _ ⟨_,_,_,_,_,s1,_⟩ => s1.seq hS) ?_ ?_⟩
    . rintro i y σ H2 hi ⟨x,v4,v5,rfl,hTh,s1,hg2⟩; obtain ⟨a,d,rfl,hd,hDe,hG,hSh⟩ := hD.at_ i y hi; have hDe2 := Same.tup s1 hDe; refine ⟨_,rfl,_,rfl,kd,d.1,a,_,rfl,hDe2,zgK d.2,hkS,hSh,fun H3 s3 => ?_⟩; rw [if_pos hk,if_pos (ziM hG)]
      have hsz2 : zbo (stT (t0 kd) (ds.take i)) <= 1000 := by
        have h1 := zhU (ds.take i) (t0 kd); have h2 : zbo (t0 kd) = 0 := by rcases hk with rfl | rfl <;> rfl
        have h3 : (ds.take i).length <= ds.length := by rw [List.length_take]; exact Nat.min_le_right _ _
        omega
      refine ⟨_,rfl,_,rfl,_,rfl,kd,x,_,a,d.1,d.2,rfl,hTh.keep s3,hsz2,Same.tup s3 hDe2,zb5 hk hG,fun H4 p y s4 hp hy => ?_⟩; have hg4 := s4 _ _ (s3 _ _ hg2); refine ⟨_,rfl,p,_,0,_,rfl,rfl,SqT.of hp,at0,?_⟩; refine ⟨_,rfl,.inl ⟨rfl,_,SqL.of hg4⟩,_,rfl,p,_,1,_,rfl,rfl,SqT.of hp,at1,g,_,_,rfl,rfl,hg4,?_,?_⟩
      . have h3 : (ds.take i).length <= ds.length := by rw [List.length_take]; exact Nat.min_le_right _ _
        rw [List.length_map,zev]; omega
      . refine ⟨y,_,_,rfl,?_,fun c o hc => ?_,?_⟩
        . rw [zbn hd,zgf]; exact hy.updL hg4
        . rw [zaj (zam hc hg)]; exact s4 _ _ (s3 _ _ (s1 _ _ hc))
        . rw [zbn hd,zeC,List.map_append,zab]
          rfl
    . rintro σ H2 ⟨x,v4,v5,rfl,hTh,s1,hg2⟩; rw [hD.len,List.take_length] at hg2; exact ⟨_,rfl,k H2 g s1 hg2⟩
def dD (d : zce) : PyData := .tuple (.str d.1 :: .str "a" :: (d.2.map PyData.int).toList)
def zgG : List Str := ["put","take","look","set","add"]
theorem zg2 {k : Str} {d : zce} (h : zhS k d) : d.1 ∈ zgG := by
  obtain ⟨wd,v⟩ := d; unfold zhS pOf zeV at h; obtain ⟨p,hp,_⟩ := Option.map_eq_some_iff.mp h; have e0 := List.find?_some hp; have e : p.1 = [.inr k,.inr wd] := of_decide_eq_true e0; have m := List.mem_of_find?_eq_some hp; simp only [zd5,List.mem_cons,List.not_mem_nil,or_false] at m
  rcases m with rfl | rfl | rfl | rfl | rfl | rfl <;> (injection e with e1 e2; injection e2 with e3 e4; show wd ∈ zgG; rw [<- Sum.inr.inj e3]; decide)
theorem znv {K : Fg} {H : Hp} {a : Addr} {d : zce} (h : zc5 K H a d.1 d.2) : Is K H (dD d) (.ref a) := by
  obtain ⟨wd,v⟩ := d; unfold dD
  cases v with
  | none =>
    simp only [Is,IsAll,Option.map_none,Option.toList_none]; exact ⟨a,_,rfl,h,_,_,rfl,rfl,_,_,rfl,rfl,rfl⟩
  | some i =>
    simp only [Is,IsAll,Option.map_some,Option.toList_some]; exact ⟨a,_,rfl,h,_,_,rfl,rfl,_,_,rfl,rfl,_,_,rfl,rfl,rfl⟩
theorem zl3 {d : zce} (h : d.1 ∈ zgG) : PyData.canLay0 (dD d) = true := by
  obtain ⟨wd,v⟩ := d
  replace h : wd ∈ zgG := h
  simp only [zgG,List.mem_cons,List.not_mem_nil,or_false] at h; unfold dD
  cases v with
  | none =>
    simp only [PyData.canLay0,PyData.canLayAll0,Bool.and_true,Bool.true_and,Option.map_none,Option.toList_none]
    rcases h with rfl | rfl | rfl | rfl | rfl <;> decide +kernel
  | some i =>
    simp only [PyData.canLay0,PyData.canLayAll0,Bool.and_true,Bool.true_and,Option.map_some,Option.toList_some]
    rcases h with rfl | rfl | rfl | rfl | rfl <;> decide +kernel
theorem ziZ (d : zce) : PyData.depth (dD d) = 1 := by
  obtain ⟨wd,v⟩ := d
  cases v <;> simp [dD,PyData.depth,PyData.depthAll]
theorem zkk : ∀ (ds : List zce) (t : List Int ⊕ Int) (i : Nat) (d : zce),ds[i]? = some d -> (zdb t ds)[i]? = some (doT (stT t (ds.take i)) d.1 d.2).2
  | [],_,_,_,h => by simp at h
  | e :: r,t,0,d,h => by cases h; rfl
  | e :: r,t,i + 1,d,h => by
    show (zdb (doT t e.1 e.2).1 r)[i]? = _; exact zkk r _ i d (by simpa using h)
theorem zg0 {ns : List Int} {j : Int} (h0 : 0 <= j) (h1 : j < ns.length) : ∃ z,atI (ns.map V.int) j = some (.int z) := by
  obtain ⟨v,hv,hv'⟩ := zhq (xs := ns.map V.int) h0 (by rw [List.length_map]; exact h1)
  rw [List.getElem?_map] at hv'; obtain ⟨z,_,rfl⟩ := Option.map_eq_some_iff.mp hv'; exact ⟨z,hv⟩
inductive zh4 (K : Fg) (vs : List V) (H : Hp) (Q : VK) (E_ : XK) : Prop
  | mk (a : Addr) (ns : List Int) (k : Int) : (vs = [.ref a,.int k]) -> (SqL K H a (ns.map V.int)) -> (0 <= k) -> (Q (.int (ns.getD k.toNat 0)) H) -> zh4 K vs H Q E_
theorem zjj (F : Fun K "_law_at" "_law_at" zeO f fd) (B : Bl mg) : FnOk P w K mg base CX0 1 f fd ["_law_script","_law_k"] (zh4 K) := by
  refine F.ok zi8 (fun vs H Q E h => ?_) (fun cdv A outer s H vs Q E hr h => ?_)
  . obtain ⟨a,ns,i,rfl,_⟩ := h; rfl
  . obtain ⟨a,ns,i,rfl,ha,h0,k⟩ := h
    refine ⟨_,(zac (zaD (zan zj7 (pv 1) (zas (zau K) rfl B.len_ PySem.boot_len (zaa (pv 0) zad)) (zat _))
    (zaf (zao (zak (zap K) (pv 0) (pv 1) (fun _ _ => rfl)))) zaq)
    (zaf (zao zae))),?_⟩
    refine ⟨_,rfl,_,rfl,a,_,rfl,.inl ha,_,_,rfl,rfl,_,rfl,?_⟩; refine znE (fun h => ?_) (fun h => ?_)
    . rw [List.length_map] at h; obtain ⟨v,hv,hv'⟩ := zhq (xs := ns.map V.int) h0 (by rw [List.length_map]; exact h)
      rw [List.getElem?_map] at hv'; obtain ⟨z,hz,rfl⟩ := Option.map_eq_some_iff.mp hv'; have e : ns.getD i.toNat 0 = z := by rw [List.getD_eq_getElem?_getD,hz]; rfl
      rw [e] at k; exact ⟨_,rfl,_,rfl,a,_,i,_,rfl,rfl,ha,hv,k⟩
    . rw [List.length_map] at h; have e : ns.getD i.toNat 0 = 0 := by rw [List.getD_eq_getElem?_getD,List.getElem?_eq_none (by omega)]; rfl
      rw [e] at k; exact k
inductive LThing (K : Fg) (H : Hp) : Str -> V -> (List Int ⊕ Int) -> Prop
  | row {a : Addr} {xs : List Int} : H a = some (.lst (xs.map V.int)) -> LThing K H "row" (.ref a) (.inl xs)
  | num {n : Int} : LThing K H "number" (.int n) (.inr n)
theorem LThing.keep {K : Fg} {H H' : Hp} {k : Str} {v : V} {t : List Int ⊕ Int} (s : Same H H') (h : LThing K H k v t) : LThing K H' k v t := by
  cases h with
  | row h => exact .row (s _ _ h)
  | num => exact .num
def zpr (H : Hp) (x y : V) : Prop := y = x \/ (∃ a,y = .ref a /\ H a = none) \/ ∃ i : Int,y = .int i
theorem za8 {H H' : Hp} {a : Addr} (s : Same H H') (h : H' a = none) : H a = none := by
  cases e : H a with
  | none => rfl
  | some o => rw [s _ _ e] at h; cases h
theorem LThing.updC {K : Fg} {H : Hp} {k : Str} {v : V} {t : List Int ⊕ Int} {c : Addr} {o : HO} (h : LThing K H k v t) (hv : v ≠ .ref c) : LThing K (upd H c o) k v t := by
  cases h with
  | @row a xs h => exact .row (by rw [zaj fun z => hv (by rw [z])]; exact h)
  | num => exact .num
inductive zeN (K : Fg) (vs : List V) (H : Hp) (Q : VK) (E_ : XK) : Prop
  | mk (k x t a wd v : _) : (vs = [.str k,x,.ref a]) -> (LThing K H k x t) -> (zbo t <= 1000) -> (zc5 K H a wd v) -> (Has wd v) -> (∀ H' p y,Same H H' -> H' p = some (.tup [y,aV (doT t wd v).2]) -> LThing K H' k y (doT t wd v).1 -> zpr H x y -> Q (.ref p) H') -> zeN K vs H Q E_
theorem zhi (F : Fun K "_law_done" "_law_done" zdw f fd) (B : Bl mg) : FnOk P w K mg base CX0 1 f fd ["_law_kind","_law_state","_law_deed"] (zeN K) := by
  refine F.ok sc__law_done (fun vs H Q E h => ?_) (fun cdv A outer s H vs Q E hr h => ?_)
  . obtain ⟨k,x,t,a,wd,v,rfl,_⟩ := h; rfl
  . obtain ⟨kd,x,t,a,wd,v,rfl,hT,hz,hS,hv,k⟩ := h; have hsz : sizeLine = 16777216 := sizeLine_eq; have nt : ∀ z : Str,wd ≠ z -> decide (V.str wd = V.str z) = false := fun z h => decide_eq_false fun q => h (V.str.inj q)
    refine ⟨_,(zac (zaD (zan zaV (pv 0) zaA (zat _))
    (zac (zar (i := 3) sc__law_done.nd rfl (by first | exact .inl rfl | exact .inr rfl) zbI)
    (zac (zaD (zan (zmR hr.units) (pv 1) (zaM zad) (zat _))
    (zaf (zar (i := 3) sc__law_done.nd rfl (by first | exact .inl rfl | exact .inr rfl) (zak (zap K) (pv 1) zae (fun _ _ => rfl)))) zaq)
    (zac (zaD (zan zaV (zak (zai K) (pv 2) zae (fun _ _ => rfl)) zaA (zat _))
    (zaf (zao (zaJ (zaa (zav zjd (pv 1) (zaM (zaa (zak (zai K) (pv 2) zae (fun _ _ => rfl)) zad))) (zaa zbI zad))))) zaq)
    (zac (zaD (zan zaV (zak (zai K) (pv 2) zae (fun _ _ => rfl)) zaA (zat _))
    (zaf (zao (zaJ (zaa (zex (zij K) (pv 1) (zen zae) zhW) (zaa (pv 3) zad))))) zaq)
    (zaf (zao (zaJ (zaa (pv 1) (zaa (pv 3) zad))))))))) zaq)
    (zac (zaD (zan zaV (zak (zai K) (pv 2) zae (fun _ _ => rfl)) zaA (zat _))
    (zaf (zao (zaJ (zaa (zak (zai K) (pv 2) zae (fun _ _ => rfl)) (zaa zbI zad))))) zaq)
    (zac (zaD (zan zaV (zak (zai K) (pv 2) zae (fun _ _ => rfl)) zaA (zat _))
    (zaf (zao (zaJ (zaa (zav zbD (pv 1) (zak (zai K) (pv 2) zae (fun _ _ => rfl))) (zaa (zav zbD (pv 1) (zak (zai K) (pv 2) zae (fun _ _ => rfl))) zad))))) zaq)
    (zaf (zao (zaJ (zaa (pv 1) (zaa (pv 1) zad)))))))),?_⟩
    cases hT with
    | @row ra xs hR =>
      refine ⟨_,rfl,rfl,_,rfl,zaR ?_⟩; refine ⟨_,rfl,nlb rfl,fun p hp => ?_⟩; have s1 : Same H (upd H p (.lst [])) := Same.upd hp; refine ⟨_,_,zcu (SqL.of (s1 _ _ hR)),zcu (ns := []) (SqL.of zab),zbS _,zbS [],_,rfl,?_⟩; rw [zcU]; have hR1 := s1 _ _ hR; have hS1 : SqT K (upd H p (.lst [])) a _ := Same.tup s1 hS; generalize upd H p (.lst []) = H1 at s1 hR1 hS1 ⊢
      match xs,hR1,hz,k with
      | [],hR1,hz,k =>
        refine zaE ?_; refine ⟨_,rfl,a,_,0,_,rfl,rfl,hS1,at0,rfl,_,rfl,?_⟩
        by_cases h1 : wd = "put"
        . subst h1; obtain ⟨i,rfl⟩ := Option.isSome_iff_exists.mp (hv (.inl rfl)); refine zaR ⟨_,rfl,_,rfl,a,_,2,_,rfl,rfl,hS1,at2,nlb rfl,fun p2 hp2 => ⟨ra,p2,_,_,rfl,rfl,Same.upd hp2 _ _ hR1,zab,nlb rfl,fun p3 hp3 => ⟨nlb rfl,fun p4 hp4 => ?_⟩⟩⟩; exact k _ p4 _ (((s1.trans (Same.upd hp2)).trans (Same.upd hp3)).trans (Same.upd hp4)) zab (.row (Same.upd hp4 _ _ zab)) (.inr (.inl ⟨p3,rfl,za8 (s1.trans (Same.upd hp2)) hp3⟩))
        . rw [nt _ h1]; refine zaE ?_; refine ⟨_,rfl,a,_,0,_,rfl,rfl,hS1,at0,rfl,_,rfl,?_⟩
          by_cases h2 : wd = "take"
          . subst h2; refine zaR ⟨_,rfl,1,rfl,ra,_,rfl,SqL.of hR1,fun p2 hp2 => ⟨_,rfl,nlb rfl,fun p4 hp4 => ?_⟩⟩; exact k _ p4 _ ((s1.trans (Same.upd hp2)).trans (Same.upd hp4)) zab (.row (Same.upd hp4 _ _ zab)) (.inr (.inl ⟨p2,rfl,za8 s1 hp2⟩))
          . rw [nt _ h2]; refine zaE ⟨_,rfl,_,rfl,nlb rfl,fun p4 hp4 => ?_⟩; have e : doT (.inl []) wd v = (.inl [],none) := by show (Sum.inl (za7 [] wd v).1,(za7 [] wd v).2) = _; unfold za7; rw [if_neg h1,if_neg h2]; rfl
            rw [e] at k; exact k _ p4 _ (s1.trans (Same.upd hp4)) zab (.row (Same.upd hp4 _ _ hR1)) (.inl rfl)
      | x0 :: xr,hR1,hz,k =>
        have hz' : (x0 :: xr).length <= 1000 := hz; refine zaR ⟨_,rfl,ra,_,0,_,rfl,rfl,SqL.of hR1,at0,?_⟩; refine ⟨_,rfl,a,_,0,_,rfl,rfl,hS1,at0,rfl,_,rfl,?_⟩
        by_cases h1 : wd = "put"
        . subst h1; obtain ⟨i,rfl⟩ := Option.isSome_iff_exists.mp (hv (.inl rfl)); refine zaR ⟨_,rfl,_,rfl,a,_,2,_,rfl,rfl,hS1,at2,nlb rfl,fun p2 hp2 => ⟨ra,p2,_,_,rfl,rfl,Same.upd hp2 _ _ hR1,zab,by rw [List.length_map]; simp at hz' ⊢; omega,fun p3 hp3 => ⟨nlb rfl,fun p4 hp4 => ?_⟩⟩⟩
          refine k _ p4 _ (((s1.trans (Same.upd hp2)).trans (Same.upd hp3)).trans (Same.upd hp4)) zab ?_ (.inr (.inl ⟨p3,rfl,za8 (s1.trans (Same.upd hp2)) hp3⟩)); have e : (doT (.inl (x0 :: xr)) (Str.ofString "put") (some i)).1 = .inl ((x0 :: xr) ++ [i]) := rfl; rw [e]; refine .row (Same.upd hp4 _ _ ?_); rw [List.map_append]; exact zab
        . rw [nt _ h1]; refine zaE ?_; refine ⟨_,rfl,a,_,0,_,rfl,rfl,hS1,at0,rfl,_,rfl,?_⟩
          by_cases h2 : wd = "take"
          . subst h2; refine zaR ⟨_,rfl,1,rfl,ra,_,rfl,SqL.of hR1,fun p2 hp2 => ⟨_,rfl,nlb rfl,fun p4 hp4 => ?_⟩⟩
            have e : zc9 ((x0 :: xr).map V.int) (some 1) none = xr.map V.int := by
              unfold zc9
              have e1 : HT.sIx ((x0 :: xr).map V.int).length 0 (some 1) = 1 := by
                show HT.sIx _ 0 (some ((1 : Nat) : Int)) = 1; rw [HT.sIx_nat,List.length_map,List.length_cons]; omega
              rw [e1,HT.sIx_none]; simp; exact List.take_of_length_le (by simp)
            rw [e] at hp4 ⊢; exact k _ p4 _ ((s1.trans (Same.upd hp2)).trans (Same.upd hp4)) zab (.row (Same.upd hp4 _ _ zab)) (.inr (.inl ⟨p2,rfl,za8 s1 hp2⟩))
          . rw [nt _ h2]; refine zaE ⟨_,rfl,_,rfl,nlb rfl,fun p4 hp4 => ?_⟩; have e : doT (.inl (x0 :: xr)) wd v = (.inl (x0 :: xr),some x0) := by show (Sum.inl (za7 (x0 :: xr) wd v).1,(za7 (x0 :: xr) wd v).2) = _; unfold za7; rw [if_neg h1,if_neg h2]; rfl
            rw [e] at k; exact k _ p4 _ (s1.trans (Same.upd hp4)) zab (.row (Same.upd hp4 _ _ hR1)) (.inl rfl)
    | @num m =>
      refine ⟨_,rfl,rfl,_,rfl,zaE ?_⟩; refine ⟨_,rfl,a,_,0,_,rfl,rfl,hS,at0,rfl,_,rfl,?_⟩
      by_cases h1 : wd = "set"
      . subst h1; obtain ⟨i,rfl⟩ := Option.isSome_iff_exists.mp (hv (.inr (.inl rfl))); exact zaR ⟨_,rfl,a,_,2,_,rfl,rfl,hS,at2,nlb rfl,fun p hp => k _ p _ (Same.upd hp) zab .num (.inr (.inr ⟨_,rfl⟩))⟩
      . rw [nt _ h1]; refine zaE ?_; refine ⟨_,rfl,a,_,0,_,rfl,rfl,hS,at0,rfl,_,rfl,?_⟩
        by_cases h2 : wd = "add"
        . subst h2; obtain ⟨i,rfl⟩ := Option.isSome_iff_exists.mp (hv (.inr (.inr rfl))); exact zaR ⟨_,rfl,_,rfl,a,_,2,_,rfl,rfl,hS,at2,_,_,rfl,rfl,_,rfl,_,rfl,a,_,2,_,rfl,rfl,hS,at2,_,_,rfl,rfl,nlb rfl,fun p hp => k _ p _ (Same.upd hp) zab .num (.inr (.inr ⟨_,rfl⟩))⟩
        . rw [nt _ h2]; refine zaE ⟨_,rfl,_,rfl,nlb rfl,fun p hp => ?_⟩; have e : doT (.inr m) wd v = (.inr m,some m) := by show (Sum.inr (zfc m wd v).1,(zfc m wd v).2) = _; unfold zfc; rw [if_neg h1,if_neg h2]
          rw [e] at k; exact k _ p _ (Same.upd hp) zab .num (.inr (.inr ⟨_,rfl⟩))
def oD : Option Int -> PyData
  | some i => .int i
  | none => .none
theorem znq (x y : Option Int) : PySem.Spec.same (oD x) (oD y) = decide (x = y) := by
  cases x <;> cases y <;> simp [oD,PySem.Spec.same]
  rw [Bool.eq_iff_iff]; simp
structure Cl where
  b : Int
  e : Int
  d : zce
  a : Option Int
def CallT (K : Fg) (H : Hp) (v : V) (c : Cl) : Prop := ∃ t q,v = .ref t /\ SqT K H t [.int c.b,.int c.e,.ref q,aV c.a] /\ zc5 K H q c.d.1 c.d.2
theorem CallT.keep {K : Fg} {H H' : Hp} {v : V} {c : Cl} (s : Same H H') (h : CallT K H v c) : CallT K H' v c :=
  let ⟨t,q,h1,h2,h3⟩ := h; ⟨t,q,h1,Same.tup s h2,Same.tup s h3⟩
theorem CallT.updL {K : Fg} {H : Hp} {g : Addr} {zs : List V} {o : HO} {v : V} {c : Cl} (hg : H g = some (.lst zs)) (h : CallT K H v c) : CallT K (upd H g o) v c :=
  let ⟨t,q,h1,h2,h3⟩ := h; ⟨t,q,h1,SqT.updL hg h2,SqT.updL hg h3⟩
def Ok (k : Str) (c : Cl) : Prop := c.b < c.e /\ zhS k c.d /\ Sh c.d.1
structure Calls (K : Fg) (H : Hp) (k : Str) (vs : List V) (cs : List Cl) : Prop where
  len : vs.length = cs.length
  at_ : ∀ (i : Nat) (v : V),vs[i]? = some v -> ∃ c,cs[i]? = some c /\ CallT K H v c /\ Ok k c
theorem Calls.keep {K : Fg} {H H' : Hp} {k : Str} {vs : List V} {cs : List Cl} (s : Same H H') (h : Calls K H k vs cs) : Calls K H' k vs cs :=
  ⟨h.len,fun i v e => let ⟨c,h1,h2,h3⟩ := h.at_ i v e; ⟨c,h1,h2.keep s,h3⟩⟩
theorem Calls.updL {K : Fg} {H : Hp} {g : Addr} {zs : List V} {o : HO} {k : Str} {vs : List V} {cs : List Cl} (hg : H g = some (.lst zs)) (h : Calls K H k vs cs) : Calls K (upd H g o) k vs cs :=
  ⟨h.len,fun i v e => let ⟨c,h1,h2,h3⟩ := h.at_ i v e; ⟨c,h1,h2.updL hg,h3⟩⟩
theorem Calls.nil {K : Fg} {H : Hp} {k : Str} : Calls K H k [] [] := ⟨rfl,fun i v h => by simp at h⟩
theorem Calls.put {K : Fg} {H : Hp} {k : Str} {vs : List V} {cs : List Cl} {v : V} {c : Cl} (n : Nat) (h : Calls K H k vs cs) (hn : n <= vs.length) (hc : CallT K H v c) (ho : Ok k c) : Calls K H k (vs.take n ++ v :: vs.drop n) (cs.take n ++ c :: cs.drop n) := by
  have hl := h.len; refine ⟨by simp [hl],fun i u e => ?_⟩
  have l1 : (vs.take n).length = n := by rw [List.length_take]; omega
  have l2 : (cs.take n).length = n := by rw [List.length_take]; omega
  by_cases h1 : i < n
  . rw [List.getElem?_append_left (by omega),List.getElem?_take_of_lt h1] at e
    rw [List.getElem?_append_left (by omega),List.getElem?_take_of_lt h1]
    exact h.at_ i u e
  . rw [List.getElem?_append_right (by omega),l1] at e
    rw [List.getElem?_append_right (by omega),l2]
    cases q : i - n with
    | zero =>
      rw [q] at e; exact ⟨c,rfl,(Option.some.inj e) ▸ hc,ho⟩
    | succ j =>
      rw [q,List.getElem?_cons_succ,List.getElem?_drop] at e; rw [List.getElem?_cons_succ,List.getElem?_drop]; exact h.at_ _ u e
theorem Calls.snoc {K : Fg} {H : Hp} {k : Str} {vs : List V} {cs : List Cl} {v : V} {c : Cl} (h : Calls K H k vs cs) (hc : CallT K H v c) (ho : Ok k c) : Calls K H k (vs ++ [v]) (cs ++ [c]) := by
  have := h.put vs.length (Nat.le_refl _) hc ho; rw [List.take_length,List.drop_length,show vs.length = cs.length from h.len,List.take_length,List.drop_length] at this; exact this
theorem Calls.set {K : Fg} {H : Hp} {k : Str} {vs : List V} {cs : List Cl} {v : V} {c : Cl} (n : Nat) (h : Calls K H k vs cs) (hc : CallT K H v c) (ho : Ok k c) : Calls K H k (vs.set n v) (cs.set n c) := by
  have hl := h.len; refine ⟨by simp [hl],fun i u e => ?_⟩
  rw [List.getElem?_set] at e ⊢
  by_cases h1 : n = i
  . rw [if_pos h1] at e ⊢
    by_cases h2 : n < vs.length
    . rw [if_pos h2] at e; rw [if_pos (by omega)]
      exact ⟨c,rfl,(Option.some.inj e) ▸ hc,ho⟩
    . rw [if_neg h2] at e; cases e
  . rw [if_neg h1] at e ⊢; exact h.at_ i u e
def cl0 : Cl := ⟨0,0,("",none),none⟩
def zah (cs : List Cl) (i : Int) : Cl := cs.getD i.toNat cl0
theorem Calls.num {K : Fg} {H : Hp} {k : Str} {vs : List V} {cs : List Cl} (h : Calls K H k vs cs) {i : Int} (h0 : 0 <= i) (h1 : i < cs.length) : ∃ v,atI vs i = some v /\ CallT K H v (zah cs i) /\ Ok k (zah cs i) := by
  obtain ⟨v,hv,hv'⟩ := zhq (xs := vs) h0 (by rw [h.len]; exact h1)
  obtain ⟨c,h2,h3,h4⟩ := h.at_ _ v hv'; have e : zah cs i = c := by unfold zah; rw [List.getD_eq_getElem?_getD,h2]; rfl
  rw [e]; exact ⟨v,hv,h3,h4⟩
def zbh (c : Cl) : PyData := .tuple [.int c.b,.int c.e,dD c.d,oD c.a]
theorem zj5 {K : Fg} {H : Hp} {v : V} {c : Cl} (h : CallT K H v c) : Is K H (zbh c) v := by
  obtain ⟨t,q,rfl,h1,h2⟩ := h; unfold zbh; have hd := znv h2
  cases ea : c.a <;> rw [ea] at h1 <;> simp only [Is,IsAll,oD] <;> exact ⟨t,_,rfl,h1,_,_,rfl,rfl,_,_,rfl,rfl,_,_,rfl,hd,_,_,rfl,rfl,rfl⟩
theorem zdk {K : Fg} {H : Hp} {k : Str} : ∀ {vs : List V} {cs : List Cl},Calls K H k vs cs -> IsAll K H (cs.map zbh) vs
  | [],[],_ => by simp [IsAll]
  | [],_ :: _,h => by have := h.len; simp at this
  | _ :: _,[],h => by have := h.len; simp at this
  | v :: vs,c :: cs,h => by
    rw [List.map_cons]; simp only [IsAll]; refine ⟨v,vs,rfl,?_,zdk (k := k) ⟨by have := h.len; simpa using this,fun i u hu => ?_⟩⟩
    . obtain ⟨c',h1,h2,_⟩ := h.at_ 0 v rfl; have e' : c = c' := Option.some.inj h1; rw [e']; exact zj5 h2
    . obtain ⟨c',h1,h2⟩ := h.at_ (i + 1) u (by simpa using hu)
      exact ⟨c',by simpa using h1,h2⟩
theorem zlN {K : Fg} {H : Hp} {a : Addr} {k : Str} {vs : List V} {cs : List Cl} (hs : SqL K H a vs) (h : Calls K H k vs cs) : Is K H (.list (cs.map zbh)) (.ref a) := by
  simp only [Is]; exact ⟨a,vs,rfl,hs,zdk h⟩
theorem Calls.ok {K : Fg} {H : Hp} {k : Str} {vs : List V} {cs : List Cl} (h : Calls K H k vs cs) : ∀ c ∈ cs,Ok k c := by
  intro c hc; obtain ⟨i,hi⟩ := List.getElem?_of_mem hc; obtain ⟨hl,_⟩ := List.getElem?_eq_some_iff.mp hi; have hl' : i < vs.length := by rw [h.len]; exact hl
  obtain ⟨c',h1,_,h3⟩ := h.at_ i vs[i] (List.getElem?_eq_getElem hl'); rw [hi] at h1; rw [Option.some.inj h1]; exact h3
theorem zoz (x : Option Int) : PyData.canLay0 (oD x) = true := by cases x <;> simp [oD,PyData.canLay0]
theorem zlK (x : Option Int) : PyData.depth (oD x) = 0 := by cases x <;> simp [oD,PyData.depth]
theorem zm2 (x : Option Int) : zbr (oD x) = true := by cases x <;> simp [oD,zbr]
theorem zna (d : zce) : zbr (dD d) = true := by
  obtain ⟨wd,v⟩ := d
  cases v <;> simp [dD,zbr,zbt]
theorem zeX : ∀ cs : List Cl,(∀ c ∈ cs,c.d.1 ∈ zgG) -> PyData.canLayAll0 (cs.map zbh) = true
  | [],_ => by simp [PyData.canLayAll0]
  | c :: r,h => by
    have h1 := zl3 (h c (by simp))
    have h2 := zeX r fun c hc => h c (by simp [hc])
    simp only [List.map_cons,PyData.canLayAll0,h2,Bool.and_true]; simp [zbh,PyData.canLay0,PyData.canLayAll0,h1,zoz]
theorem zds : ∀ cs : List Cl,PyData.depthAll (cs.map zbh) <= 2
  | [] => by simp [PyData.depthAll]
  | c :: r => by
    have := zds r; have h : PyData.depth (zbh c) = 2 := by simp [zbh,PyData.depth,PyData.depthAll,ziZ,zlK]
    simp only [List.map_cons,PyData.depthAll,h]; omega
theorem zdr : ∀ cs : List Cl,zbt (cs.map zbh) = true
  | [] => by simp [zbt]
  | c :: r => by
    have h : zbr (zbh c) = true := by simp [zbh,zbr,zbt,zna,zm2]
    simp [zbt,h,zdr r]
theorem mem_iota {n : Nat} {j : Int} : j ∈ zaz 0 n ↔ 0 <= j /\ j < n := by
  unfold zaz; rw [List.mem_map]; constructor
  . rintro ⟨i,hi,rfl⟩; have := List.mem_range.mp hi; omega
  . rintro ⟨h0,h1⟩; exact ⟨j.toNat,List.mem_range.mpr (by omega),by omega⟩
theorem zb9 (n : Nat) : (zaz 0 n).Nodup := by
  unfold zaz; exact List.Pairwise.map _ (fun a b h z => h (by omega)) List.nodup_range
theorem zcr : ∀ {a b : List Int},a.Nodup -> b.Nodup -> (∀ x,x ∈ a ↔ x ∈ b) -> a.Perm b
  | [],b,_,_,h => by
    cases b with
    | nil => exact .nil
    | cons y r => exact absurd ((h y).mpr (by simp)) (by simp)
  | x :: a,b,ha,hb,h => by
    have hx : x ∈ b := (h x).mp (by simp)
    have hp := List.perm_cons_erase hx; have hn := List.nodup_cons.mp ha; refine (List.Perm.cons x (zcr hn.2 (hb.erase x) fun y => ?_)).trans hp.symm; rw [hb.mem_erase_iff]; constructor
    . intro hy; exact ⟨fun z => hn.1 (z ▸ hy),(h y).mp (by simp [hy])⟩
    . rintro ⟨h1,h2⟩
      rcases List.mem_cons.mp ((h y).mpr h2) with z | z
      . exact absurd z h1
      . exact z
theorem zdz {os : List Int} {i : Nat} (h : i < os.length) : os.getD i 0 = os[i] := by simp [List.getD_eq_getElem?_getD,h]
theorem mem_take {os : List Int} {i : Nat} {x : Int} : x ∈ os.take i ↔ ∃ q,∃ h : q < os.length,q < i /\ os[q] = x := by
  rw [List.mem_take_iff_getElem]; constructor
  . rintro ⟨q,hq,e⟩; exact ⟨q,by omega,by omega,e⟩
  . rintro ⟨q,h,hq,e⟩; exact ⟨q,by omega,e⟩
theorem zeT {os : List Int} (h : os.Nodup) {i j : Nat} {hi : i < os.length} {hj : j < os.length} (e : os[i] = os[j]) : i = j := by
  have hp := List.pairwise_iff_getElem.mp (List.nodup_iff_pairwise_ne.mp h)
  rcases Nat.lt_trichotomy i j with z | z | z
  . exact absurd e (hp i j hi hj z)
  . exact z
  . exact absurd e.symm (hp j i hj hi z)
inductive znl (K : Fg) (vs : List V) (H : Hp) (Q : VK) (E_ : XK) : Prop
  | mk (v c : _) : (vs = [v]) -> (CallT K H v c) -> (c.b < c.e) -> (Q .non H) -> znl K vs H Q E_
inductive zoF (K : Fg) (vs : List V) (H : Hp) (Q : VK) (E_ : XK) : Prop
  | mk (k l xs cs : _) : (vs = [.str k,.ref l]) -> ((k = "row" \/ k = "number")) -> (SqL K H l xs) -> (Calls K H k xs cs) -> (∀ H',Same H H' -> Q .non H') -> zoF K vs H Q E_
def zir (n : Nat) (os : List Int) : Bool := os.isPerm (zaz 0 n)
def zg1 (cs : List Cl) (os : List Int) : Bool := (List.range os.length).all fun i => !(os.take i).any fun f => decide ((zah cs (os.getD i 0)).e < (zah cs f).b)
def zdU (k : Str) (cs : List Cl) (os : List Int) : Bool := decide (zdb (t0 k) (os.map fun i => (zah cs i).d) = os.map fun i => (zah cs i).a)
theorem zfJ (F : Fun K "check_times" "check_times" zcx f fd) (B : Bl mg) : FnOk P w K mg base CX0 1 f fd ["call"] (znl K) := by
  refine F.ok zf1 (fun vs H Q E h => ?_) (fun cdv A outer s H vs Q E hr h => ?_)
  . obtain ⟨v,c,rfl,_⟩ := h; rfl
  . obtain ⟨v,c,rfl,⟨t,q,rfl,h1,h2⟩,hbe,k⟩ := h
    refine ⟨_,(zaf (zaD (zan zn0 (zak (zai K) (pv 0) zae (fun _ _ => rfl)) (zak (zai K) (pv 0) zae (fun _ _ => rfl)) (zat _))
    (zaf zlj) zaq)),?_⟩
    refine ⟨_,rfl,t,_,0,_,rfl,rfl,h1,at0,_,rfl,t,_,1,_,rfl,rfl,h1,at1,_,_,rfl,rfl,_,rfl,?_⟩; exact znY (by omega) k
theorem zfU (F : Fun K "check_calls" "check_calls" zcz f fd) (B : Bl mg) (T : Tp P w K mg st pt r b n) (g_check_deed : FnX P w K mg base "check_deed" 4 (zno K b n)) (g_check_kind : FnX P w K mg base "check_kind" 1 (zmv n)) (g_check_times : FnX P w K mg base "check_times" 1 (znl K)) :
    FnOk P w K mg base CX0 5 f fd ["kind","calls"] (zoF K) := by
  refine F.ok sc_check_calls (fun vs H Q E h => ?_) (fun cdv A outer s H vs Q E hr h => ?_)
  . obtain ⟨k,l,xs,cs,rfl,_⟩ := h; rfl
  . obtain ⟨kd,l,xs,cs,rfl,hk,hS,hC,k⟩ := h; have hkS : Sh kd := by rcases hk with rfl | rfl; exact ⟨by decide,by decide +kernel⟩; exact ⟨by decide,by decide +kernel⟩
    refine ⟨_,(zac (zaS (zay g_check_kind zaF hr rfl (zaa (pv 0) zad)))
    (zaf (zaZ PassesOwn.never rfl (zaK K (pv 1)) (zaC (i := 2) sc_check_calls.nd rfl (by first | exact .inl rfl | exact .inr rfl))
    (zac (zaS (zay g_check_times zaF hr rfl (zaa (pv 2) zad)))
    (zaf (zaS (zay g_check_deed zaF hr rfl (zaa (pv 0) (zaa (zak (zai K) (pv 2) zae (fun _ _ => rfl)) zad))))))))),?_⟩
    refine ⟨_,rfl,kd,rfl,hkS,?_⟩; rw [if_pos hk]; refine ⟨_,rfl,l,rfl,⟨_,hS⟩,za9 (K := K) (a := l) (xs := xs) (fun i σ H2 => ∃ v,σ = [some (.str kd),some (.ref l),v] /\ Same H H2) ⟨none,rfl,Same.refl _⟩ (fun i σ H2 _ ⟨_,_,s1⟩ => s1.seq hS) ?_ ?_⟩
    . rintro i y σ H2 hi ⟨v,rfl,s1⟩; obtain ⟨c,_,hc,hbe,hG,hSh⟩ := hC.at_ i y hi; have hc2 := hc.keep s1; obtain ⟨t,q,rfl,h1,h2⟩ := id hc2; refine ⟨_,rfl,_,c,rfl,hc2,hbe,?_⟩; refine ⟨_,rfl,_,rfl,t,_,2,_,rfl,rfl,h1,at2,kd,c.d.1,q,_,rfl,h2,zgK c.d.2,hkS,hSh,fun H3 s3 => ?_⟩; rw [if_pos hk,if_pos (ziM hG)]; exact ⟨_,rfl,s1.trans s3⟩
    . rintro σ H2 ⟨v,rfl,s1⟩; exact k H2 s1
theorem zko {a b : List Int} (hp : a.Perm b) (ha : a.Pairwise (· <= ·)) (hb : b.Pairwise (· <= ·)) : a = b := List.Perm.eq_of_pairwise (fun x y _ _ h1 h2 => Int.le_antisymm h1 h2) ha hb hp
theorem Calls.refs {K : Fg} {H : Hp} {k : Str} {vs : List V} {cs : List Cl} (h : Calls K H k vs cs) : ∃ qf : Nat -> Addr,∀ (i : Nat) (v : V) (c : Cl),vs[i]? = some v -> cs[i]? = some c -> ∃ t,v = .ref t /\ SqT K H t [.int c.b,.int c.e,.ref (qf i),aV c.a] /\ zc5 K H (qf i) c.d.1 c.d.2 := by
  have hx : ∀ i : Nat,∃ q : Addr,∀ (v : V) (c : Cl),vs[i]? = some v -> cs[i]? = some c -> ∃ t,v = .ref t /\ SqT K H t [.int c.b,.int c.e,.ref q,aV c.a] /\ zc5 K H q c.d.1 c.d.2 := fun i => by
    cases e : vs[i]? with
    | none => exact ⟨0,fun v c z => nomatch z⟩
    | some v =>
      obtain ⟨c,h1,⟨t,q,h2,h3,h4⟩,_⟩ := h.at_ i v e; refine ⟨q,fun v' c' hv hc => ?_⟩; cases hv; rw [h1] at hc; cases hc; exact ⟨t,h2,h3,h4⟩
  exact ⟨fun i => Classical.choose (hx i),fun i => Classical.choose_spec (hx i)⟩
theorem Calls.numQ {K : Fg} {H : Hp} {k : Str} {vs : List V} {cs : List Cl} (h : Calls K H k vs cs) {qf : Nat -> Addr} (hq : ∀ (i : Nat) (v : V) (c : Cl),vs[i]? = some v -> cs[i]? = some c -> ∃ t,v = .ref t /\ SqT K H t [.int c.b,.int c.e,.ref (qf i),aV c.a] /\ zc5 K H (qf i) c.d.1 c.d.2)
    {i : Int} (h0 : 0 <= i) (h1 : i < cs.length) : ∃ t,atI vs i = some (.ref t) /\ SqT K H t [.int (zah cs i).b,.int (zah cs i).e,.ref (qf i.toNat),aV (zah cs i).a] /\ zc5 K H (qf i.toNat) (zah cs i).d.1 (zah cs i).d.2 /\ Ok k (zah cs i) := by
  obtain ⟨v,hv,hv'⟩ := zhq (xs := vs) h0 (by rw [h.len]; exact h1)
  obtain ⟨c,h2,h3,h4⟩ := h.at_ _ v hv'; have e : zah cs i = c := by unfold zah; rw [List.getD_eq_getElem?_getD,h2]; rfl
  obtain ⟨t,rfl,h5,h6⟩ := hq _ v c hv' h2; rw [e]; exact ⟨t,hv,h5,h6,h4⟩
theorem znm {n : Nat} {os : List Int} (h : zir n os = true) : ∀ i : Int,i ∈ os -> 0 <= i /\ i < n := fun i hi => mem_iota.mp ((List.isPerm_iff.mp h).mem_iff.mp hi)
theorem zfS {A : Around} {k : Nat} (hr : Room k A) : A.units + 100 < cLine := by
  have := hr.un; omega
def bOf (cs : List Cl) (i : Int) : Int := (zah cs i).b
def eOf (cs : List Cl) (i : Int) : Int := (zah cs i).e
def zal (n : Nat) (gs : List Int) : List Int := (zaz 0 n).filter fun x => !inV (V.int x) (gs.map V.int)
def zax (cs : List Cl) (gs : List Int) : List Int :=
  (zal cs.length gs).filter fun i => (zal cs.length gs).all fun j => decide (bOf cs i <= eOf cs j)
theorem zcE {n : Nat} {gs : List Int} {i : Int} (h : i ∈ zal n gs) : 0 <= i /\ i < n := by
  unfold zal zaz at h; obtain ⟨j,hj,rfl⟩ := List.mem_map.mp (List.mem_filter.mp h).1; have := List.mem_range.mp hj; omega
theorem zmy {cs : List Cl} {gs : List Int} {M : Int} (h1 : M ∈ (zal cs.length gs).map (eOf cs)) (h2 : ∀ a ∈ (zal cs.length gs).map (eOf cs),M <= a) :
    (zal cs.length gs).filter (fun i => decide (bOf cs i <= M)) = zax cs gs := by
  unfold zax; refine List.filter_congr fun i hi => ?_; rw [Bool.eq_iff_iff,decide_eq_true_eq,List.all_eq_true]; constructor
  . intro h j hj; have := h2 (eOf cs j) (List.mem_map.mpr ⟨j,hj,rfl⟩); exact decide_eq_true (Int.le_trans h this)
  . intro h; obtain ⟨j,hj,e⟩ := List.mem_map.mp h1; rw [<- e]; exact of_decide_eq_true (h j hj)
theorem zmP {cs : List Cl} {gs : List Int} (h : zal cs.length gs = []) : zax cs gs = [] := by unfold zax; rw [h]; rfl
def eV (cs : List Cl) : V -> V
  | .int i => .int (eOf cs i)
  | _ => .non
def bV (cs : List Cl) (M : Int) : V -> Bool
  | .int i => decide (bOf cs i <= M)
  | _ => false
theorem zou (cs : List Cl) (L : List Int) : ((L.map V.int).filter fun _ => true).map (eV cs) = (L.map (eOf cs)).map V.int := by
  rw [List.filter_eq_self.mpr (fun _ _ => rfl),List.map_map,List.map_map]
  rfl
theorem zgQ (cs : List Cl) (M : Int) : ∀ L : List Int,((L.map V.int).filter (bV cs M)).map id = (L.filter fun i => decide (bOf cs i <= M)).map V.int
  | [] => rfl
  | i :: r => by
    have ih := zgQ cs M r; rw [List.map_id] at ih ⊢; rw [List.map_cons,List.filter_cons,List.filter_cons]; have e : bV cs M (V.int i) = decide (bOf cs i <= M) := rfl; rw [e]
    cases decide (bOf cs i <= M) with
    | true => rw [if_pos rfl,if_pos rfl,List.map_cons,ih]
    | false => rw [if_neg fnt,if_neg fnt,ih]
inductive zhE (K : Fg) (vs : List V) (H : Hp) (Q : VK) (E_ : XK) : Prop
  | mk (c g : Addr) (k : Str) (xs : List V) (cs : List Cl) (gs : List Int) : (vs = [.ref c,.ref g]) -> (SqL K H c xs) -> (Calls K H k xs cs) -> ((SqL K H g (gs.map V.int) \/ SqT K H g (gs.map V.int))) -> (xs.length <= 1000) -> (∀ (D : Addr) (H' : Hp),Same H H' -> H' D = some (.lst ((zax cs gs).map V.int)) -> Q (.ref D) H') -> zhE K vs H Q E_
theorem zgA (F : Fun K "free_calls" "free_calls" zbm f fd) (B : Bl mg) (g_check_times : FnX P w K mg base "check_times" 1 (znl K)) : FnOk P w K mg base CX0 2 f fd ["calls","gone"] (zhE K) := by
  refine F.ok sc_free_calls (fun vs H Q E h => ?_) (fun cdv A outer s H vs Q E hr h => ?_)
  . obtain ⟨c,g,kd,xs,cs,gs,rfl,_⟩ := h; rfl
  . obtain ⟨c,g,kd,xs,cs,gs,rfl,hS,hC,hG,hlen,k⟩ := h; have hsz : sizeLine = 16777216 := sizeLine_eq
    refine ⟨_,(zac (zaZ PassesOwn.never rfl (zaK K (pv 0)) (zaC (i := 2) sc_free_calls.nd rfl (by first | exact .inl rfl | exact .inr rfl))
    (zaf (zaS (zay g_check_times zaF hr rfl (zaa (pv 2) zad)))))
    (zac (zb7 (i := 3) (zcd (sc := zag zbm) (N0 := zbM) (ns := ["gone"]) (idx := [1]) (by decide +kernel)) rfl sc_free_calls.nd rfl (by first | exact .inl rfl | exact .inr rfl) (zbl rfl B.range_ (zaa (zas (zau K) rfl B.len_ PySem.boot_len (zaa (pv 0) zad)) zad)) (fun _ _ _ _ => (zcq (zan (zbu K) (pv 0) (pv 1) rfl))) (fun _ _ _ _ => (pv 0)) rfl)
    (zac (zaD (zbd (zdG K (pv 3) (fun _ => rfl)))
    (zaf (zao (zaM zad))) zaq)
    (zac (zar (i := 4) sc_free_calls.nd rfl (by first | exact .inl rfl | exact .inr rfl) (zas (zg9 rfl) rfl B.min_ PyProof.Rows.boot_min (zaa (ze9 (zcd (sc := zag zbm) (N0 := zbM) (ns := ["calls"]) (idx := [0]) (by decide +kernel)) rfl (zaK K (pv 3)) (fun _ _ _ _ => zcZ) (fun _ _ _ _ => (zak (zai K) (zak (zap K) (pv 1) (pv 0) (fun _ _ => rfl)) zae (fun _ _ => rfl)))) zad)))
    (zaf (zao (ze9 (zcd (sc := zag zbm) (N0 := zbM) (ns := ["first_end","calls"]) (idx := [4,0]) (by decide +kernel)) rfl (zaK K (pv 3)) (fun _ _ _ _ => (zcq (zan znR (zak (zai K) (zak (zap K) (pv 2) (pv 0) (fun _ _ => rfl)) zae (fun _ _ => rfl)) (pv 1) (zat _)))) (fun _ _ _ _ => (pv 0))))))))),?_⟩
    refine ⟨_,rfl,c,rfl,⟨_,hS⟩,za9 (K := K) (a := c) (xs := xs) (fun i σ H2 => (∃ v,σ = [some (.ref c),some (.ref g),v,none,none]) /\ H2 = H) ⟨⟨none,rfl⟩,rfl⟩ (fun i σ H2 _ q => by obtain ⟨_,rfl⟩ := q; exact hS) ?_ ?_⟩
    . rintro i y σ H2 hi ⟨⟨v,rfl⟩,rfl⟩; obtain ⟨cl,_,hc,hbe,_⟩ := hC.at_ i y hi; exact ⟨_,rfl,_,cl,rfl,hc,hbe,⟨_,rfl⟩,rfl⟩
    rintro σ H2 ⟨⟨v,rfl⟩,rfl⟩; have nt : ((xs.length : Int)).toNat = xs.length := by omega
    refine ⟨_,rfl,c,xs,rfl,.inl hS,(xs.length : Int),rfl,by omega,by omega,zf6 (lo := 0) (n := ((xs.length : Int)).toNat) (fun x => !inV (V.int x) (gs.map V.int)) V.int (by omega) ?_ ?_ ?_⟩
    . intro x _ _ D ys R hD hR; exact ⟨_,rfl,_,rfl,g,gs.map V.int,rfl,(hG.imp (Same.upd hD).seq (Same.tup (Same.upd hD))),rfl,zb2 gs,_,rfl,hR⟩
    . intro x _ _ _ D ys R hD hR; exact ⟨_,rfl,hR⟩
    intro D hD; rw [nt]; have hn : xs.length = cs.length := hC.len; rw [hn]; have eL : (zaz 0 cs.length).filter (fun x => !inV (V.int x) (gs.map V.int)) = zal cs.length gs := rfl; rw [eL]; have hS1 : SqL K (upd H2 D (.lst ((zal cs.length gs).map V.int))) c xs := (Same.upd hD).seq hS; have hC1 : Calls K (upd H2 D (.lst ((zal cs.length gs).map V.int))) kd xs cs := hC.keep (Same.upd hD); have s1 : Same H2 (upd H2 D (.lst ((zal cs.length gs).map V.int))) := Same.upd hD; generalize hH1 : upd H2 D (.lst ((zal cs.length gs).map V.int)) = H1 at hS1 hC1 s1 ⊢; have hD1 : H1 D = some (.lst ((zal cs.length gs).map V.int)) := by rw [<- hH1]; exact zab
    refine ⟨_,rfl,_,.inl ⟨_,SqL.of hD1,rfl⟩,?_⟩
    by_cases hL : zal cs.length gs = []
    . refine zcI (by rw [hL]; rfl) ?_
      refine ⟨Nat.zero_le _,fun p hp => ?_⟩; refine k p _ (s1.trans (Same.upd hp)) ?_; rw [zab,zmP hL]
      rfl
    have hne : ((zal cs.length gs).map V.int).isEmpty = false := by
      cases q : zal cs.length gs with
      | nil => exact absurd q hL
      | cons _ _ => rfl
    refine zda (by rw [hne]; decide) ?_
    have hlenL : ((zal cs.length gs).map V.int).length <= sizeLine := by
      rw [List.length_map]; have h1 : (zal cs.length gs).length <= (zaz 0 cs.length).length := List.length_filter_le _ _; have h2 : (zaz 0 cs.length).length = cs.length := by simp [zaz]
      omega
    have inL : ∀ x ∈ (zal cs.length gs).map V.int,∃ i,x = V.int i /\ 0 <= i /\ i < xs.length := fun x hx => by
      obtain ⟨i,hi,rfl⟩ := List.mem_map.mp hx; have := zcE hi; exact ⟨i,rfl,this.1,by omega⟩
    refine ⟨_,rfl,D,rfl,⟨_,SqL.of hD1⟩,zfv (xs := (zal cs.length gs).map V.int) (fun _ => true) (eV cs) (SqL.of hD1) hlenL ?_ ?_ ?_⟩
    . intro x hx D2 ys R hD2 hR; exact hR
    . intro x hx _ D2 ys R hD2 hR; obtain ⟨i,rfl,h0,h1⟩ := inL x hx; obtain ⟨v',hv,⟨t,q,rfl,ht,hq⟩,_⟩ := (hC1.keep (Same.upd hD2)).num h0 (by rw [<- hn]; exact h1)
      exact ⟨_,rfl,_,rfl,c,xs,i,_,rfl,rfl,(Same.upd hD2).seq hS1,hv,t,_,1,_,rfl,rfl,ht,at1,hR⟩
    intro D2 hD2; rw [zou]; refine ⟨D2,(zal cs.length gs).map (eOf cs),rfl,SqL.of zab,fun z => hL (List.map_eq_nil_iff.mp z),fun M hM1 hM2 => ?_⟩; have s2 : Same H1 (upd H1 D2 (.lst (((zal cs.length gs).map (eOf cs)).map V.int))) := Same.upd hD2; generalize upd H1 D2 (.lst (((zal cs.length gs).map (eOf cs)).map V.int)) = H3 at s2 ⊢; refine ⟨_,rfl,D,rfl,⟨_,SqL.of (s2 _ _ hD1)⟩,zfv (xs := (zal cs.length gs).map V.int) (bV cs M) id (SqL.of (s2 _ _ hD1)) hlenL ?_ ?_ ?_⟩
    . intro x hx D3 ys R hD3 hR; obtain ⟨i,rfl,h0,h1⟩ := inL x hx; have s3 := s2.trans (Same.upd (o := .lst ys) hD3); obtain ⟨v',hv,⟨t,q,rfl,ht,hq⟩,_⟩ := (hC1.keep s3).num h0 (by rw [<- hn]; exact h1)
      exact ⟨_,rfl,_,rfl,c,xs,i,_,rfl,rfl,s3.seq hS1,hv,t,_,0,_,rfl,rfl,ht,at0,_,rfl,_,_,rfl,rfl,_,rfl,hR⟩
    . intro x hx _ D3 ys R hD3 hR; exact ⟨_,rfl,hR⟩
    intro D3 hD3; have s3 := s1.trans s2; refine k D3 _ (s3.trans (Same.upd hD3)) ?_; rw [zab,zgQ,zmy hM1 hM2]
abbrev Th := List Int ⊕ Int
def srt (l : List Int) : List Int := l.mergeSort fun a b => decide (a <= b)
theorem zhT {a l : List Int} (hp : a.Perm l) (hs : a.Pairwise (· <= ·)) : a = srt l := by
  refine zko (hp.trans (List.mergeSort_perm _ _).symm) hs ?_
  have h := List.pairwise_mergeSort (le := fun a b : Int => decide (a <= b)) (fun a b c h1 h2 => decide_eq_true (Int.le_trans (of_decide_eq_true h1) (of_decide_eq_true h2))) (fun a b => by
    rw [Bool.or_eq_true,decide_eq_true_eq,decide_eq_true_eq]
    omega) l
  exact h.imp fun h => of_decide_eq_true h
def zoK (gs : List Int) (i : Int) (t : Th) : NK := [.inl (srt (gs ++ [i])),t]
def okI (cs : List Cl) (gs : List Int) (t : Th) (ks : List NK) (i : Int) : Bool := !decide ((doT t (zah cs i).d.1 (zah cs i).d.2).2 = (zah cs i).a) || zbZ ks (zoK gs i (doT t (zah cs i).d.1 (zah cs i).d.2).1)
def shB (cs : List Cl) (gs : List Int) (t : Th) (ks : List NK) : Bool := (zax cs gs).all (okI cs gs t ks) && !(zax cs gs).isEmpty
theorem zj9 {cs : List Cl} {gs : List Int} {i : Int} (h : i ∈ zax cs gs) : 0 <= i /\ i < cs.length := by
  unfold zax at h; exact zcE (List.mem_filter.mp h).1
theorem zhR (a b : Option Int) : decide (aV a = aV b) = decide (a = b) := by
  rw [decide_eq_decide]; constructor
  . intro h
    cases a <;> cases b <;> first | rfl | (cases h; rfl) | cases h
  . rintro rfl; rfl
theorem zdh {K : Fg} {H : Hp} {k : Str} {x : V} {t : Th} (h : Thing K H k x t) : elAt K H t x := by
  cases h with
  | row h => exact h
  | num => rfl
abbrev Row := List Int × Th
structure Rows (K : Fg) (H : Hp) (k : Str) (vs : List V) (rs : List Row) : Prop where
  len : vs.length = rs.length
  at_ : ∀ (i : Nat) (v : V),vs[i]? = some v -> ∃ r t g x,rs[i]? = some r /\ v = .ref t /\ SqT K H t [.ref g,x] /\ H g = some (.lst (r.1.map V.int)) /\ Thing K H k x r.2
theorem Rows.keep {K : Fg} {H H' : Hp} {k : Str} {vs : List V} {rs : List Row} (s : Same H H') (h : Rows K H k vs rs) : Rows K H' k vs rs :=
  ⟨h.len,fun i v e => let ⟨r,t,g,x,h1,h2,h3,h4,h5⟩ := h.at_ i v e; ⟨r,t,g,x,h1,h2,Same.tup s h3,s _ _ h4,h5.keep s⟩⟩
def ziQ (n : Nat) (rs : List Row) : Prop := rs.length <= 90000 /\ ∀ r ∈ rs,r.1.length <= 60 /\ zbo r.2 <= 1000 /\ ∀ i : Int,i ∈ r.1 -> 0 <= i /\ i < n
def zc8 (ks : List NK) (k : NK) : List NK := if zbZ ks k = true then ks else ks ++ [k]
def zbG (r : Row) : NK := [.inl r.1,r.2]
def zaW (rs : List Row) : List NK := rs.foldl (fun ks r => zc8 ks (zbG r)) []
theorem ziy (rs : List Row) (r : Row) : zaW (rs ++ [r]) = zc8 (zaW rs) (zbG r) := by unfold zaW; rw [List.foldl_append]; rfl
theorem zlS : ∀ (rs : List Row),(zaW rs).length <= rs.length := by
  intro rs
  have : ∀ (rs : List Row) (ks : List NK),(rs.foldl (fun ks r => zc8 ks (zbG r)) ks).length <= ks.length + rs.length := by
    intro rs
    induction rs with
    | nil => intro ks; exact Nat.le_refl _
    | cons r t ih =>
      intro ks; have h1 := ih (zc8 ks (zbG r)); have h2 : (zc8 ks (zbG r)).length <= ks.length + 1 := by unfold zc8; split <;> simp
      show (t.foldl _ (zc8 ks (zbG r))).length <= _; rw [List.length_cons]; omega
  have h := this rs []; unfold zaW
  simpa using h
def zhb (cs : List Cl) (rs : List Row) : Bool := (List.range rs.length).all fun i => shB cs (rs.getD i ([],.inr 0)).1 (rs.getD i ([],.inr 0)).2 (zaW (rs.take i))
theorem zlT {cs : List Cl} {rs : List Row} {i : Nat} {r : Row} (h : rs[i]? = some r) (hf : shB cs r.1 r.2 (zaW (rs.take i)) = false) : zhb cs rs = false := by
  unfold zhb; refine List.all_eq_false.mpr ⟨i,List.mem_range.mpr (List.getElem?_eq_some_iff.mp h).1,?_⟩; rw [List.getD_eq_getElem?_getD,h]; show ¬ shB cs r.1 r.2 _ = true; rw [hf]; decide
theorem zgH {cs : List Cl} {rs : List Row} (h : ∀ (i : Nat) r,rs[i]? = some r -> shB cs r.1 r.2 (zaW (rs.take i)) = true) : zhb cs rs = true := by
  unfold zhb; refine List.all_eq_true.mpr fun i hi => ?_; have hl := List.mem_range.mp hi; have e := List.getElem?_eq_getElem hl; rw [List.getD_eq_getElem?_getD,e]; exact h i _ e
def thD : Th -> PyData
  | .inl xs => .tuple (xs.map PyData.int)
  | .inr n => .int n
def zdc (r : Row) : PyData := .tuple [.list (r.1.map PyData.int),thD r.2]
theorem zl5 {K : Fg} {H : Hp} {k : Str} {x : V} {t : Th} (h : Thing K H k x t) : Is K H (thD t) x := by
  cases h with
  | row h =>
    obtain ⟨a,rfl,h⟩ := h; simp only [thD,Is]; exact ⟨a,_,rfl,h,zd6 _⟩
  | num => simp [thD,Is]
theorem zi6 {K : Fg} {H : Hp} {k : Str} {t g : Addr} {x : V} {r : Row} (h1 : SqT K H t [.ref g,x]) (h2 : H g = some (.lst (r.1.map V.int))) (h3 : Thing K H k x r.2) : Is K H (zdc r) (.ref t) := by
  have a1 := zcu (K := K) (SqL.of h2); have a2 := zl5 h3; unfold zdc; rw [Is]; refine ⟨t,_,rfl,h1,?_⟩; simp only [IsAll]; exact ⟨_,_,rfl,a1,_,_,rfl,a2,rfl⟩
theorem zgi {K : Fg} {H : Hp} {k : Str} : ∀ {vs : List V} {rs : List Row},Rows K H k vs rs -> IsAll K H (rs.map zdc) vs
  | [],[],_ => by simp [IsAll]
  | [],_ :: _,h => by have := h.len; simp at this
  | _ :: _,[],h => by have := h.len; simp at this
  | v :: vs,r :: rs,h => by
    rw [List.map_cons]; simp only [IsAll]; refine ⟨v,vs,rfl,?_,zgi (k := k) ⟨by have := h.len; simpa using this,fun i u hu => ?_⟩⟩
    . obtain ⟨r',t,g,x,h1,rfl,h3,h4,h5⟩ := h.at_ 0 v rfl; have e' : r = r' := Option.some.inj h1; rw [e']; exact zi6 h3 h4 h5
    . obtain ⟨r',t,g,x,h1,h2⟩ := h.at_ (i + 1) u (by simpa using hu)
      exact ⟨r',t,g,x,by simpa using h1,h2⟩
theorem zjR {K : Fg} {H : Hp} {a : Addr} {k : Str} {vs : List V} {rs : List Row} (hs : SqL K H a vs) (h : Rows K H k vs rs) : Is K H (.list (rs.map zdc)) (.ref a) := by
  rw [Is]; exact ⟨a,vs,rfl,hs,zgi h⟩
theorem zd1 : ∀ ns : List Int,PyData.depthAll (ns.map PyData.int) = 0
  | [] => by simp [PyData.depthAll]
  | n :: r => by simp [PyData.depthAll,PyData.depth,zd1 r]
theorem zge : ∀ ns : List Int,PyData.canLayAll0 (ns.map PyData.int) = true
  | [] => by simp [PyData.canLayAll0]
  | n :: r => by simp [PyData.canLayAll0,PyData.canLay0,zge r]
theorem zoe (t : Th) : PyData.canLay0 (thD t) = true := by
  cases t with
  | inl xs => simp only [thD,PyData.canLay0]; exact zge xs
  | inr n => simp [thD,PyData.canLay0]
theorem zmo (t : Th) : PyData.depth (thD t) <= 1 := by
  cases t with
  | inl xs => simp only [thD,PyData.depth,zd1]; omega
  | inr n => simp [thD,PyData.depth]
theorem znD (t : Th) : zbr (thD t) = true := by
  cases t with
  | inl xs => simp only [thD,zbr]; exact zc0 xs
  | inr n => simp [thD,zbr]
theorem zkm (r : Row) : PyData.canLay0 (zdc r) = true := by
  simp [zdc,PyData.canLay0,PyData.canLayAll0,zge,zoe]
theorem zg8 (r : Row) : PyData.depth (zdc r) <= 2 := by
  have := zmo r.2; simp only [zdc,PyData.depth,PyData.depthAll,zd1]; omega
theorem zin (r : Row) : zbr (zdc r) = true := by
  simp [zdc,zbr,zbt,zc0,znD]
theorem zjX (r : Row) : Cmp (zdc r) := by
  refine ⟨?_,zin r⟩; have h := zg8 r; unfold SeqAt.shaped; rw [Bool.and_eq_true]; exact ⟨zkm r,decide_eq_true (by omega)⟩
theorem zix : ∀ rs : List Row,PyData.canLayAll0 (rs.map zdc) = true
  | [] => by simp [PyData.canLayAll0]
  | r :: t => by simp [PyData.canLayAll0,zkm r,zix t]
theorem zfV : ∀ rs : List Row,PyData.depthAll (rs.map zdc) <= 2
  | [] => by simp [PyData.depthAll]
  | r :: t => by
    have h1 := zg8 r; have h2 := zfV t; simp only [List.map_cons,PyData.depthAll]; omega
theorem zfC : ∀ rs : List Row,zbt (rs.map zdc) = true
  | [] => by simp [zbt]
  | r :: t => by simp [zbt,zin r,zfC t]
theorem zis (rs : List Row) : Cmp (.list (rs.map zdc)) := by
  refine ⟨?_,by simp only [zbr]; exact zfC rs⟩
  have h := zfV rs; unfold SeqAt.shaped; rw [Bool.and_eq_true]; exact ⟨by simp only [PyData.canLay0]; exact zix rs,decide_eq_true (by simp only [PyData.depth]; omega)⟩
theorem zeu : ∀ a b : List Int,PySem.Spec.sameAll (a.map PyData.int) (b.map PyData.int) = decide (a = b) := fun a b => by
  have := zcU a b
  simpa only [PySem.Spec.same] using this
theorem znn (a b : Th) : PySem.Spec.same (thD a) (thD b) = decide (a = b) := by
  cases a with
  | inl xs =>
    cases b with
    | inl ys =>
      simp only [thD,PySem.Spec.same,zeu]; rw [decide_eq_decide]; exact ⟨fun h => by rw [h],fun h => Sum.inl.inj h⟩
    | inr m => simp [thD,PySem.Spec.same]
  | inr n =>
    cases b with
    | inl ys => simp [thD,PySem.Spec.same]
    | inr m =>
      simp only [thD,PySem.Spec.same]; rw [Bool.eq_iff_iff]; simp
theorem zmQ (a b : Row) : PySem.Spec.same (zdc a) (zdc b) = decide (a = b) := by
  unfold zdc; simp only [PySem.Spec.same,PySem.Spec.sameAll,zeu,znn,Bool.and_true]; rw [Bool.eq_iff_iff,Bool.and_eq_true,decide_eq_true_eq,decide_eq_true_eq,decide_eq_true_eq,Prod.ext_iff]
def zc2 (cs : List Cl) (k : Str) (rs : List Row) : Bool := zhb cs rs && decide (rs.getLast? = some ([],t0 k))
theorem zfp {α : Type} {vs : List α} {v : α} (h : vs.getLast? = some v) : atI vs (-1) = some v := by
  have hne : vs ≠ [] := fun z => by rw [z] at h; cases h
  have hl : 0 < vs.length := List.length_pos_iff.mpr hne; unfold atI ixN; rw [if_neg (by omega),if_pos (by omega)]
  show vs[(-1 + (vs.length : Int)).toNat]? = some v; rw [show (-1 + (vs.length : Int)).toNat = vs.length - 1 by omega,<- List.getLast?_eq_getElem?]
  exact h
theorem znJ {H : Hp} {m g t0 : Addr} {zs : List V} {is : List Int} {o : HO} (hm : H m = some (.lst (.ref t0 :: zs))) (h : H g = some (.lst (is.map V.int))) : (upd H m o) g = some (.lst (is.map V.int)) := by
  rw [zaj (za2 h hm fun z => by cases is <;> cases z)]
  exact h
theorem Rows.updL {K : Fg} {H : Hp} {k : Str} {vs : List V} {rs : List Row} {m t0 : Addr} {zs : List V} {o : HO} (hm : H m = some (.lst (.ref t0 :: zs))) (h : Rows K H k vs rs) : Rows K (upd H m o) k vs rs :=
  ⟨h.len,fun i v e => let ⟨r,t,g,x,h1,h2,h3,h4,h5⟩ := h.at_ i v e; ⟨r,t,g,x,h1,h2,SqT.updL hm h3,(znJ hm h4),Thing.updL hm h5⟩⟩
theorem Rows.snoc {K : Fg} {H : Hp} {k : Str} {vs : List V} {rs : List Row} {t g : Addr} {x : V} {r : Row} (h : Rows K H k vs rs) (h1 : SqT K H t [.ref g,x]) (h2 : H g = some (.lst (r.1.map V.int))) (h3 : Thing K H k x r.2) : Rows K H k (vs ++ [.ref t]) (rs ++ [r]) := by
  have hl := h.len; refine ⟨by rw [List.length_append,List.length_append,hl]; rfl,fun i v e => ?_⟩
  by_cases hi : i < vs.length
  . rw [List.getElem?_append_left hi] at e; obtain ⟨r',t',g',x',q⟩ := h.at_ i v e; exact ⟨r',t',g',x',by rw [List.getElem?_append_left (by omega)]; exact q.1,q.2⟩
  . rw [List.getElem?_append_right (by omega)] at e
    rw [List.getElem?_append_right (by omega),<- hl]
    cases q : i - vs.length with
    | zero =>
      rw [q] at e; exact ⟨r,t,g,x,rfl,(Option.some.inj e).symm,h1,h2,h3⟩
    | succ j => rw [q] at e; cases e
theorem Rows.updD {K : Fg} {H : Hp} {k : Str} {vs : List V} {rs : List Row} {D : Addr} {o : HO} (hD : H D = some (.lst vs)) (h : Rows K H k vs rs) : Rows K (upd H D o) k vs rs := by
  cases vs with
  | nil => exact ⟨h.len,fun i v e => by simp at e⟩
  | cons v r =>
    obtain ⟨_,t,_,_,_,rfl,_⟩ := h.at_ 0 v rfl; exact h.updL hD
theorem zgT {K : Fg} {H : Hp} {k : Str} {vs : List V} {cs : List Cl} (hC : Calls K H k vs cs) : Cmp (.list (cs.map zbh)) := by
  refine ⟨?_,by simp only [zbr]; exact zdr cs⟩
  have h := zds cs; unfold SeqAt.shaped; rw [Bool.and_eq_true]; exact ⟨by simp only [PyData.canLay0]; exact zeX cs fun c hc => zg2 (hC.ok c hc).2.1,decide_eq_true (by simp only [PyData.depth]; omega)⟩
def zbT (c : Cl) : Bool := decide (c.d.1 = "take")
def zbs (c : Cl) : Bool := decide (c.d.1 = "put")
def zkd (ws : Int -> Prop) : List Cl -> List Int -> Prop
  | [],_ => True
  | c :: L,[] => (∀ v,c.a = some v -> ws v) /\ zkd ws L []
  | c :: L,v :: vs => c.a = some v /\ (if zbT c = true then zkd ws L vs else zkd ws L (v :: vs))
abbrev Sees (ws : Int -> Prop) (vs : List Int) (L : List Cl) : Prop := zkd ws L vs
theorem Sees.nil (ws : Int -> Prop) (vs : List Int) : Sees ws vs [] := trivial
theorem sees_iff {ws : Int -> Prop} : ∀ {L : List Cl},Sees ws [] L ↔ ∀ c ∈ L,∀ v,c.a = some v -> ws v
  | [] => ⟨fun _ c hc => absurd hc (by simp),fun _ => trivial⟩
  | x :: L => by
    constructor
    . rintro ⟨h1,h2⟩ c hc
      rcases List.mem_cons.mp hc with rfl | hc
      . exact h1
      . exact sees_iff.mp h2 c hc
    . intro h; exact ⟨h x (by simp),sees_iff.mpr fun c hc => h c (by simp [hc])⟩
theorem Sees.drop {ws : Int -> Prop} {c : Cl} (hc : zbT c = false) : ∀ (l1 : List Cl) {l2 : List Cl} {vs : List Int},Sees ws vs (l1 ++ c :: l2) -> Sees ws vs (l1 ++ l2)
  | l1,l2,[],h => sees_iff.mpr fun x hx => sees_iff.mp h x (by
      rcases List.mem_append.mp hx with hx | hx
      . exact List.mem_append_left _ hx
      . exact List.mem_append_right _ (List.mem_cons_of_mem _ hx))
  | [],l2,v :: vs,h => by
    have h' : c.a = some v /\ (if zbT c = true then Sees ws vs l2 else Sees ws (v :: vs) l2) := h; rw [hc] at h'; exact h'.2
  | x :: l1,l2,v :: vs,h => by
    have h' : x.a = some v /\ (if zbT x = true then Sees ws vs (l1 ++ c :: l2) else Sees ws (v :: vs) (l1 ++ c :: l2)) := h; show x.a = some v /\ (if zbT x = true then Sees ws vs (l1 ++ l2) else Sees ws (v :: vs) (l1 ++ l2)); refine ⟨h'.1,?_⟩; have h2 := h'.2
    by_cases e : zbT x = true
    . rw [if_pos e] at h2 ⊢; exact Sees.drop hc l1 h2
    . rw [if_neg e] at h2 ⊢; exact Sees.drop hc l1 h2
theorem Sees.swap {ws : Int -> Prop} {c f : Cl} (ht : zbT c = zbT f) (ha : c.a = f.a) : ∀ (l1 : List Cl) {l2 : List Cl} {vs : List Int},Sees ws vs (l1 ++ c :: l2) -> Sees ws vs (l1 ++ f :: l2)
  | l1,l2,[],h => sees_iff.mpr fun x hx v hv => by
      have h := sees_iff.mp h
      rcases List.mem_append.mp hx with hx | hx
      . exact h x (List.mem_append_left _ hx) v hv
      . rcases List.mem_cons.mp hx with rfl | hx
        . exact h c (List.mem_append_right _ (by simp)) v (by rw [ha]; exact hv)
        . exact h x (List.mem_append_right _ (List.mem_cons_of_mem _ hx)) v hv
  | [],l2,v :: vs,h => by
    have h' : c.a = some v /\ (if zbT c = true then Sees ws vs l2 else Sees ws (v :: vs) l2) := h; rw [ht,ha] at h'; exact h'
  | x :: l1,l2,v :: vs,h => by
    have h' : x.a = some v /\ (if zbT x = true then Sees ws vs (l1 ++ c :: l2) else Sees ws (v :: vs) (l1 ++ c :: l2)) := h; show x.a = some v /\ (if zbT x = true then Sees ws vs (l1 ++ f :: l2) else Sees ws (v :: vs) (l1 ++ f :: l2)); refine ⟨h'.1,?_⟩; have h2 := h'.2
    by_cases e : zbT x = true
    . rw [if_pos e] at h2 ⊢; exact Sees.swap ht ha l1 h2
    . rw [if_neg e] at h2 ⊢; exact Sees.swap ht ha l1 h2
theorem Sees.mem {ws : Int -> Prop} : ∀ {L : List Cl} {vs : List Int},Sees ws vs L -> ∀ c ∈ L,∀ v,c.a = some v -> v ∈ vs \/ ws v
  | L,[],h,c,hc,v,hv => .inr (sees_iff.mp h c hc v hv)
  | [],_ :: _,_,c,hc,_,_ => by cases hc
  | x :: L,u :: vs,h,c,hc,v,hv => by
    have h' : x.a = some u /\ (if zbT x = true then Sees ws vs L else Sees ws (u :: vs) L) := h
    rcases List.mem_cons.mp hc with rfl | hc
    . rw [h'.1] at hv; exact .inl (by rw [<- Option.some.inj hv]; simp)
    . have h2 := h'.2
      by_cases e : zbT x = true
      . rw [if_pos e] at h2
        rcases Sees.mem h2 c hc v hv with h3 | h3
        . exact .inl (List.mem_cons_of_mem _ h3)
        . exact .inr h3
      . rw [if_neg e] at h2; exact Sees.mem h2 c hc v hv
def tOk (x y : Cl) : Prop := x.b <= y.e
def Sched (ws : Int -> Prop) (vs : List Int) (S : List Cl) : Prop := ∃ L : List Cl,L.Perm S /\ L.Pairwise tOk /\ Sees ws vs L
theorem Sched.nil {ws : Int -> Prop} {vs : List Int} : Sched ws vs [] := ⟨[],.nil,.nil,Sees.nil ws vs⟩
def zgD (S : List Cl) (v : Int) (c : Cl) : Prop := c ∈ S /\ c.a = some v /\ ∀ x ∈ S,c.b <= x.e
theorem Sched.some {ws : Int -> Prop} {v : Int} {vs : List Int} {S : List Cl} (h : Sched ws (v :: vs) S) (hb : ∀ c ∈ S,c.b < c.e) (hS : S ≠ []) : ∃ c,zgD S v c := by
  obtain ⟨L,h1,h2,h3⟩ := h
  cases L with
  | nil => exact absurd (h1.symm.eq_nil) hS
  | cons f L =>
    have hf : f ∈ S := h1.mem_iff.mp (by simp)
    refine ⟨f,hf,h3.1,fun x hx => ?_⟩
    rcases List.mem_cons.mp (h1.mem_iff.mpr hx) with rfl | hx
    . exact Int.le_of_lt (hb _ hf)
    . exact (List.pairwise_cons.mp h2).1 x hx
theorem Sched.look {ws : Int -> Prop} {vs : List Int} {S S' : List Cl} {c : Cl} (h : Sched ws vs S) (hp : S.Perm (c :: S')) (hc : zbT c = false) : Sched ws vs S' := by
  obtain ⟨L,h1,h2,h3⟩ := h; have hm : c ∈ L := (h1.trans hp).mem_iff.mpr (by simp)
  obtain ⟨l1,l2,rfl⟩ := List.append_of_mem hm; refine ⟨l1 ++ l2,?_,h2.sublist (List.Sublist.append_left (List.sublist_cons_self c l2) l1),Sees.drop hc l1 h3⟩; exact (List.perm_middle.symm.trans (h1.trans hp)).cons_inv
theorem Sched.take {ws : Int -> Prop} {v : Int} {vs : List Int} {S S' : List Cl} {c : Cl} (h : Sched ws (v :: vs) S) (hb : ∀ c ∈ S,c.b < c.e) (hp : S.Perm (c :: S')) (hc : zbT c = true) (hf : zgD S v c)
    (hmin : ∀ x,zgD S v x -> zbT x = true /\ c.e <= x.e) : Sched ws vs S' := by
  obtain ⟨L,h1,h2,h3⟩ := h
  cases L with
  | nil => exact absurd hf.1 (by rw [h1.symm.eq_nil]; simp)
  | cons f L =>
    have hfS : f ∈ S := h1.mem_iff.mp (by simp)
    have hpw := List.pairwise_cons.mp h2
    have hff : zgD S v f := ⟨hfS,h3.1,fun x hx => by
      rcases List.mem_cons.mp (h1.mem_iff.mpr hx) with rfl | hx
      . exact Int.le_of_lt (hb _ hfS)
      . exact hpw.1 x hx⟩
    obtain ⟨ht,he⟩ := hmin f hff
    have h4 : Sees ws vs L := by
      have := h3.2; rw [if_pos ht] at this; exact this
    have hcL : c ∈ f :: L := h1.mem_iff.mpr hf.1
    rcases List.mem_cons.mp hcL with rfl | hcL
    . exact ⟨L,(h1.trans hp).cons_inv,hpw.2,h4⟩
    . obtain ⟨l1,l2,rfl⟩ := List.append_of_mem hcL; refine ⟨l1 ++ f :: l2,?_,?_,Sees.swap (by rw [hc,ht]) (by rw [hf.2.1,h3.1]) l1 h4⟩
      . have p1 : (c :: (l1 ++ f :: l2)).Perm (c :: S') := by
          refine List.Perm.trans ?_ (h1.trans hp); have a1 : (l1 ++ f :: l2).Perm (f :: (l1 ++ l2)) := List.perm_middle; have a2 : (l1 ++ c :: l2).Perm (c :: (l1 ++ l2)) := List.perm_middle; exact ((List.Perm.cons c a1).trans (List.Perm.swap f c _)).trans (List.Perm.cons f a2.symm)
        exact p1.cons_inv
      . have q1 := hpw.2; rw [List.pairwise_append] at q1 ⊢; obtain ⟨b1,b2,b3⟩ := q1; have b2' := List.pairwise_cons.mp b2; refine ⟨b1,List.pairwise_cons.mpr ⟨fun y hy => hpw.1 y (List.mem_append_right _ (List.mem_cons_of_mem _ hy)),b2'.2⟩,fun x hx y hy => ?_⟩
        rcases List.mem_cons.mp hy with rfl | hy
        . have : x.b <= c.e := b3 x hx c (by simp)
          exact Int.le_trans this he
        . exact b3 x hx y (List.mem_cons_of_mem _ hy)
def stp (cs : List Cl) (t : Th) (i : Int) : Th × Option Int := doT t (zah cs i).d.1 (zah cs i).d.2
def Run (cs : List Cl) : List Int -> Th -> List Int -> Prop
  | gs,_,[] => zal cs.length gs = []
  | gs,t,i :: is => i ∈ zax cs gs /\ (stp cs t i).2 = (zah cs i).a /\ Run cs (gs ++ [i]) (stp cs t i).1 is
def zbe (cs : List Cl) (gs : List Int) (t : Th) : Prop := ∃ is,Run cs gs t is
theorem mem_leftOf {n : Nat} {gs : List Int} {i : Int} : i ∈ zal n gs ↔ (i ∈ zaz 0 n /\ i ∉ gs) := by
  unfold zal; rw [List.mem_filter,zbU]; simp only [Bool.not_eq_true',List.any_eq_false,beq_iff_eq]; exact ⟨fun h => ⟨h.1,fun z => h.2 i z rfl⟩,fun h => ⟨h.1,fun g hg e => h.2 (e ▸ hg)⟩⟩
theorem zdP (n : Nat) {a b : List Int} (h : ∀ x,x ∈ a ↔ x ∈ b) : zal n a = zal n b := by
  unfold zal; refine List.filter_congr fun x _ => ?_; rw [zbU,zbU,Bool.eq_iff_iff]; simp only [Bool.not_eq_true',List.any_eq_false,beq_iff_eq]; exact ⟨fun k g hg => k g ((h g).mpr hg),fun k g hg => k g ((h g).mp hg)⟩
theorem zcm (cs : List Cl) {a b : List Int} (h : ∀ x,x ∈ a ↔ x ∈ b) : zax cs a = zax cs b := by
  unfold zax; rw [zdP cs.length h]
theorem Run.congr {cs : List Cl} : ∀ {is : List Int} {a b : List Int} {t : Th},(∀ x,x ∈ a ↔ x ∈ b) -> Run cs a t is -> Run cs b t is
  | [],a,b,t,h,r => by
    show zal cs.length b = []; rw [<- zdP cs.length h]; exact r
  | i :: is,a,b,t,h,r => by
    refine ⟨by rw [<- zcm cs h]; exact r.1,r.2.1,Run.congr (fun x => ?_) r.2.2⟩
    rw [List.mem_append,List.mem_append,h x]
theorem zd7 (n : Nat) (gs : List Int) : (zal n gs).Nodup := (zb9 n).filter _
theorem zeR (n : Nat) (gs : List Int) (z : Int) : zal n (gs ++ [z]) = (zal n gs).filter fun i => decide (i ≠ z) := by
  unfold zal; rw [List.filter_filter]; refine List.filter_congr fun i _ => ?_; rw [zbU,zbU,Bool.eq_iff_iff]; simp only [Bool.not_eq_true',List.any_eq_false,beq_iff_eq,Bool.and_eq_true,decide_eq_true_eq]; constructor
  . intro h; exact ⟨fun e => h z (by simp) e.symm,fun g hg => h g (by simp [hg])⟩
  . rintro ⟨h1,h2⟩ g hg e
    rcases List.mem_append.mp hg with h | h
    . exact h2 g h e
    . exact h1 (by rw [<- e,List.mem_singleton.mp h])
theorem zdA {n : Nat} {gs : List Int} {z : Int} (h : z ∈ zal n gs) : (zal n gs).Perm (z :: zal n (gs ++ [z])) := by
  have hn := zd7 n gs; refine zcr hn (List.nodup_cons.mpr ⟨fun hz => ?_,zd7 n _⟩) fun x => ?_
  . rw [mem_leftOf] at hz; exact hz.2 (by simp)
  . rw [zeR,List.mem_cons,List.mem_filter]; constructor
    . intro hx
      by_cases e : x = z
      . exact .inl e
      . exact .inr ⟨hx,decide_eq_true e⟩
    . rintro (rfl | hx)
      . exact h
      . exact hx.1
theorem zbk {cs : List Cl} {gs : List Int} {i : Int} (h : i ∈ zax cs gs) : i ∈ zal cs.length gs := (List.mem_filter.mp h).1
theorem zeo {cs : List Cl} {gs : List Int} {i j : Int} (h : i ∈ zax cs gs) (hj : j ∈ zal cs.length gs) : tOk (zah cs i) (zah cs j) := by
  have := (List.mem_filter.mp h).2; rw [List.all_eq_true] at this; have h2 := this j hj; rw [decide_eq_true_eq] at h2; exact h2
theorem Run.perm {cs : List Cl} : ∀ {is : List Int} {gs : List Int} {t : Th},Run cs gs t is -> is.Perm (zal cs.length gs)
  | [],gs,t,r => by
    have r' : zal cs.length gs = [] := r; rw [r']
  | i :: is,gs,t,r => (List.Perm.cons i (Run.perm r.2.2)).trans (zdA (zbk r.1)).symm
theorem Run.time {cs : List Cl} : ∀ {is : List Int} {gs : List Int} {t : Th},Run cs gs t is -> (is.map (zah cs)).Pairwise tOk
  | [],gs,t,r => .nil
  | i :: is,gs,t,r => by
    rw [List.map_cons,List.pairwise_cons]; refine ⟨fun y hy => ?_,Run.time r.2.2⟩; obtain ⟨j,hj,rfl⟩ := List.mem_map.mp hy; have hj' := (Run.perm r.2.2).mem_iff.mp hj; rw [zeR] at hj'; exact zeo r.1 (List.mem_filter.mp hj').1
theorem Run.sees {cs : List Cl} {ws : Int -> Prop} : ∀ {is : List Int} {gs : List Int} {vs us : List Int},Run cs gs (.inl (vs ++ us)) is -> (∀ u ∈ us,ws u) -> (∀ i ∈ is,zbs (zah cs i) = true -> ws ((zah cs i).d.2.getD 0)) →
    Sees ws vs ((is.map (zah cs)).filter fun c => !zbs c)
  | [],gs,vs,us,r,_,_ => Sees.nil ws vs
  | i :: is,gs,vs,us,r,hu,hw => by
    obtain ⟨h1,h2,h3⟩ := r; unfold stp at h2 h3; have hw' : ∀ i ∈ is,zbs (zah cs i) = true -> ws ((zah cs i).d.2.getD 0) := fun j hj => hw j (by simp [hj])
    rw [List.map_cons,List.filter_cons]
    by_cases hp : zbs (zah cs i) = true
    . have e : (zah cs i).d.1 = "put" := of_decide_eq_true hp; rw [hp]; simp only [Bool.not_true]; rw [if_neg fnt]
      have e3 : (doT (.inl (vs ++ us)) (zah cs i).d.1 (zah cs i).d.2).1 = .inl (vs ++ (us ++ [(zah cs i).d.2.getD 0])) := by
        show Sum.inl (za7 (vs ++ us) (zah cs i).d.1 (zah cs i).d.2).1 = _; unfold za7; rw [if_pos e,List.append_assoc]
      rw [e3] at h3; refine Run.sees h3 (fun u hu' => ?_) hw'
      rcases List.mem_append.mp hu' with h | h
      . exact hu u h
      . rw [List.mem_singleton.mp h]; exact hw i (by simp) hp
    . have e : ¬ (zah cs i).d.1 = "put" := fun z => hp (decide_eq_true z); have hp' : zbs (zah cs i) = false := by cases h : zbs (zah cs i) with | true => exact absurd h hp | false => rfl
      rw [hp']; simp only [Bool.not_false,if_true]
      have ea : (doT (.inl (vs ++ us)) (zah cs i).d.1 (zah cs i).d.2).2 = (vs ++ us).head? := by
        show (za7 (vs ++ us) (zah cs i).d.1 (zah cs i).d.2).2 = _; unfold za7; rw [if_neg e]
        split <;> rfl
      rw [ea] at h2
      by_cases ht : zbT (zah cs i) = true
      . have et : (zah cs i).d.1 = "take" := of_decide_eq_true ht
        have e3 : (doT (.inl (vs ++ us)) (zah cs i).d.1 (zah cs i).d.2).1 = .inl ((vs ++ us).drop 1) := by
          show Sum.inl (za7 (vs ++ us) (zah cs i).d.1 (zah cs i).d.2).1 = _; unfold za7; rw [if_neg e,if_pos et]
        rw [e3] at h3
        cases vs with
        | nil =>
          refine ⟨fun v hv => ?_,?_⟩
          . rw [<- h2] at hv; exact hu v (List.mem_of_mem_head? hv)
          . have h4 : Run cs (gs ++ [i]) (.inl (([] : List Int) ++ us.drop 1)) is := h3; exact Run.sees h4 (fun u hu' => hu u (List.mem_of_mem_drop hu')) hw'
        | cons v vs =>
          refine ⟨h2.symm,?_⟩; rw [if_pos ht]; exact Run.sees (vs := vs) h3 hu hw'
      . have et : ¬ (zah cs i).d.1 = "take" := fun z => ht (decide_eq_true z)
        have e3 : (doT (.inl (vs ++ us)) (zah cs i).d.1 (zah cs i).d.2).1 = .inl (vs ++ us) := by
          show Sum.inl (za7 (vs ++ us) (zah cs i).d.1 (zah cs i).d.2).1 = _; unfold za7; rw [if_neg e,if_neg et]
        rw [e3] at h3
        cases vs with
        | nil =>
          refine ⟨fun v hv => ?_,?_⟩
          . rw [<- h2] at hv; exact hu v (List.mem_of_mem_head? hv)
          . exact Run.sees h3 hu hw'
        | cons v vs =>
          refine ⟨h2.symm,?_⟩; rw [if_neg ht]; exact Run.sees h3 hu hw'
def zmr (cs : List Cl) (gs : List Int) : List Cl := ((zal cs.length gs).map (zah cs)).filter fun c => !zbs c
def za5 (cs : List Cl) (gs : List Int) : List Int := (((zal cs.length gs).map (zah cs)).filter zbs).map fun c => c.d.2.getD 0
theorem zlq {cs : List Cl} {gs xs : List Int} (h : zbe cs gs (.inl xs)) : Sched (fun v => v ∈ za5 cs gs) xs (zmr cs gs) := by
  obtain ⟨is,r⟩ := h; have hp := Run.perm r; refine ⟨(is.map (zah cs)).filter fun c => !zbs c,(hp.map _).filter _,(Run.time r).filter _,?_⟩; refine Run.sees (us := []) (by rw [List.append_nil]; exact r) (fun u hu => by cases hu) fun i hi hput => ?_
  exact List.mem_map.mpr ⟨_,List.mem_filter.mpr ⟨List.mem_map.mpr ⟨i,hp.mem_iff.mp hi,rfl⟩,hput⟩,rfl⟩
inductive Reach (cs : List Cl) (k : Str) : List Int -> Th -> Prop
  | nil : Reach cs k [] (t0 k)
  | snoc {gs : List Int} {t : Th} {i : Int} : Reach cs k gs t -> i ∈ zax cs gs -> (stp cs t i).2 = (zah cs i).a -> Reach cs k (gs ++ [i]) (stp cs t i).1
theorem Reach.nodup {cs : List Cl} {k : Str} {gs : List Int} {t : Th} (h : Reach cs k gs t) : gs.Nodup /\ ∀ i ∈ gs,i ∈ zaz 0 cs.length := by
  induction h with
  | nil => exact ⟨List.nodup_nil,fun i hi => by cases hi⟩
  | snoc h hi _ ih =>
    have hl := mem_leftOf.mp (zbk hi); refine ⟨?_,fun j hj => ?_⟩
    . rw [List.nodup_append]; exact ⟨ih.1,by simp,fun a ha b hb z => hl.2 (by rw [<- List.mem_singleton.mp hb,<- z]; exact ha)⟩
    . rcases List.mem_append.mp hj with hj | hj
      . exact ih.2 j hj
      . rw [List.mem_singleton.mp hj]; exact hl.1
theorem Reach.size {cs : List Cl} {k : Str} {gs : List Int} {t : Th} (h : Reach cs k gs t) : zbo t <= gs.length := by
  induction h with
  | nil => unfold t0; split <;> exact Nat.le_refl _
  | @snoc gs t i _ _ _ ih =>
    have := zhY t (zah cs i).d; rw [List.length_append]; show zbo (doT t (zah cs i).d.1 (zah cs i).d.2).1 <= _ + 1; omega
theorem Reach.left {cs : List Cl} {k : Str} {gs : List Int} {t : Th} (h : Reach cs k gs t) : gs.length + (zal cs.length gs).length = cs.length := by
  induction h with
  | nil =>
    have e : zal cs.length [] = zaz 0 cs.length := List.filter_eq_self.mpr fun x _ => rfl; rw [e]; simp [zaz]
  | snoc _ hi _ ih =>
    have := (zdA (zbk hi)).length_eq; rw [List.length_cons] at this; rw [List.length_append]; show _ + 1 + _ = _; omega
theorem Reach.full {cs : List Cl} {k : Str} {gs : List Int} {t : Th} (h : Reach cs k gs t) : zal cs.length gs = [] ↔ gs.length = cs.length := by
  have := h.left; rw [<- List.length_eq_zero_iff]; omega
theorem znk {a b : List Int} (h : srt a = srt b) (x : Int) : x ∈ a ↔ x ∈ b := by
  have p1 : (srt a).Perm a := List.mergeSort_perm _ _; have p2 : (srt b).Perm b := List.mergeSort_perm _ _; rw [<- p1.mem_iff,<- p2.mem_iff,h]
def zd8 (cs : List Cl) (ks : List NK) (ws : List Row) : Prop := ∀ (gs : List Int) (t : Th),zbZ ks (zbG (srt gs,t)) = true -> zal cs.length gs ≠ [] ∧
  (zbe cs gs t -> ∀ i ∈ zax cs gs,(stp cs t i).2 = (zah cs i).a -> zbZ ks (zbG (srt (gs ++ [i]),(stp cs t i).1)) = true \/ ∃ w ∈ ws,srt w.1 = srt (gs ++ [i]) /\ w.2 = (stp cs t i).1)
theorem zgF {cs : List Cl} {ks : List NK} (h : zd8 cs ks []) : ∀ (is : List Int) (gs : List Int) (t : Th),zbZ ks (zbG (srt gs,t)) = true -> ¬ Run cs gs t is
  | [],gs,t,hk,r => (h gs t hk).1 r
  | i :: is,gs,t,hk,r => by
    rcases (h gs t hk).2 ⟨_,r⟩ i r.1 r.2.1 with h1 | ⟨w,hw,_⟩
    . exact zgF h is _ _ h1 r.2.2
    . cases hw
theorem hasK_add {ks : List NK} {k k' : NK} : zbZ (zc8 ks k) k' = true ↔ (zbZ ks k' = true \/ k' = k) := by
  unfold zc8 zbZ
  split
  . rename_i h
    constructor
    . exact .inl
    . rintro (h1 | rfl)
      . exact h1
      . exact h
  . simp only [List.any_append,List.any_cons,List.any_nil,Bool.or_false,Bool.or_eq_true,decide_eq_true_eq]; constructor
    . rintro (h1 | h1)
      . exact .inl h1
      . exact .inr h1.symm
    . rintro (h1 | h1)
      . exact .inl h1
      . exact .inr h1.symm
theorem zjv (l : List Int) : (srt l).Pairwise (· <= ·) := by
  have h := List.pairwise_mergeSort (le := fun a b : Int => decide (a <= b)) (fun a b c h1 h2 => decide_eq_true (Int.le_trans (of_decide_eq_true h1) (of_decide_eq_true h2))) (fun a b => by
    rw [Bool.or_eq_true,decide_eq_true_eq,decide_eq_true_eq]
    omega) l
  exact h.imp fun h => of_decide_eq_true h
theorem zdZ (l : List Int) : (srt l).Perm l := List.mergeSort_perm _ _
theorem zgN {a b : List Int} (h : a.Perm b) : srt a = srt b := zhT ((zdZ a).trans h) (zjv a)
theorem ziD {a b : List Int} (h : srt a = srt b) : a.Perm b := (zdZ a).symm.trans (by rw [h]; exact zdZ b)
theorem zlx {a b : Row} (h : zbG a = zbG b) : a = b := by
  unfold zbG at h; obtain ⟨a1,a2⟩ := a; obtain ⟨b1,b2⟩ := b; simp only [List.cons.injEq,Sum.inl.injEq,and_true] at h; rw [h.1,h.2]
theorem zh7 {cs : List Cl} {ks : List NK} {ws : List Row} {w : Row} (h : zd8 cs ks (ws ++ [w])) (hk : zbZ ks (zbG (srt w.1,w.2)) = true) : zd8 cs ks ws := by
  intro gs t hg; refine ⟨(h gs t hg).1,fun hc i hi ha => ?_⟩
  rcases (h gs t hg).2 hc i hi ha with h1 | ⟨v,hv,e1,e2⟩
  . exact .inl h1
  . rcases List.mem_append.mp hv with hv | hv
    . exact .inr ⟨v,hv,e1,e2⟩
    . rw [List.mem_singleton.mp hv] at e1 e2; rw [<- e1,<- e2]; exact .inl hk
theorem ze4 {cs : List Cl} {ks : List NK} {ws cw : List Row} {w : Row} (h : zd8 cs ks (ws ++ [w])) (hl : zal cs.length w.1 ≠ [])
    (hw : zbe cs w.1 w.2 -> ∀ i ∈ zax cs w.1,(stp cs w.2 i).2 = (zah cs i).a -> (w.1 ++ [i],(stp cs w.2 i).1) ∈ cw) : zd8 cs (zc8 ks (zbG (srt w.1,w.2))) (ws ++ cw) := by
  intro gs t hg
  rcases hasK_add.mp hg with hg | hg
  . refine ⟨(h gs t hg).1,fun hc i hi ha => ?_⟩
    rcases (h gs t hg).2 hc i hi ha with h1 | ⟨v,hv,e1,e2⟩
    . exact .inl (hasK_add.mpr (.inl h1))
    . rcases List.mem_append.mp hv with hv | hv
      . exact .inr ⟨v,List.mem_append_left _ hv,e1,e2⟩
      . rw [List.mem_singleton.mp hv] at e1 e2; rw [<- e1,<- e2]; exact .inl (hasK_add.mpr (.inr rfl))
  . have e := zlx hg; have e1 : srt gs = srt w.1 := congrArg Prod.fst e; have e2 : t = w.2 := congrArg Prod.snd e; subst e2; have hm := znk e1; refine ⟨by rw [zdP cs.length hm]; exact hl,fun hc i hi ha => ?_⟩
    rw [zcm cs hm] at hi; have hc' : zbe cs w.1 w.2 := let ⟨is,r⟩ := hc; ⟨is,Run.congr hm r⟩; exact .inr ⟨_,List.mem_append_right _ (hw hc' i hi ha),zgN ((ziD e1).symm.append_right [i]),rfl⟩
def zfb (k : Str) (ks : List NK) (ws : List Row) : Prop := zbZ ks (zbG (srt [],t0 k)) = true \/ ∃ w ∈ ws,srt w.1 = srt [] /\ w.2 = t0 k
theorem zjD {k : Str} {ks : List NK} {ws : List Row} {w : Row} (h : zfb k ks (ws ++ [w])) (hk : zbZ ks (zbG (srt w.1,w.2)) = true) : zfb k ks ws := by
  rcases h with h | ⟨v,hv,e1,e2⟩
  . exact .inl h
  . rcases List.mem_append.mp hv with hv | hv
    . exact .inr ⟨v,hv,e1,e2⟩
    . rw [List.mem_singleton.mp hv] at e1 e2; unfold zfb; rw [<- e1,<- e2]; exact .inl hk
theorem zfW {k : Str} {ks : List NK} {ws cw : List Row} {w : Row} (h : zfb k ks (ws ++ [w])) : zfb k (zc8 ks (zbG (srt w.1,w.2))) (ws ++ cw) := by
  rcases h with h | ⟨v,hv,e1,e2⟩
  . exact .inl (hasK_add.mpr (.inl h))
  . rcases List.mem_append.mp hv with hv | hv
    . exact .inr ⟨v,List.mem_append_left _ hv,e1,e2⟩
    . rw [List.mem_singleton.mp hv] at e1 e2; unfold zfb; rw [<- e1,<- e2]; exact .inl (hasK_add.mpr (.inr rfl))
theorem zo3 {cs : List Cl} {k : Str} {ks : List NK} (h : zd8 cs ks []) (hb : zfb k ks []) : ¬ zbe cs [] (t0 k) := by
  rintro ⟨is,r⟩
  rcases hb with hb | ⟨w,hw,_⟩
  . exact zgF h is [] (t0 k) hb r
  . cases hw
def zit (cs : List Cl) (wf : List Int -> Nat) : Prop := ∀ gs,((zax cs gs).map fun i => wf (gs ++ [i])).sum + 1 <= wf gs
def zb6 (wf : List Int -> Nat) (ws : List Row) : Nat := (ws.map fun w => wf w.1).sum
theorem zde (wf : List Int -> Nat) (a b : List Row) : zb6 wf (a ++ b) = zb6 wf a + zb6 wf b := by unfold zb6; rw [List.map_append,List.sum_append]
theorem zgh {cs : List Cl} {wf : List Int -> Nat} (h : zit cs wf) : ∀ ws : List Row,ws.length <= zb6 wf ws
  | [] => Nat.le_refl _
  | w :: ws => by
    have h1 := zgh h ws; have h2 := h w.1; unfold zb6 at h1 ⊢; rw [List.map_cons,List.sum_cons,List.length_cons]; omega
def zaT (cs : List Cl) (gs : List Int) (t : Th) : List Row := ((zax cs gs).filter fun i => decide ((stp cs t i).2 = (zah cs i).a)).map fun i => (gs ++ [i],(stp cs t i).1)
theorem zib {cs : List Cl} {gs : List Int} {t : Th} {i : Int} (hi : i ∈ zax cs gs) (ha : (stp cs t i).2 = (zah cs i).a) : (gs ++ [i],(stp cs t i).1) ∈ zaT cs gs t :=
  List.mem_map.mpr ⟨i,List.mem_filter.mpr ⟨hi,decide_eq_true ha⟩,rfl⟩
theorem zjG {cs : List Cl} {k : Str} {gs : List Int} {t : Th} (h : Reach cs k gs t) : ∀ w ∈ zaT cs gs t,Reach cs k w.1 w.2 := by
  intro w hw; obtain ⟨i,hi,rfl⟩ := List.mem_map.mp hw; have := List.mem_filter.mp hi; exact .snoc h this.1 (of_decide_eq_true this.2)
theorem zdN (f : Int -> Nat) (p : Int -> Bool) : ∀ l : List Int,((l.filter p).map f).sum <= (l.map f).sum
  | [] => Nat.le_refl _
  | x :: l => by
    have := zdN f p l; rw [List.filter_cons,List.map_cons,List.sum_cons]
    split
    . rw [List.map_cons,List.sum_cons]; omega
    . omega
theorem zlY {cs : List Cl} {wf : List Int -> Nat} (h : zit cs wf) (gs : List Int) (t : Th) : zb6 wf (zaT cs gs t) + 1 <= wf gs := by
  have h1 := h gs; have h2 := zdN (fun i => wf (gs ++ [i])) (fun i => decide ((stp cs t i).2 = (zah cs i).a)) (zax cs gs); unfold zb6 zaT; rw [List.map_map]; have e : ((fun w : Row => wf w.1) ∘ fun i => (gs ++ [i],(stp cs t i).1)) = fun i => wf (gs ++ [i]) := rfl; rw [e]; omega
theorem Reach.tok {cs : List Cl} {k : Str} {gs : List Int} {t : Th} (h : Reach cs k gs t) : (gs.map (zah cs)).Pairwise tOk /\ ∀ f ∈ gs,∀ j ∈ zal cs.length gs,tOk (zah cs f) (zah cs j) := by
  induction h with
  | nil => exact ⟨.nil,fun f hf => by cases hf⟩
  | @snoc gs t i _ hi _ ih =>
    refine ⟨?_,fun f hf j hj => ?_⟩
    . rw [List.map_append,List.pairwise_append]; refine ⟨ih.1,by simp,fun x hx y hy => ?_⟩
      obtain ⟨f,hf,rfl⟩ := List.mem_map.mp hx; rw [List.mem_singleton.mp hy]; exact ih.2 f hf i (zbk hi)
    . rw [zeR] at hj; have hj' := (List.mem_filter.mp hj).1
      rcases List.mem_append.mp hf with hf | hf
      . exact ih.2 f hf j hj'
      . rw [List.mem_singleton.mp hf]; exact zeo hi hj'
theorem Reach.ans {cs : List Cl} {k : Str} {gs : List Int} {t : Th} (h : Reach cs k gs t) : stT (t0 k) (gs.map fun i => (zah cs i).d) = t /\ zdb (t0 k) (gs.map fun i => (zah cs i).d) = gs.map fun i => (zah cs i).a := by
  induction h with
  | nil => exact ⟨rfl,rfl⟩
  | @snoc gs t i _ _ ha ih =>
    rw [List.map_append,List.map_append]; refine ⟨?_,?_⟩
    . show stT _ (_ ++ [_]) = _; rw [zgf,ih.1]
      rfl
    . show zdb _ (_ ++ [_]) = _; rw [zeC,ih.1,ih.2]; show _ ++ [(stp cs t i).2] = _; rw [ha]
      rfl
theorem Reach.order {cs : List Cl} {k : Str} {gs : List Int} {t : Th} (h : Reach cs k gs t) (hn : gs.length = cs.length) : gs.Perm (zaz 0 cs.length) := by
  have hd := h.nodup; have hl := h.full.mpr hn; refine zcr hd.1 (zb9 _) fun x => ⟨hd.2 x,fun hx => ?_⟩
  by_cases hg : x ∈ gs
  . exact hg
  . exact absurd (mem_leftOf.mpr ⟨hx,hg⟩) (by rw [hl]; simp)
def Cz (K : Fg) (H : Hp) (k : Str) (zs : List (V × Cl)) : Prop := ∀ z ∈ zs,CallT K H z.1 z.2 /\ Ok k z.2
theorem CallT.mv {K : Fg} {H H' : Hp} {v : V} {c : Cl} (s : Mv H H') (h : CallT K H v c) : CallT K H' v c :=
  let ⟨t,q,h1,h2,h3⟩ := h; ⟨t,q,h1,s.tup h2,s.tup h3⟩
theorem Cz.mv {K : Fg} {H H' : Hp} {k : Str} {zs : List (V × Cl)} (s : Mv H H') (h : Cz K H k zs) : Cz K H' k zs := fun z hz => ⟨(h z hz).1.mv s,(h z hz).2⟩
theorem Cz.calls {K : Fg} {H : Hp} {k : Str} {zs : List (V × Cl)} (h : Cz K H k zs) : Calls K H k (zs.map (·.1)) (zs.map (·.2)) :=
  ⟨by rw [List.length_map,List.length_map],fun i v e => by
    rw [List.getElem?_map] at e; obtain ⟨z,hz,rfl⟩ := Option.map_eq_some_iff.mp e; have := h z (List.mem_of_getElem? hz)
    exact ⟨z.2,by rw [List.getElem?_map,hz]; rfl,this.1,this.2⟩⟩
theorem Calls.mv {K : Fg} {H H' : Hp} {k : Str} {vs : List V} {cs : List Cl} (s : Mv H H') (h : Calls K H k vs cs) : Calls K H' k vs cs :=
  ⟨h.len,fun i v e => let ⟨c,h1,h2,h3⟩ := h.at_ i v e; ⟨c,h1,h2.mv s,h3⟩⟩
theorem Cz.filter {K : Fg} {H : Hp} {k : Str} {zs : List (V × Cl)} (p : V × Cl -> Bool) (h : Cz K H k zs) : Cz K H k (zs.filter p) := fun z hz => h z (List.mem_filter.mp hz).1
def zig (S : List Cl) (v : Int) (c : Cl) : Bool := (S.all fun x => decide (c.b <= x.e)) && decide (c.a = some v)
theorem zkb {S : List Cl} {v : Int} {c : Cl} (hc : c ∈ S) : zig S v c = true ↔ zgD S v c := by
  unfold zig zgD; rw [Bool.and_eq_true,List.all_eq_true,decide_eq_true_eq]; constructor
  . rintro ⟨h1,h2⟩; exact ⟨hc,h2,fun x hx => of_decide_eq_true (h1 x hx)⟩
  . rintro ⟨_,h2,h3⟩; exact ⟨fun x hx => decide_eq_true (h3 x hx),h2⟩
def zpE : List Stmt -> Option (Arguments × Expr × Scope × Pos)
  | [_,_,.Return (some (.Call _ _ [⟨_,.Lambda a b s p,_⟩,_] _)) _] => some (a,b,s,p)
  | _ => none
def lam0 : Arguments × Expr × Scope × Pos := (zpE (zaI zaQ)).getD (za1 zaQ,.Name "" ⟨0,0,0,0⟩,zag zaQ,⟨0,0,0,0⟩)
abbrev zqp : Arguments := lam0.1
abbrev zqL : Expr := lam0.2.1
abbrev zpu : Scope := lam0.2.2.1
abbrev zco : Pos := lam0.2.2.2
abbrev zcg : Str := (("fitting_call" : Str) ++ ".<locals>.") ++ "<lambda>"
theorem zpC : zaw ["call"] ["call"] zpu := ⟨rfl,rfl,rfl,by decide +kernel,rfl,by decide +kernel,by decide +kernel⟩
inductive zme (K : Fg) (Pt : Addr) (vs : List V) (H : Hp) (Q : VK) (E_ : XK) : Prop
  | mk (l : Addr) (v : Int) (k : Str) (zs : List (V × Cl)) : (vs = [.ref l,.int v]) -> (SqL K H l (zs.map (·.1))) -> (Cz K H k zs) -> (zs ≠ []) -> (zs.length <= 60) -> (LamTab Pt zco zcg H) -> ((∀ H',Mv H H' -> LamTab Pt zco zcg H' -> (∀ c,¬ zgD (zs.map (·.2)) v c) -> Q .non H')) -> (∀ H' z,Mv H H' -> LamTab Pt zco zcg H' -> z ∈ zs -> zgD (zs.map (·.2)) v z.2 -> (zbT z.2 = true -> ∀ x,zgD (zs.map (·.2)) v x -> zbT x = true /\ z.2.e <= x.e) -> Q z.1 H') -> zme K Pt vs H Q E_
def zf9 (zs : List (V × Cl)) (i : Nat) : Bool × Int := match zs[i]? with
  | some z => (zbT z.2,z.2.e)
  | none => (false,0)
theorem znB {a b : Bool × Int} (h : HT.lexLt (kz b) (kz a) = false) (ha : a.1 = true) : b.1 = true /\ a.2 <= b.2 := by
  obtain ⟨a1,a2⟩ := a; obtain ⟨b1,b2⟩ := b; have ha' : a1 = true := ha; subst ha'; unfold kz at h; rw [zj8] at h
  cases b1 with
  | false => simp [HT.b2z] at h
  | true =>
    rw [if_pos rfl] at h; have := of_decide_eq_false h; exact ⟨rfl,by show a2 <= b2; omega⟩
theorem zfu (a b : Str) : decide (V.str a = V.str b) = decide (a = b) := by
  rw [decide_eq_decide]; exact ⟨fun h => V.str.inj h,fun h => by rw [h]⟩
theorem zff {c Pt : Addr} (F : FunC K "fitting_call" "fitting_call" zaQ f fd c) (B : Bl mg) (hB : BAt mg base) (hC : PySem.W.codeHdIn K c Pt = true) : FnOk P w K mg base CX0 3 f fd ["seeing","value"] (zme K Pt) := by
  refine F.ok sc_fitting_call (fun vs H Q E h => ?_) (fun A outer s H vs Q E hr h => ?_)
  . obtain ⟨l,v,k,zs,rfl,_⟩ := h; rfl
  . obtain ⟨l,v,kd,zs,rfl,hS,hZ,hne,hlen,hT,k0,k1⟩ := h; have hsz : sizeLine = 16777216 := sizeLine_eq
    refine ⟨_,(zac (zar (i := 2) sc_fitting_call.nd rfl (by first | exact .inl rfl | exact .inr rfl) (zas (zg9 rfl) rfl B.min_ PyProof.Rows.boot_min (zaa (ze9 (zcd (sc := zag zaQ) (N0 := zbW) (ns := []) (idx := []) (by decide +kernel)) rfl (zaK K (pv 0)) (fun _ _ _ _ => zcZ) (fun _ _ _ _ => (zak (zai K) (pv 0) zae (fun _ _ => rfl)))) zad)))
    (zac (zb7 (i := 3) (zcd (sc := zag zaQ) (N0 := zbW) (ns := ["first_end","value"]) (idx := [2,1]) (by decide +kernel)) rfl sc_fitting_call.nd rfl (by first | exact .inl rfl | exact .inr rfl) (zaK K (pv 0)) (fun _ _ _ _ => (zcq (PW.pt (zeI (zan znR (zak (zai K) (pv 0) zae (fun _ _ => rfl)) (pv 1) (zat _)) (zfr (zan zaV (zak (zai K) (pv 0) zae (fun _ _ => rfl)) (pv 2) (zat _))))))) (fun _ _ _ _ => (pv 0)) rfl)
    (zaf (zao (zk9 (ziE (N := ["call"]) (a := "call") (params := zqp) (body := zqL) (scope := zpu) (q := zcg) zpC hr rfl (fun _ _ _ _ => rfl) (fun _ _ _ _ _ _ _ => (zaJ (zaa (zbg zaV (zak (zai K) (zak (zai K) (pv 0) zae (fun _ _ => rfl)) zae (fun _ _ => rfl)) zaA (zat _)) (zaa (zak (zai K) (pv 0) zae (fun _ _ => rfl)) zad))))) rfl B.min_ PyProof.Rows.boot_min (zaa (pv 3) zad) (zkc (zo6 hB rfl hC) (zkc zbI zoq))))))),?_⟩
    refine ⟨_,rfl,l,rfl,⟨_,hS⟩,zcM (zs := zs) (fun _ => true) (fun z => .int z.2.e) hS (by omega) ?_ ?_ ?_⟩
    . intro z hz D ys R hD hR; exact hR
    . intro z hz _ D ys R hD hR; obtain ⟨t,q,e,ht,hq⟩ := (hZ z hz).1; exact ⟨_,rfl,t,_,1,_,e,rfl,Same.tup (Same.upd hD) ht,at1,hR⟩
    intro D hD
    have e1 : ((zs.filter fun _ => true).map fun z => V.int z.2.e) = (zs.map fun z => z.2.e).map V.int := by
      rw [List.filter_eq_self.mpr fun _ _ => rfl,List.map_map]
      rfl
    rw [e1]; refine ⟨D,zs.map fun z => z.2.e,rfl,SqL.of zab,fun z => hne (List.map_eq_nil_iff.mp z),fun M hM1 hM2 => ?_⟩; have s1 : Same H (upd H D (.lst ((zs.map fun z => z.2.e).map V.int))) := Same.upd hD; generalize upd H D (.lst ((zs.map fun z => z.2.e).map V.int)) = H1 at s1 ⊢
    have hM : ∀ c : Cl,((zs.map (·.2)).all fun x => decide (c.b <= x.e)) = decide (c.b <= M) := by
      intro c; rw [Bool.eq_iff_iff,List.all_eq_true,decide_eq_true_eq]; constructor
      . intro h; obtain ⟨z,hz,e⟩ := List.mem_map.mp hM1; rw [<- e]; exact of_decide_eq_true (h z.2 (List.mem_map.mpr ⟨z,hz,rfl⟩))
      . intro h x hx; obtain ⟨z,hz,rfl⟩ := List.mem_map.mp hx; exact decide_eq_true (Int.le_trans h (hM2 _ (List.mem_map.mpr ⟨z,hz,rfl⟩)))
    refine ⟨_,rfl,l,rfl,⟨_,s1.seq hS⟩,zcM (zs := zs) (fun z => zig (zs.map (·.2)) v z.2) (·.1) (s1.seq hS) (by omega) ?_ ?_ ?_⟩
    . intro z hz D2 ys R hD2 hR; obtain ⟨t,q,e,ht,hq⟩ := (hZ z hz).1; have ht2 := Same.tup (s1.trans (Same.upd (o := .lst ys) hD2)) ht; unfold zig at hR; rw [hM z.2] at hR; refine ⟨_,rfl,t,_,0,_,e,rfl,ht2,at0,_,rfl,_,_,rfl,rfl,_,rfl,?_⟩
      by_cases hb : z.2.b <= M
      . rw [decide_eq_true hb,Bool.true_and] at hR; refine zcI (decide_eq_true hb) ⟨_,rfl,t,_,3,_,e,rfl,ht2,at3,_,rfl,?_,_,rfl,?_⟩
        . cases z.2.a <;> rfl
        . have e3 : decide (aV z.2.a = V.int v) = decide (z.2.a = some v) := by
            rw [decide_eq_decide]
            cases z.2.a with
            | none => exact ⟨fun h => (by cases h),fun h => (by cases h)⟩
            | some a => exact ⟨fun h => (by cases h; rfl),fun h => (by cases h; rfl)⟩
          rw [e3]; exact hR
      . rw [decide_eq_false hb,Bool.false_and] at hR; exact zda (by rw [decide_eq_false hb]; decide) hR
    . intro z hz _ D2 ys R hD2 hR; exact ⟨_,rfl,hR⟩
    intro D2 hD2; have s2 := s1.trans (Same.upd (o := .lst ((zs.filter fun z => zig (zs.map (·.2)) v z.2).map (·.1))) hD2); have q2 := zab (H := H1) (a := D2) (o := .lst ((zs.filter fun z => zig (zs.map (·.2)) v z.2).map (·.1))); generalize upd H1 D2 (.lst ((zs.filter fun z => zig (zs.map (·.2)) v z.2).map (·.1))) = H2 at s2 q2 ⊢; generalize hF : (zs.filter fun z => zig (zs.map (·.2)) v z.2) = fs at q2 ⊢
    have fin : ∀ z,z ∈ fs ↔ z ∈ zs /\ zgD (zs.map (·.2)) v z.2 := fun z => by
      rw [<- hF,List.mem_filter]; constructor
      . rintro ⟨h1,h2⟩; exact ⟨h1,(zkb (List.mem_map.mpr ⟨z,h1,rfl⟩)).mp h2⟩
      . rintro ⟨h1,h2⟩; exact ⟨h1,(zkb (List.mem_map.mpr ⟨z,h1,rfl⟩)).mpr h2⟩
    refine ⟨_,rfl,LamTab.keep s2 hT,fun lf lc H3 hlf sp hT3 hl1 hl2 => ?_⟩; have m3 : Mv H H3 := s2.mv.trans (SameP.mv (LamTab.keep s2 hT) sp); have q3 : H3 D2 = some (.lst (fs.map (·.1))) := (SameP.mv (LamTab.keep s2 hT) sp).lst q2; refine ⟨D2,fs.map (·.1),lf,lc,zf9 fs,rfl,rfl,SqL.of q3,hl1,hl2,fun i u Hj hi sj => ?_,fun he => ?_,fun i u H4 hi hmin s4 => ?_⟩
    . rw [List.getElem?_map] at hi; obtain ⟨z,hz,rfl⟩ := Option.map_eq_some_iff.mp hi; have hzm := ((fin z).mp (List.mem_of_getElem? hz)).1; obtain ⟨t,q,e,ht,hq⟩ := (hZ z hzm).1.mv (m3.trans sj.mv); have ek : zf9 fs i = (zbT z.2,z.2.e) := by unfold zf9; rw [hz]
      rw [ek]; exact ⟨_,rfl,t,_,2,_,e,rfl,ht,at2,q,_,0,_,rfl,rfl,hq,at0,rfl,_,rfl,t,_,1,_,e,rfl,ht,at1,nlb rfl,fun p hp => ⟨p,rfl,by rw [zab,zfu]; rfl,Same.upd hp⟩⟩
    . refine k0 _ m3 hT3 fun c hc => ?_; obtain ⟨z,hz,e⟩ := List.mem_map.mp hc.1; have : z ∈ fs := (fin z).mpr ⟨hz,by rw [e]; exact hc⟩
      rw [List.map_eq_nil_iff.mp he] at this; cases this
    . rw [List.getElem?_map] at hi; obtain ⟨z,hz,rfl⟩ := Option.map_eq_some_iff.mp hi; have hzm := (fin z).mp (List.mem_of_getElem? hz); have ek : zf9 fs i = (zbT z.2,z.2.e) := by unfold zf9; rw [hz]
      refine k1 _ z (m3.trans s4.mv) (LamTab.keep s4 hT3) hzm.1 hzm.2 fun htk x hx => ?_; obtain ⟨y,hy,e⟩ := List.mem_map.mp hx.1; have hyf : y ∈ fs := (fin y).mpr ⟨hy,by rw [e]; exact hx⟩
      obtain ⟨j,hj,ej⟩ := List.getElem_of_mem hyf; have hm := hmin j (by rw [List.length_map]; exact hj)
      have ek2 : zf9 fs j = (zbT y.2,y.2.e) := by unfold zf9; rw [List.getElem?_eq_getElem hj,ej]
      rw [ek,ek2] at hm; rw [<- e]; exact znB hm htk
def zfa (xs : List V) (cs : List Cl) (gs : List Int) : List (V × Cl) := (zal cs.length gs).map fun i => ((atI xs i).getD .non,zah cs i)
inductive zjC (K : Fg) (Pt : Addr) (vs : List V) (H : Hp) (Q : VK) (E_ : XK) : Prop
  | mk (x l g : Addr) (xs : List V) (cs : List Cl) (gs ts : List Int) : (vs = [.ref x,.ref l,.ref g]) -> (SqT K H x (ts.map V.int)) -> (ts.length <= 1000) -> (SqL K H l xs) -> (Calls K H "row" xs cs) -> (xs.length <= 60) -> (SqL K H g (gs.map V.int)) -> (LamTab Pt zco zcg H) -> (∀ (b : Bool) H',Mv H H' -> LamTab Pt zco zcg H' -> (b = false -> ¬ zbe cs gs (.inl ts)) -> Q (.bl b) H') -> zjC K Pt vs H Q E_
theorem zcy {α : Type} : ∀ {l : List α} {j : Nat} {x : α},l[j]? = some x -> l.Perm (x :: l.eraseIdx j)
  | [],j,x,h => by simp at h
  | y :: l,0,x,h => by
    cases h; exact .refl _
  | y :: l,j + 1,x,h => by
    rw [List.getElem?_cons_succ] at h; rw [List.eraseIdx_cons_succ]; exact (List.Perm.cons y (zcy h)).trans (List.Perm.swap x y _)
theorem zfz {α : Type} (p : α -> Bool) : ∀ {l : List α},(∃ x ∈ l,p x = true) -> ∃ (j : Nat) (x : α),l[j]? = some x /\ p x = true /\ ∀ i : Nat,i < j -> ∀ y,l[i]? = some y -> p y = false
  | [],h => by obtain ⟨_,h,_⟩ := h; cases h
  | a :: l,h => by
    cases e : p a with
    | true => exact ⟨0,a,rfl,e,fun i hi => absurd hi (Nat.not_lt_zero _)⟩
    | false =>
      have h' : ∃ x ∈ l,p x = true := by
        obtain ⟨x,hx,hp⟩ := h
        rcases List.mem_cons.mp hx with rfl | hx
        . rw [e] at hp; cases hp
        . exact ⟨x,hx,hp⟩
      obtain ⟨j,x,h1,h2,h3⟩ := zfz p h'; refine ⟨j + 1,x,h1,h2,fun i hi y hy => ?_⟩
      cases i with
      | zero => cases hy; exact e
      | succ i => exact h3 i (by omega) y hy
theorem zmT (a b : zce) : PySem.Spec.same (dD a) (dD b) = true -> a = b := by
  obtain ⟨a1,a2⟩ := a; obtain ⟨b1,b2⟩ := b; unfold dD
  cases a2 <;> cases b2 <;> simp [PySem.Spec.same,PySem.Spec.sameAll]
theorem zk8 {a b : Cl} (h : PySem.Spec.same (zbh a) (zbh b) = true) : a = b := by
  obtain ⟨b1,e1,d1,a1⟩ := a; obtain ⟨b2,e2,d2,a2⟩ := b; unfold zbh at h; simp only [PySem.Spec.same,PySem.Spec.sameAll,Bool.and_eq_true,Bool.and_true,beq_iff_eq] at h; obtain ⟨h1,h2,h3,h4⟩ := h; rw [znq,decide_eq_true_eq] at h4; have h3' := zmT _ _ h3; subst h1 h2 h3' h4
  rfl
theorem zkS {K : Fg} {H : Hp} {k : Str} {v : V} {c : Cl} (h : CallT K H v c) (ho : Ok k c) : Cmp (zbh c) := by
  have hw := zeX [c] fun x hx => by rw [List.mem_singleton.mp hx]; exact zg2 ho.2.1
  have hd := zds [c]; have hb := zdr [c]; simp only [List.map_cons,List.map_nil,PyData.canLayAll0,Bool.and_true] at hw; simp only [List.map_cons,List.map_nil,PyData.depthAll] at hd; simp only [List.map_cons,List.map_nil,zbt,Bool.and_true] at hb; refine ⟨?_,hb⟩; unfold SeqAt.shaped; rw [Bool.and_eq_true]; exact ⟨hw,decide_eq_true (by omega)⟩
theorem zg4 {α β : Type} (f : α -> β) : ∀ (l : List α) (j : Nat),(l.map f).eraseIdx j = (l.eraseIdx j).map f
  | [],j => by simp
  | a :: l,0 => by simp
  | a :: l,j + 1 => by
    rw [List.map_cons,List.eraseIdx_cons_succ,List.eraseIdx_cons_succ,List.map_cons,zg4 f l j]
theorem Mv.updN {H H2 : Hp} {D : Addr} {o : HO} (m : Mv H H2) (h : H D = none) : Mv H (upd H2 D o) := fun b ob e n => by
  rw [zaj (zam e h)]; exact m b ob e n
theorem Cz.updL {K : Fg} {H : Hp} {g : Addr} {us : List V} {o : HO} {k : Str} {zs : List (V × Cl)} (hg : H g = some (.lst us)) (h : Cz K H k zs) : Cz K (upd H g o) k zs := fun z hz => ⟨(h z hz).1.updL hg,(h z hz).2⟩
abbrev zV (zs : List (V × Cl)) : List V := zs.map (·.1)
abbrev zC (zs : List (V × Cl)) : List Cl := zs.map (·.2)
theorem zn7 (a : Option Int) (v : Int) : decide (aV a = V.int v) = decide (a = some v) := by
  rw [decide_eq_decide]
  cases a with
  | none => exact ⟨fun h => (by cases h),fun h => (by cases h)⟩
  | some a => exact ⟨fun h => (by cases h; rfl),fun h => (by cases h; rfl)⟩
def zer (x) (l) (g) (D) (D2) (D3) (H) (Pt) (cs : List Cl) (gs : List Int) (K) (ts : List Int) (i : Nat) (σ : St) (H4 : Hp) := ∃ (v5 v7 v8 : Option V) (zs : List (V × Cl)),σ = [some (.ref x),some (.ref l),some (.ref g),some (.ref D),some (.ref D2),v5,some (.ref D3),v7,v8] /\ Mv H H4 /\ LamTab Pt zco zcg H4 ∧
      H4 D2 = some (.lst (zV zs)) /\ H4 D3 = some (.lst ((za5 cs gs).map V.int)) /\ Cz K H4 "row" zs /\ zs.length <= 60 /\ (zbe cs gs (.inl ts) -> Sched (· ∈ za5 cs gs) (ts.drop i) (zC zs))
def zea (x) (l) (g) (D) (D2) (D3) (i : Nat) (v) (H) (Pt) (cs : List Cl) (gs : List Int) (K) (ts : List Int) (σ' : St) (H6 : Hp) := ∃ (v5 : Option V) (zs : List (V × Cl)),σ' = [some (.ref x),some (.ref l),some (.ref g),some (.ref D),some (.ref D2),v5,some (.ref D3),some (.int i),some (.int v)] /\ Mv H H6 /\ LamTab Pt zco zcg H6 ∧
        H6 D2 = some (.lst (zV zs)) /\ H6 D3 = some (.lst ((za5 cs gs).map V.int)) /\ Cz K H6 "row" zs /\ zs.length <= 60 /\ (zbe cs gs (.inl ts) -> Sched (· ∈ za5 cs gs) (ts.drop (i + 1)) (zC zs))
def zed (x) (l) (g) (D) (D2) (D3) (i : Nat) (v) (H) (Pt) (cs : List Cl) (gs : List Int) (K) (ts : List Int) (m : Nat) (σ' : St) (H6 : Hp) := ∃ (v5 : Option V) (zs : List (V × Cl)),m = zs.length /\ σ' = [some (.ref x),some (.ref l),some (.ref g),some (.ref D),some (.ref D2),v5,some (.ref D3),some (.int i),some (.int v)] /\ Mv H H6 /\ LamTab Pt zco zcg H6 ∧
          H6 D2 = some (.lst (zV zs)) /\ H6 D3 = some (.lst ((za5 cs gs).map V.int)) /\ Cz K H6 "row" zs /\ zs.length <= 60 /\ (zbe cs gs (.inl ts) -> Sched (· ∈ za5 cs gs) (v :: ts.drop (i + 1)) (zC zs))
def zec (zs : List (V × Cl)) (x) (l) (g) (D) (D2) (D3) (i : Nat) (v) (H) (Pt) (cs : List Cl) (gs : List Int) (K) (ts : List Int) (σ' : St) (H7 : Hp) := ∃ (v5 : Option V) (zs' : List (V × Cl)),zs'.length < zs.length /\ σ' = [some (.ref x),some (.ref l),some (.ref g),some (.ref D),some (.ref D2),v5,some (.ref D3),some (.int i),some (.int v)] /\ Mv H H7 /\ LamTab Pt zco zcg H7 ∧
            H7 D2 = some (.lst (zV zs')) /\ H7 D3 = some (.lst ((za5 cs gs).map V.int)) /\ Cz K H7 "row" zs' /\ zs'.length <= 60 /\ (zbe cs gs (.inl ts) -> Sched (· ∈ za5 cs gs) (v :: ts.drop (i + 1)) (zC zs'))
theorem zfl {Pt : Addr} (F : Fun K "can_come_out" "can_come_out" zaX f fd) (B : Bl mg) (g_fitting_call : FnX P w K mg base "fitting_call" 3 (zme K Pt)) : FnOk P w K mg base CX0 4 f fd ["row","calls","order"] (zjC K Pt) := by
  refine F.ok sc_can_come_out (fun vs H Q E h => ?_) (fun cdv A outer s H vs Q E hr h => ?_)
  . obtain ⟨x,l,g,xs,cs,gs,ts,rfl,_⟩ := h; rfl
  . obtain ⟨x,l,g,xs,cs,gs,ts,rfl,hX,hts,hS,hC,hlen,hG,hT,k⟩ := h; have hsz : sizeLine = 16777216 := sizeLine_eq; have hu := zfS hr
    refine ⟨_,(zac (zb7 (i := 3) (zcd (sc := zag zaX) (N0 := zba) (ns := ["calls","order"]) (idx := [1,2]) (by decide +kernel)) rfl sc_can_come_out.nd rfl (by first | exact .inl rfl | exact .inr rfl) (zbl rfl B.range_ (zaa (zas (zau K) rfl B.len_ PySem.boot_len (zaa (pv 1) zad)) zad)) (fun _ _ _ _ => (zcq (zan (zbu K) (pv 0) (pv 2) rfl))) (fun _ _ _ _ => (zak (zap K) (pv 1) (pv 0) (fun _ _ => rfl))) rfl)
    (zac (zb7 (i := 4) (zcd (sc := zag zaX) (N0 := zba) (ns := []) (idx := []) (by decide +kernel)) rfl sc_can_come_out.nd rfl (by first | exact .inl rfl | exact .inr rfl) (zaK K (pv 3)) (fun _ _ _ _ => (zcq (zan zdx (zak (zai K) (zak (zai K) (pv 0) zae (fun _ _ => rfl)) zae (fun _ _ => rfl)) zaA (zat _)))) (fun _ _ _ _ => (pv 0)) rfl)
    (zac (zb7 (i := 6) (zcd (sc := zag zaX) (N0 := zba) (ns := []) (idx := []) (by decide +kernel)) rfl sc_can_come_out.nd rfl (by first | exact .inl rfl | exact .inr rfl) (zaK K (pv 3)) (fun _ _ _ _ => (zcq (zan zaV (zak (zai K) (zak (zai K) (pv 0) zae (fun _ _ => rfl)) zae (fun _ _ => rfl)) zaA (zat _)))) (fun _ _ _ _ => (zak (zai K) (zak (zai K) (pv 0) zae (fun _ _ => rfl)) zae (fun _ _ => rfl))) rfl)
    (zac (zaZ PassesOwn.never rfl (zl9 rfl B.enumerate_ (zaa (pv 0) zad)) (zeG rfl (zaU (zaC (i := 7) sc_can_come_out.nd rfl (by first | exact .inl rfl | exact .inr rfl)) (zaU (zaC (i := 8) sc_can_come_out.nd rfl (by first | exact .inl rfl | exact .inr rfl)) zdF)))
    (zac (zdE (zfZ PassesOwn.never (zdG K (pv 4) (fun _ => rfl))
    (zac (zar (i := 5) sc_can_come_out.nd rfl (by first | exact .inl rfl | exact .inr rfl) (zay g_fitting_call zaF hr rfl (zaa (pv 4) (zaa (pv 8) zad))))
    (zac (zaD (zan zhP (pv 5) zbI (zat _))
    (zaf (zao zaY)) zaq)
    (zac (zaS (zck K PySem.F.plainAttrs_list PySem.F.slot_list_remove PySem.F.type_list_remove (zk3 hu) (pv 4) (zaa (pv 5) zad)))
    (zaf (zaD (zan zaV (zak (zai K) (zak (zai K) (pv 5) zae (fun _ _ => rfl)) zae (fun _ _ => rfl)) zaA (zat _))
    (zaf zmz) zaq)))))))
    (zaf (zaD (PW.pt (zeI (zan (zbu K) (pv 8) (zex zj6 (pv 0) (zen (zav zbD (pv 7) zae)) zhW) rfl) (zeI (zan (zbu K) (pv 8) (pv 6) rfl) (zfr (za6 (zas (zkx rfl) rfl B.any_ PyProof.Rows.boot_any (zaa (ze9 (zcd (sc := zag zaX) (N0 := zba) (ns := ["value"]) (idx := [8]) (by decide +kernel)) rfl (zaK K (pv 4)) (fun _ _ _ _ => zcZ) (fun _ _ _ _ => (zbg zaV (zak (zai K) (pv 0) zae (fun _ _ => rfl)) (pv 1) (zat _)))) zad)))))))
    (zaf (zao zaY)) zaq))))
    (zaf (zao zaY)))))),?_⟩
    have nt : ((xs.length : Int)).toNat = xs.length := by omega
    have hn : xs.length = cs.length := hC.len; refine ⟨_,rfl,l,xs,rfl,.inl hS,(xs.length : Int),rfl,by omega,by omega,zf6 (lo := 0) (n := ((xs.length : Int)).toNat) (fun x => !inV (V.int x) (gs.map V.int)) (fun i => (atI xs i).getD .non) (by omega) ?_ ?_ ?_⟩
    . intro x _ _ D ys R hD hR; exact ⟨_,rfl,_,rfl,g,gs.map V.int,rfl,.inl ((Same.upd hD).seq hG),rfl,zb2 gs,_,rfl,hR⟩
    . intro x h0 h1 _ D ys R hD hR; obtain ⟨v',hv,_⟩ := hC.num (i := x) h0 (by rw [<- hn]; omega)
      rw [hv] at hR; exact ⟨_,rfl,_,rfl,l,xs,x,_,rfl,rfl,(Same.upd hD).seq hS,hv,hR⟩
    intro D hD; rw [nt,hn]
    have eL : ((zaz 0 cs.length).filter (fun x => !inV (V.int x) (gs.map V.int))).map (fun i => (atI xs i).getD .non) = (zfa xs cs gs).map (·.1) := by
      unfold zfa; rw [List.map_map]
      rfl
    rw [eL]
    have hZ0 : Cz K H "row" (zfa xs cs gs) := fun z hz => by
      obtain ⟨i,hi,rfl⟩ := List.mem_map.mp hz; have hii := zcE hi; obtain ⟨v',hv,hc,ho⟩ := hC.num hii.1 hii.2; show CallT K H ((atI xs i).getD .non) (zah cs i) /\ Ok "row" (zah cs i); rw [hv]; exact ⟨hc,ho⟩
    have hlz : (zfa xs cs gs).length <= 60 := by
      unfold zfa; rw [List.length_map]; have h1 : (zal cs.length gs).length <= (zaz 0 cs.length).length := List.length_filter_le _ _; have h2 : (zaz 0 cs.length).length = cs.length := by simp [zaz]
      omega
    have eSnd : (zfa xs cs gs).map (·.2) = (zal cs.length gs).map (zah cs) := by
      unfold zfa; rw [List.map_map]
      rfl
    generalize zfa xs cs gs = zl at hZ0 hlz eSnd ⊢; have s1 : Same H (upd H D (.lst (zl.map (·.1)))) := Same.upd hD; have q1 : (upd H D (.lst (zl.map (·.1)))) D = some (.lst (zl.map (·.1))) := zab; generalize upd H D (.lst (zl.map (·.1))) = H1 at s1 q1 ⊢; have hZ1 := hZ0.mv s1.mv; refine ⟨_,rfl,D,rfl,⟨_,SqL.of q1⟩,zcM (zs := zl) (fun z => !zbs z.2) (·.1) (SqL.of q1) (by omega) ?_ ?_ ?_⟩
    . intro z hz D2 ys R hD2 hR; obtain ⟨t,q,e,ht,hq⟩ := (hZ1 z hz).1.mv (Same.mv (Same.upd (o := .lst ys) hD2)); refine ⟨_,rfl,t,_,2,_,e,rfl,ht,at2,q,_,0,_,rfl,rfl,hq,at0,rfl,_,rfl,?_⟩; rw [zfu]; exact hR
    . intro z hz _ D2 ys R hD2 hR; exact ⟨_,rfl,hR⟩
    intro D2 hD2; have s2 : Same H1 (upd H1 D2 (.lst ((zl.filter fun z => !zbs z.2).map (·.1)))) := Same.upd hD2; have q2 : (upd H1 D2 (.lst ((zl.filter fun z => !zbs z.2).map (·.1)))) D2 = some (.lst ((zl.filter fun z => !zbs z.2).map (·.1))) := zab; generalize upd H1 D2 (.lst ((zl.filter fun z => !zbs z.2).map (·.1))) = H2 at s2 q2 ⊢; have hZ2 := hZ1.mv s2.mv; have nD2 : H D2 = none := za8 s1 hD2; refine ⟨_,rfl,D,rfl,⟨_,SqL.of (s2 _ _ q1)⟩,zcM (zs := zl) (fun z => zbs z.2) (fun z => .int (z.2.d.2.getD 0)) (SqL.of (s2 _ _ q1)) (by omega) ?_ ?_ ?_⟩
    . intro z hz D3 ys R hD3 hR; obtain ⟨t,q,e,ht,hq⟩ := (hZ2 z hz).1.mv (Same.mv (Same.upd (o := .lst ys) hD3)); refine ⟨_,rfl,t,_,2,_,e,rfl,ht,at2,q,_,0,_,rfl,rfl,hq,at0,rfl,_,rfl,?_⟩; rw [zfu]; exact hR
    . intro z hz hp D3 ys R hD3 hR; obtain ⟨t,q,e,ht,hq⟩ := (hZ2 z hz).1.mv (Same.mv (Same.upd (o := .lst ys) hD3)); have hh := zb5 (.inl rfl) (hZ2 z hz).2.2.1 (.inl (of_decide_eq_true hp)); obtain ⟨y,hy⟩ := Option.isSome_iff_exists.mp hh; rw [hy] at hq hR; exact ⟨_,rfl,t,_,2,_,e,rfl,ht,at2,q,_,2,_,rfl,rfl,hq,at2,hR⟩
    intro D3 hD3
    have eW : (zl.filter fun z => zbs z.2).map (fun z => V.int (z.2.d.2.getD 0)) = (za5 cs gs).map V.int := by
      unfold za5; rw [<- eSnd,List.filter_map,List.map_map,List.map_map]
      rfl
    rw [eW]; have s3 : Same H2 (upd H2 D3 (.lst ((za5 cs gs).map V.int))) := Same.upd hD3; have q3 : (upd H2 D3 (.lst ((za5 cs gs).map V.int))) D3 = some (.lst ((za5 cs gs).map V.int)) := zab; generalize upd H2 D3 (.lst ((za5 cs gs).map V.int)) = H3 at s3 q3 ⊢; have q23 := s3 _ _ q2; have n32 : D3 ≠ D2 := fun z => by rw [z,q2] at hD3; cases hD3
    have s03 := (s1.trans s2).trans s3
    have eSee : (zl.filter fun z => !zbs z.2).map (·.2) = zmr cs gs := by
      unfold zmr; rw [<- eSnd,List.filter_map]
      rfl
    have hSch : zbe cs gs (.inl ts) -> Sched (· ∈ za5 cs gs) ts ((zl.filter fun z => !zbs z.2).map (·.2)) := fun h => by rw [eSee]; exact zlq h
    have hZs : Cz K H3 "row" (zl.filter fun z => !zbs z.2) := (hZ2.mv s3.mv).filter _; have hls : (zl.filter fun z => !zbs z.2).length <= 60 := Nat.le_trans (List.length_filter_le _ _) hlz; generalize (zl.filter fun z => !zbs z.2) = z0 at q23 hSch hZs hls
    refine ⟨_,rfl,x,rfl,⟨_,s03.mv.tup hX⟩,zkK (K := K) (a := x) (xs := ts.map V.int) (zer x l g D D2 D3 H Pt cs gs K ts)
      ⟨none,none,none,z0,rfl,s03.mv,LamTab.keep s03 hT,q23,q3,hZs,hls,hSch⟩ (fun i σ H4 _ ⟨_,_,_,_,_,m4,_⟩ => m4.tup hX) ?_ ?_⟩
    . rintro i y t σ H4 hi ⟨v5,v7,v8,zs,rfl,m4,hT4,d4,e4,z4,l4,sch⟩ ht; rw [List.getElem?_map] at hi; obtain ⟨v,hv,rfl⟩ := Option.map_eq_some_iff.mp hi; have hil : i < ts.length := (List.getElem?_eq_some_iff.mp hv).1
      have edrop : ts.drop i = v :: ts.drop (i + 1) := by
        rw [List.drop_eq_getElem_cons hil]; congr 1; exact Option.some.inj ((List.getElem?_eq_getElem hil).symm.trans hv)
      rw [edrop] at sch; have s5 : Same H4 (upd H4 t (.tup [.int i,.int v])) := Same.upd ht; refine ⟨t,_,rfl,SqT.of zab,rfl,_,_,rfl,_,_,rfl,rfl,?_⟩; generalize upd H4 t (.tup [.int i,.int v]) = H5 at s5 ⊢; refine ⟨zea x l g D D2 D3 i v H Pt cs gs K ts,?_,?_⟩
      . refine ⟨zed x l g D D2 D3 i v H Pt cs gs K ts,
          ⟨_,v5,zs,rfl,rfl,m4.trans s5.mv,LamTab.keep s5 hT4,s5 _ _ d4,s5 _ _ e4,z4.mv s5.mv,l4,sch⟩,?_⟩
        rintro m σ' H6 ⟨v5,zs,rfl,rfl,m6,hT6,d6,e6,z6,l6,sch6⟩; refine ⟨_,rfl,_,.inl ⟨_,SqL.of d6,rfl⟩,?_⟩
        cases hz0 : zs with
        | nil =>
          subst hz0; exact zaE ⟨v5,[],rfl,m6,hT6,d6,e6,z6,l6,fun _ => Sched.nil⟩
        | cons z1 zr =>
          rw [<- hz0]; have hne : zs ≠ [] := by rw [hz0]; simp
          refine zcI (by rw [hz0]; rfl) ⟨zec zs x l g D D2 D3 i v H Pt cs gs K ts,
            fun σ' H7 ⟨v5,zs',hlt,h⟩ => ⟨_,hlt,v5,zs',rfl,h⟩,?_⟩
          have hbe : ∀ c ∈ zC zs,c.b < c.e := fun c hc => by
            obtain ⟨z,hz,rfl⟩ := List.mem_map.mp hc; exact (z6 z hz).2.1
          refine ⟨_,rfl,_,rfl,D2,v,"row",zs,rfl,SqL.of d6,z6,hne,l6,hT6,fun H7 m7 hT7 hno => ?_,fun H7 z m7 hT7 hz hf hmin => ?_⟩
          . refine ⟨_,rfl,rfl,_,rfl,zcI (decide_eq_true rfl) ?_⟩; refine k false _ (m6.trans m7) hT7 fun _ hc => ?_; obtain ⟨c,hc⟩ := (sch6 hc).some hbe (fun z => hne (List.map_eq_nil_iff.mp z)); exact hno c hc
          . have z7 := z6.mv m7; have d7 := m7.lst d6; have e7 := m7.lst e6; obtain ⟨tt,qd,ez,htt,hqd⟩ := (z7 z hz).1; refine ⟨_,rfl,rfl,_,rfl,zda (by rw [ez]; exact fun z => (by cases of_decide_eq_true z)) ?_⟩
            obtain ⟨j,e,hj,hje,hjf⟩ := zfz (fun e : Cl => PySem.Spec.same (zbh e) (zbh z.2)) (l := zC zs) ⟨z.2,List.mem_map.mpr ⟨z,hz,rfl⟩,same_self _⟩; have hez := zk8 hje; subst hez; rw [List.getElem?_map] at hj; obtain ⟨zj,hzj,ezj⟩ := Option.map_eq_some_iff.mp hj
            have hperm : (zC zs).Perm (z.2 :: zC (zs.eraseIdx j)) := by
              rw [<- ezj]; exact (zcy hzj).map (·.2)
            have hlt : (zs.eraseIdx j).length < zs.length := by
              have := (zcy hzj).length_eq; rw [List.length_cons] at this; omega
            refine ⟨_,rfl,.inl ⟨rfl,_,SqL.of d7⟩,_,rfl,D2,zV zs,z.1,(zC zs).map zbh,zbh z.2,j,zbh z.2,rfl,rfl,d7,zdk z7.calls,zj5 (z7 z hz).1,zgT z7.calls,zkS (z7 z hz).1 (z7 z hz).2,?_,same_self _,fun q hq e' he' => ?_,?_⟩
            . rw [List.getElem?_map,List.getElem?_map,hzj]; show some (zbh zj.2) = _; rw [ezj]
            . rw [List.getElem?_map] at he'; obtain ⟨c',hc',rfl⟩ := Option.map_eq_some_iff.mp he'; exact hjf q hq c' hc'
            rw [zg4]; have m8 : Mv H (upd H7 D2 (.lst (zV (zs.eraseIdx j)))) := Mv.updN (m6.trans m7) nD2; have hT8 : LamTab Pt zco zcg (upd H7 D2 (.lst (zV (zs.eraseIdx j)))) := hT7.upd d7 (fun _ z => by cases z) (fun _ z => by cases z)
            have d8 : (upd H7 D2 (.lst (zV (zs.eraseIdx j)))) D2 = some (.lst (zV (zs.eraseIdx j))) := zab; have e8 : (upd H7 D2 (.lst (zV (zs.eraseIdx j)))) D3 = some (.lst ((za5 cs gs).map V.int)) := by rw [zaj n32]; exact e7
            have z8 : Cz K (upd H7 D2 (.lst (zV (zs.eraseIdx j)))) "row" (zs.eraseIdx j) := fun y hy => (z7.updL d7) y (List.mem_of_mem_eraseIdx hy); have htt8 : SqT K (upd H7 D2 (.lst (zV (zs.eraseIdx j)))) tt _ := SqT.updL d7 htt; have hqd8 : SqT K (upd H7 D2 (.lst (zV (zs.eraseIdx j)))) qd _ := SqT.updL d7 hqd; generalize upd H7 D2 (.lst (zV (zs.eraseIdx j))) = H8 at m8 hT8 d8 e8 z8 htt8 hqd8 ⊢; refine ⟨_,rfl,tt,_,2,_,ez,rfl,htt8,at2,qd,_,0,_,rfl,rfl,hqd8,at0,rfl,_,rfl,?_⟩; rw [zfu]; have hl8 : (zs.eraseIdx j).length <= 60 := by omega
            cases htk : zbT z.2 with
            | true =>
              refine zcI htk ⟨_,zs.eraseIdx j,rfl,m8,hT8,d8,e8,z8,hl8,fun hc => ?_⟩; exact (sch6 hc).take hbe hperm htk hf (hmin htk)
            | false =>
              refine zda (by rw [show decide (z.2.d.1 = "take") = zbT z.2 from rfl,htk]; decide) ⟨_,zs.eraseIdx j,hlt,rfl,m8,hT8,d8,e8,z8,hl8,fun hc => ?_⟩
              exact (sch6 hc).look hperm htk
      . rintro σ' H6 ⟨v5,zs,rfl,m6,hT6,d6,e6,z6,l6,sch6⟩
        have nxt : ∀ H7,Same H6 H7 -> Mv H H7 /\ LamTab Pt zco zcg H7 /\ H7 D2 = some (.lst (zV zs)) /\ H7 D3 = some (.lst ((za5 cs gs).map V.int)) /\ Cz K H7 "row" zs /\ zs.length <= 60 /\ (zbe cs gs (.inl ts) -> Sched (· ∈ za5 cs gs) (ts.drop (i + 1)) (zC zs)) := fun H7 s7 =>
          ⟨m6.trans s7.mv,LamTab.keep s7 hT6,s7 _ _ d6,s7 _ _ e6,z6.mv s7.mv,l6,sch6⟩
        have hx1 : HT.sIx (ts.map V.int).length 0 (some ((i : Int) + 1)) = i + 1 := by
          rw [show ((i : Int) + 1) = ((i + 1 : Nat) : Int) by push_cast; rfl,HT.sIx_nat,List.length_map]
          omega
        refine ⟨_,rfl,_,rfl,_,rfl,_,_,rfl,rfl,_,rfl,x,_,rfl,m6.tup hX,.inr ⟨fun z => ?_,fun p hp => ?_⟩⟩
        . rw [hx1] at z; exact absurd z.1 (by omega)
        have ecut : zc9 (ts.map V.int) (some ((i : Int) + 1)) none = (ts.drop (i + 1)).map V.int := by
          unfold zc9; rw [hx1,HT.sIx_none,List.map_drop]; exact List.take_of_length_le (by rw [List.length_drop]; omega)
        rw [ecut]; have s7 : Same H6 (upd H6 p (.tup ((ts.drop (i + 1)).map V.int))) := Same.upd hp; have q7 : (upd H6 p (.tup ((ts.drop (i + 1)).map V.int))) p = some (.tup ((ts.drop (i + 1)).map V.int)) := zab; generalize upd H6 p (.tup ((ts.drop (i + 1)).map V.int)) = H7 at s7 q7 ⊢; refine ⟨p,_,rfl,.inr (SqT.of q7),rfl,zb2 _,_,rfl,?_⟩
        cases e1 : inV (V.int v) ((ts.drop (i + 1)).map V.int) with
        | true => exact zaE (zaE ⟨v5,_,_,zs,rfl,nxt _ s7⟩)
        | false =>
          refine zaR ⟨_,rfl,_,rfl,D3,_,rfl,.inl (SqL.of (s7 _ _ e6)),rfl,zb2 _,_,rfl,?_⟩
          cases e2 : inV (V.int v) ((za5 cs gs).map V.int) with
          | true => exact zaE (zaE ⟨v5,_,_,zs,rfl,nxt _ s7⟩)
          | false =>
            refine zaR ⟨_,rfl,D2,rfl,⟨_,SqL.of (s7 _ _ d6)⟩,zcM (zs := zs) (fun _ => true) (fun z => .bl (decide (z.2.a = some v))) (SqL.of (s7 _ _ d6)) (by omega) ?_ ?_ ?_⟩
            . intro z hz D4 ys R hD4 hR; exact hR
            . intro z hz _ D4 ys R hD4 hR; obtain ⟨t4,q4,e4',ht4,hq4⟩ := (z6 z hz).1.mv (s7.trans (Same.upd (o := .lst ys) hD4)).mv; refine ⟨_,rfl,t4,_,3,_,e4',rfl,ht4,at3,_,rfl,?_,?_⟩
              . cases z.2.a <;> rfl
              . rw [zn7]; exact hR
            intro D4 hD4
            have emap : (zs.filter fun _ => true).map (fun z => V.bl (decide (z.2.a = some v))) = (zs.map fun z => decide (z.2.a = some v)).map V.bl := by
              rw [List.filter_eq_self.mpr fun _ _ => rfl,List.map_map]
              rfl
            rw [emap]; refine ⟨D4,_,rfl,SqL.of zab,_,rfl,?_⟩; have s8 := s7.trans (Same.upd (o := .lst ((zs.map fun z => decide (z.2.a = some v)).map V.bl)) hD4)
            cases e3 : (zs.map fun z => decide (z.2.a = some v)).any id with
            | false => exact zaE ⟨v5,_,_,zs,rfl,nxt _ s8⟩
            | true =>
              refine zaR (k false _ (m6.trans s8.mv) (LamTab.keep s8 hT6) fun _ hc => ?_); rw [List.any_map,List.any_eq_true] at e3; obtain ⟨z,hz,hz2⟩ := e3; have hza : z.2.a = some v := of_decide_eq_true hz2; obtain ⟨L,hL1,hL2,hL3⟩ := sch6 hc
              rcases Sees.mem hL3 z.2 (hL1.mem_iff.mpr (List.mem_map.mpr ⟨z,hz,rfl⟩)) v hza with h | h
              . rw [zbU,List.any_eq_false] at e1; exact e1 v h (by simp)
              . rw [zbU,List.any_eq_false] at e2; exact e2 v h (by simp)
    . rintro σ H4 ⟨v5,v7,v8,zs,rfl,m4,hT4,d4,e4,z4,l4,sch⟩; exact k true _ m4 hT4 fun z => by cases z
inductive zjp (K : Fg) (vs : List V) (H : Hp) (Q : VK) (E_ : XK) : Prop
  | mk (k : Str) (l g : Addr) (x : V) (xs : List V) (cs : List Cl) (gs : List Int) (t : Th) : (vs = [.str k,.ref l,.ref g,x]) -> ((k = "row" \/ k = "number")) -> (SqL K H l xs) -> (Calls K H k xs cs) -> (H g = some (.lst (gs.map V.int))) -> (gs.length <= 60) -> (xs.length <= 60) -> (Thing K H k x t) -> (zbo t <= 1000) -> (∀ (D : Addr) (ms : List V) (H' : Hp),Same H H' -> H' D = some (.lst ms) -> Rows K H' k ms (zaT cs gs t) -> Q (.ref D) H') -> zjp K vs H Q E_
def zgk (cs : List Cl) (gs : List Int) (t : Th) (fs : List Int) : List Row := (fs.filter fun i => decide ((stp cs t i).2 = (zah cs i).a)).map fun i => (gs ++ [i],(stp cs t i).1)
theorem zcO (cs : List Cl) (gs : List Int) (t : Th) (fs : List Int) (z : Int) : zgk cs gs t (fs ++ [z]) = if (stp cs t z).2 = (zah cs z).a then zgk cs gs t fs ++ [(gs ++ [z],(stp cs t z).1)] else zgk cs gs t fs := by
  unfold zgk; rw [List.filter_append,List.map_append]
  by_cases h : (stp cs t z).2 = (zah cs z).a
  . rw [if_pos h]; simp [h]
  . rw [if_neg h]; simp [h]
theorem zln (cs : List Cl) (gs : List Int) (t : Th) (fs : List Int) : (zgk cs gs t fs).length <= fs.length := by
  unfold zgk; rw [List.length_map]; exact List.length_filter_le _ _
inductive zet (kd : Str) (l g : Addr) (x : V) (D : Addr) (H : Hp) (Dg : Addr) (cs : List Cl) (gs : List Int) (K : W.Frag) (t : Th) (i : Nat) (σ : St) (H2 : Hp) : Prop
  | mk (v5 v6 : Option V) (ms : List V) : (σ = [some (.str kd),some (.ref l),some (.ref g),some x,some (.ref D),v5,v6]) -> (Same H H2) -> (H2 Dg = some (.lst ((zax cs gs).map V.int))) -> (H2 D = some (.lst ms)) -> (Rows K H2 kd ms (zgk cs gs t ((zax cs gs).take i))) -> zet kd l g x D H Dg cs gs K t i σ H2
theorem zjy (F : Fun K "ways_on" "ways_on" zeH f fd) (B : Bl mg) (g_do_deed : FnX P w K mg base "do_deed" 2 (zlF K)) (g_free_calls : FnX P w K mg base "free_calls" 2 (zhE K)) : FnOk P w K mg base CX0 3 f fd ["kind","calls","order","thing"] (zjp K) := by
  refine F.ok sc_ways_on (fun vs H Q E h => ?_) (fun cdv A outer s H vs Q E hr h => ?_)
  . obtain ⟨k,l,g,x,xs,cs,gs,t,rfl,_⟩ := h; rfl
  . obtain ⟨kd,l,g,x,xs,cs,gs,t,rfl,hk,hS,hC,hg,hgl,hlen,hTh,hsT,k⟩ := h; have hsz : sizeLine = 16777216 := sizeLine_eq
    refine ⟨_,(zac (zar (i := 4) sc_ways_on.nd rfl (by first | exact .inl rfl | exact .inr rfl) (zaM zad))
    (zac (zaZ PassesOwn.never rfl (zaK K (zay g_free_calls zaF hr rfl (zaa (pv 1) (zaa (pv 2) zad)))) (zaC (i := 5) sc_ways_on.nd rfl (by first | exact .inl rfl | exact .inr rfl))
    (zac (zar (i := 6) sc_ways_on.nd rfl (by first | exact .inl rfl | exact .inr rfl) (zay g_do_deed zaF hr rfl (zaa (pv 0) (zaa (pv 3) (zaa (zak (zai K) (zak (zap K) (pv 1) (pv 5) (fun _ _ => rfl)) zae (fun _ _ => rfl)) zad)))))
    (zaf (zaD (zan zaV (zak (zai K) (pv 6) zae (fun _ _ => rfl)) (zak (zai K) (zak (zap K) (pv 1) (pv 5) (fun _ _ => rfl)) zae (fun _ _ => rfl)) (zat _))
    (zaf (zaS (zck K PySem.F.plainAttrs_list PySem.F.slot_list_append PySem.F.type_list_append zb4 (pv 4) (zaa (zaJ (zaa (zav zjd (pv 2) (zaM (zaa (pv 5) zad))) (zaa (zak (zai K) (pv 6) zae (fun _ _ => rfl)) zad))) zad)))) zaq))))
    (zaf (zao (pv 4))))),?_⟩
    refine ⟨nlb rfl,fun D hD => ?_⟩; have s0 : Same H (upd H D (.lst [])) := Same.upd hD; have q0 : (upd H D (.lst [])) D = some (.lst []) := zab; generalize upd H D (.lst []) = H0 at s0 q0 ⊢; refine ⟨_,rfl,_,rfl,l,g,kd,xs,cs,gs,rfl,s0.seq hS,hC.keep s0,.inl (SqL.of (s0 _ _ hg)),by omega,fun Dg H1 s1 hDg => ?_⟩
    have q1 := s1 _ _ q0; have s01 := s0.trans s1
    have hDD : zax cs gs ≠ [] -> Dg ≠ D := fun hne z => by
      rw [z,q1] at hDg; have := HO.lst.inj (Option.some.inj hDg); exact hne (List.map_eq_nil_iff.mp this.symm)
    have hfl : (zax cs gs).length <= 60 := by
      have h1 : (zax cs gs).length <= (zal cs.length gs).length := List.length_filter_le _ _; have h2 : (zal cs.length gs).length <= (zaz 0 cs.length).length := List.length_filter_le _ _; have h3 : (zaz 0 cs.length).length = cs.length := by simp [zaz]
      have := hC.len; omega
    refine ⟨Dg,rfl,⟨_,SqL.of hDg⟩,za9 (K := K) (a := Dg) (xs := (zax cs gs).map V.int) (zet kd l g x D H Dg cs gs K t)
      ⟨none,none,[],rfl,s01,hDg,q1,⟨rfl,fun i v h => by simp at h⟩⟩ (fun i σ H2 _ ⟨_,_,_,_,_,h,_,_⟩ => SqL.of h) ?_ ?_⟩
    . rintro i y σ H2 hi ⟨v5,v6,ms,rfl,s2,f2,d2,r2⟩; rw [List.getElem?_map] at hi; obtain ⟨z,hz,rfl⟩ := Option.map_eq_some_iff.mp hi; have hzm := List.mem_of_getElem? hz; have hzz := zj9 hzm; have hil : i < (zax cs gs).length := (List.getElem?_eq_some_iff.mp hz).1; obtain ⟨u,hu',⟨tt,qd,rfl,ht,hqd⟩,hokc⟩ := (hC.keep s2).num hzz.1 hzz.2; refine ⟨_,rfl,_,rfl,_,rfl,_,rfl,l,_,_,_,rfl,rfl,s2.seq hS,hu',tt,_,2,_,rfl,rfl,ht,at2,kd,x,t,qd,(zah cs z).d.1,(zah cs z).d.2,rfl,hTh.keep s2,hsT,hqd,zb5 hk hokc.2.1,fun H3 p y s3 hp hy => ?_⟩; have s13 := s2.trans s3; have etk := zbn hz; refine ⟨_,rfl,p,_,1,_,rfl,rfl,SqT.of hp,at1,_,rfl,_,rfl,l,_,_,_,rfl,rfl,s13.seq hS,hu',tt,_,3,_,rfl,rfl,Same.tup s3 ht,at3,?_,_,rfl,?_⟩
      . cases (doT t (zah cs z).d.1 (zah cs z).d.2).2 <;> cases (zah cs z).a <;> rfl
      rw [zhR]
      by_cases e1 : (stp cs t z).2 = (zah cs z).a
      . refine zcI (decide_eq_true e1) ?_; refine ⟨_,rfl,.inl ⟨rfl,_,SqL.of (s3 _ _ d2)⟩,_,rfl,_,rfl,nlb rfl,fun p1 hp1 => ?_⟩; have t1 := Same.upd (o := .lst [.int z]) hp1; refine ⟨g,p1,_,_,rfl,rfl,t1 _ _ (s13 _ _ hg),zab,?_,fun p2 hp2 => ?_⟩
        . rw [List.length_map]; show _ + 1 <= _; omega
        have t2 := Same.upd (o := .lst (gs.map V.int ++ [.int z])) hp2; have q2 := zab (H := upd H3 p1 (.lst [.int z])) (a := p2) (o := .lst (gs.map V.int ++ [.int z])); have t12 := t1.trans t2; have hpD : p2 ≠ D := fun e => by rw [e,t1 _ _ (s3 _ _ d2)] at hp2; cases hp2
        generalize upd (upd H3 p1 (.lst [.int z])) p2 (.lst (gs.map V.int ++ [.int z])) = H4 at t2 q2 t12 ⊢; refine ⟨_,rfl,p,_,0,_,rfl,rfl,SqT.of (t12 _ _ hp),at0,nlb rfl,fun p5 hp5 => ?_⟩; have t5 := Same.upd (o := .tup [.ref p2,y]) hp5; have q5 := zab (H := H4) (a := p5) (o := .tup [.ref p2,y]); generalize upd H4 p5 (.tup [.ref p2,y]) = H5 at t5 q5 ⊢; have t35 := t12.trans t5; have d5 := t35 _ _ (s3 _ _ d2); have r5 := r2.keep (s3.trans t35); refine ⟨D,ms,_,rfl,rfl,d5,?_,?_⟩
        . rw [r2.len]; have h1 := zln cs gs t ((zax cs gs).take i); have h2 : ((zax cs gs).take i).length <= (zax cs gs).length := by rw [List.length_take]; exact Nat.min_le_right _ _
          omega
        have hne : zax cs gs ≠ [] := fun z => by rw [z] at hzm; cases hzm
        refine ⟨_,_,_,rfl,fun b o h => ?_,?_,zab,?_⟩
        . rw [zaj (zam h hD)]; exact t35 _ _ (s13 _ _ h)
        . rw [zaj (hDD hne)]; exact t35 _ _ (s3 _ _ f2)
        . rw [etk,zcO,if_pos e1]; refine Rows.snoc (g := p2) (x := y) (Rows.updD d5 r5) (SqT.updL d5 (SqT.of q5)) ?_ (Thing.updL d5 (hy.keep t35)); rw [zaj hpD,t5 _ _ q2,List.map_append]
          rfl
      . refine zda (by rw [show decide ((doT t (zah cs z).d.1 (zah cs z).d.2).2 = (zah cs z).a) = false from decide_eq_false e1]; decide) ⟨_,_,_,rfl,s13,s3 _ _ f2,s3 _ _ d2,?_⟩
        rw [etk,zcO,if_neg e1]; exact r2.keep s3
    . rintro σ H2 ⟨v5,v6,ms,rfl,s2,f2,d2,r2⟩; rw [List.length_map,List.take_length] at r2; exact ⟨_,rfl,k D ms H2 s2 d2 r2⟩
def Mx (H H' : Hp) : Prop := ∀ b o,H b = some o -> (∀ φ,o ≠ .ext φ) -> (∀ ps,o ≠ .tbl ps) -> H' b = some o
theorem Mx.of {H H' : Hp} (m : Mv H H') : Mx H H' := fun b o e _ n => m b o e n
theorem Mx.updE {H : Hp} {d : Addr} {φ : Heap -> Prop} {o : HO} (h : H d = some (.ext φ)) : Mx H (upd H d o) := fun b ob e n _ => by
  rw [zaj (za2 e h fun z => n _ z)]; exact e
theorem Mx.lst {H H' : Hp} (m : Mx H H') {a : Addr} {xs : List V} (h : H a = some (.lst xs)) : H' a = some (.lst xs) := m _ _ h (fun _ z => by cases z) fun _ z => by cases z
theorem Mx.tup {K : Fg} {H H' : Hp} {a : Addr} {xs : List V} (m : Mx H H') (h : SqT K H a xs) : SqT K H' a xs := by
  rcases h with (h | ⟨o,h⟩) | h
  . exact .inl (.inl (m _ _ h (fun _ z => by cases z) fun _ z => by cases z))
  . exact .inl (.inr ⟨o,m _ _ h (fun _ z => by cases z) fun _ z => by cases z⟩)
  . exact .inr h
theorem Thing.mx {K : Fg} {H H' : Hp} {k : Str} {v : V} {t : Th} (m : Mx H H') (h : Thing K H k v t) : Thing K H' k v t := by
  cases h with
  | row h =>
    obtain ⟨a,e,h⟩ := h; exact .row ⟨a,e,m.tup h⟩
  | num => exact .num
theorem Rows.mx {K : Fg} {H H' : Hp} {k : Str} {vs : List V} {rs : List Row} (m : Mx H H') (h : Rows K H k vs rs) : Rows K H' k vs rs :=
  ⟨h.len,fun i v e => let ⟨r,t,g,x,h1,h2,h3,h4,h5⟩ := h.at_ i v e; ⟨r,t,g,x,h1,h2,m.tup h3,m.lst h4,h5.mx m⟩⟩
theorem Rows.split {K : Fg} {H : Hp} {k : Str} {us : List V} {u : V} {rs : List Row} (h : Rows K H k (us ++ [u]) rs) : ∃ ws r t g x,rs = ws ++ [r] /\ Rows K H k us ws /\ u = .ref t /\ SqT K H t [.ref g,x] /\ H g = some (.lst (r.1.map V.int)) /\ Thing K H k x r.2 := by
  have hl := h.len; rw [List.length_append,List.length_singleton] at hl
  obtain ⟨ws,r,e⟩ : ∃ ws r,rs = ws ++ [r] := by
    rcases List.eq_nil_or_concat rs with e | ⟨ws,r,e⟩
    . rw [e] at hl; simp at hl
    . exact ⟨ws,r,by rw [e,List.concat_eq_append]⟩
  subst e; rw [List.length_append,List.length_singleton] at hl; have hl' : us.length = ws.length := by omega
  obtain ⟨r',t,g,x,h1,h2,h3,h4,h5⟩ := h.at_ us.length u (by simp)
  rw [hl',List.getElem?_concat_length] at h1; cases h1; refine ⟨ws,r,t,g,x,rfl,⟨hl',fun i v e => ?_⟩,h2,h3,h4,h5⟩; have hi : i < us.length := (List.getElem?_eq_some_iff.mp e).1; obtain ⟨r2,t2,g2,x2,a1,a2⟩ := h.at_ i v (by rw [List.getElem?_append_left hi]; exact e)
  rw [List.getElem?_append_left (by omega)] at a1
  exact ⟨r2,t2,g2,x2,a1,a2⟩
theorem Rows.more {K : Fg} {H : Hp} {k : Str} {us ms : List V} {ws cw : List Row} {wa : Addr} {o : HO} (hw : H wa = some (.lst us)) (h1 : Rows K H k us ws) (h2 : Rows K H k ms cw) (hne : ∀ r ∈ cw,r.1 ≠ []) : Rows K (upd H wa o) k (us ++ ms) (ws ++ cw) := by
  have a1 := Rows.updD (o := o) hw h1
  have b1 : Rows K (upd H wa o) k ms cw := ⟨h2.len,fun i v e => by
    obtain ⟨r,t,g,x,c1,c2,c3,c4,c5⟩ := h2.at_ i v e; refine ⟨r,t,g,x,c1,c2,SqT.updL hw c3,?_,Thing.updL hw c5⟩
    have : g ≠ wa := fun z => by
      rw [z,hw] at c4; have e2 := HO.lst.inj (Option.some.inj c4)
      cases us with
      | nil => exact hne r (List.mem_of_getElem? c1) (List.map_eq_nil_iff.mp e2.symm)
      | cons u us' =>
        obtain ⟨_,t',_,_,_,e3,_⟩ := h1.at_ 0 u rfl; subst e3
        cases hr : r.1 with
        | nil => rw [hr] at e2; cases e2
        | cons i r' => rw [hr] at e2; cases e2
    rw [zaj this]
    exact c4⟩
  refine ⟨by rw [List.length_append,List.length_append,h1.len,h2.len],fun i v e => ?_⟩
  by_cases hi : i < us.length
  . rw [List.getElem?_append_left hi] at e; obtain ⟨r,t,g,x,c1,c2⟩ := a1.at_ i v e; exact ⟨r,t,g,x,by rw [List.getElem?_append_left (by rw [<- h1.len]; exact hi)]; exact c1,c2⟩
  . rw [List.getElem?_append_right (by omega)] at e
    obtain ⟨r,t,g,x,c1,c2⟩ := b1.at_ _ v e; exact ⟨r,t,g,x,by rw [List.getElem?_append_right (by rw [<- h1.len]; omega),<- h1.len]; exact c1,c2⟩
theorem zmY {cs : List Cl} {gs : List Int} {t : Th} : ∀ r ∈ zaT cs gs t,r.1 ≠ [] := by
  intro r hr; obtain ⟨i,_,rfl⟩ := List.mem_map.mp hr; simp
theorem Reach.len {cs : List Cl} {k : Str} {gs : List Int} {t : Th} (h : Reach cs k gs t) : gs.length <= cs.length := by
  have := h.left; omega
inductive zf8 (K : Fg) (Pt : Addr) (vs : List V) (H : Hp) (Q : VK) (E_ : XK) : Prop
  | mk (k : Str) (l : Addr) (xs : List V) (cs : List Cl) (wf : List Int -> Nat) : (vs = [.str k,.ref l]) -> ((k = "row" \/ k = "number")) -> (SqL K H l xs) -> (Calls K H k xs cs) -> (xs.length <= 60) -> (zit cs wf) -> (wf [] <= 90000) -> (LamTab Pt zco zcg H) -> ((∀ H',Mv H H' -> LamTab Pt zco zcg H' -> ¬ zbe cs [] (t0 k) -> Q .non H')) -> (∀ (H' : Hp) (g : Addr) (gs : List Int) (t : Th),Mv H H' -> LamTab Pt zco zcg H' -> H' g = some (.lst (gs.map V.int)) -> Reach cs k gs t -> gs.length = cs.length -> Q (.ref g) H') -> zf8 K Pt vs H Q E_
structure SI (P : Program) (w : World) (K : Fg) (Pt : Addr) (H : Hp) (kd : Str) (cs : List Cl) (wf : List Int -> Nat) (wa sd : Addr) (H2 : Hp) (us : List V) (ws : List Row) (ks : List NK) : Prop where
  mv : Mv H H2
  lam : LamTab Pt zco zcg H2
  wai : H2 wa = some (.lst us)
  row : Rows K H2 kd us ws
  dic : NDict P w K H2 sd ks
  rea : ∀ x ∈ ws,Reach cs kd x.1 x.2
  clo : zd8 cs ks ws
  beg : zfb kd ks ws
  sum : ks.length + zb6 wf ws <= wf []
theorem zkR (wf : List Int -> Nat) (ws : List Row) (x : Row) : zb6 wf (ws ++ [x]) = zb6 wf ws + wf x.1 := by
  rw [zde]; simp [zb6]
theorem zmj (ks : List NK) (k : NK) : (zc8 ks k).length <= ks.length + 1 := by
  unfold zc8
  split
  . omega
  . rw [List.length_append]; exact Nat.le_refl _
inductive zcv (wf : (List Int -> Nat)) (kd : Str) (l wa sd : Addr) (P : Program) (w : World) (K : W.Frag) (Pt : Addr) (H : Hp) (cs : List Cl) (m : Nat) (σ' : St) (H6 : Hp) : Prop
  | mk (v4 v5 v6 v7 : Option V) (us : List V) (ws : List Row) (ks : List NK) : (m = zb6 wf ws) -> (σ' = [some (.str kd),some (.ref l),some (.ref wa),some (.ref sd),v4,v5,v6,v7]) -> (SI P w K Pt H kd cs wf wa sd H6 us ws ks) -> zcv wf kd l wa sd P w K Pt H cs m σ' H6
inductive zct (wf : (List Int -> Nat)) (ws : List Row) (kd : Str) (l wa sd : Addr) (P : Program) (w : World) (K : W.Frag) (Pt : Addr) (H : Hp) (cs : List Cl) (σ' : St) (H7 : Hp) : Prop
  | mk (v4 v5 v6 v7 : Option V) (us2 : List V) (ws2 : List Row) (ks2 : List NK) : (zb6 wf ws2 < zb6 wf ws) -> (σ' = [some (.str kd),some (.ref l),some (.ref wa),some (.ref sd),v4,v5,v6,v7]) -> (SI P w K Pt H kd cs wf wa sd H7 us2 ws2 ks2) -> zct wf ws kd l wa sd P w K Pt H cs σ' H7
theorem zfi {Pt : Addr} (F : Fun K "search_order" "search_order" zcj f fd) (B : Bl mg) (T : Tp P w K mg st pt r b n) (g_can_come_out : FnX P w K mg base "can_come_out" 4 (zjC K Pt)) (g_start : FnX P w K mg base "start" 2 (zeg r)) (g_ways_on : FnX P w K mg base "ways_on" 3 (zjp K)) : FnOk P w K mg base CX0 5 f fd ["kind","calls"] (zf8 K Pt) := by
  refine F.ok sc_search_order (fun vs H Q E h => ?_) (fun cdv A outer s H vs Q E hr h => ?_)
  . obtain ⟨k,l,xs,cs,wf,rfl,_⟩ := h; rfl
  . obtain ⟨kd,l,xs,cs,wf,rfl,hk,hS,hC,hlen,hW,hW0,hT,k0,k1⟩ := h; have hsz : sizeLine = 16777216 := sizeLine_eq; have hu := zfS hr; have hn : xs.length = cs.length := hC.len
    refine ⟨_,(zac (zar (i := 2) sc_search_order.nd rfl (by first | exact .inl rfl | exact .inr rfl) (zaM (zaa (zaJ (zaa (zaM zad) (zaa (zay g_start zaF hr rfl (zaa (pv 0) zad)) zad))) zad)))
    (zac (zar (i := 3) sc_search_order.nd rfl (by first | exact .inl rfl | exact .inr rfl) ziO (hs := by kernel_rfl))
    (zac (zfZ PassesOwn.never (zdG K (pv 2) (fun _ => rfl))
    (zac (zar (i := 4) sc_search_order.nd rfl (by first | exact .inl rfl | exact .inr rfl) (zoj PySem.F.plainAttrs_list PySem.F.slot_list_pop PySem.F.type_list_pop zn8 (pv 2)))
    (zac (zar (i := 5) sc_search_order.nd rfl (by first | exact .inl rfl | exact .inr rfl) (zak (zai K) (pv 4) zae (fun _ _ => rfl)))
    (zac (zar (i := 6) sc_search_order.nd rfl (by first | exact .inl rfl | exact .inr rfl) (zak (zai K) (pv 4) zae (fun _ _ => rfl)))
    (zac (zaD (zan zaV (zas (zau K) rfl B.len_ PySem.boot_len (zaa (pv 5) zad)) (zas (zau K) rfl B.len_ PySem.boot_len (zaa (pv 1) zad)) (zat _))
    (zaf (zao (pv 5))) zaq)
    (zac (zar (i := 7) sc_search_order.nd rfl (by first | exact .inl rfl | exact .inr rfl) (zaJ (zaa (zaP zbq rfl B.tuple_ PyProof.Rows.boot_tuple (zaa (zas zeh rfl B.sorted_ PyProof.Rows.boot_sorted (zaa (pv 5) zad)) zad)) (zaa (pv 6) zad))))
    (zac (zaD (zan (zos hu) (pv 7) (pv 3) rfl)
    (zaf zif) zaq)
    (zac (zci zaY (zeL (pv 3) (pv 7) (zmh hu)))
    (zaf (zaD (PW.pt (zcN (zan zdx (pv 0) zaA (zat _)) (zcw (za6 (zay g_can_come_out zaF hr rfl (zaa (pv 6) (zaa (pv 1) (zaa (pv 5) zad))))))))
    (zaf (zaS (zck K PySem.F.plainAttrs_list PySem.F.slot_list_extend PySem.F.type_list_extend ze1 (pv 2) (zaa (zay g_ways_on zaF hr rfl (zaa (pv 0) (zaa (pv 1) (zaa (pv 5) (zaa (pv 6) zad))))) zad)))) zaq))))))))))
    (zaf (zao zbI))))),?_⟩
    refine ⟨nlb rfl,fun e he => ?_⟩; have s1 : Same H (upd H e (.lst [])) := Same.upd he; have q1 : (upd H e (.lst [])) e = some (.lst []) := zab; generalize upd H e (.lst []) = H1 at s1 q1 ⊢; refine ⟨_,rfl,?_⟩; dsimp only [zla,List.append_nil,List.cons_append,List.nil_append]; refine zfN T hk fun x0 hx0 => ?_; refine ⟨nlb rfl,fun p hp => ?_⟩; have s2 : Same H1 (upd H1 p (.tup [.ref e,x0])) := Same.upd hp; have q2 : (upd H1 p (.tup [.ref e,x0])) p = some (.tup [.ref e,x0]) := zab; generalize upd H1 p (.tup [.ref e,x0]) = H2 at s2 q2 ⊢; refine ⟨nlb rfl,fun wa hwa => ?_⟩; have s3 : Same H2 (upd H2 wa (.lst [.ref p])) := Same.upd hwa; have q3 : (upd H2 wa (.lst [.ref p])) wa = some (.lst [.ref p]) := zab; generalize upd H2 wa (.lst [.ref p]) = H3 at s3 q3 ⊢; have nwa : H wa = none := za8 (s1.trans s2) hwa; refine fun sd H4 hsd s4 hN4 => ?_; have nsd : H sd = none := za8 ((s1.trans s2).trans s3) hsd; have s04 := ((s1.trans s2).trans s3).trans s4
    have row0 : Rows K H4 kd [.ref p] [([],t0 kd)] := ⟨rfl,fun i v hv => by
      cases i with
      | zero =>
        cases hv; exact ⟨([],t0 kd),p,e,x0,rfl,rfl,SqT.of (s4 _ _ (s3 _ _ q2)),s4 _ _ (s3 _ _ (s2 _ _ q1)),hx0.keep ((s2.trans s3).trans s4)⟩
      | succ i => simp at hv⟩
    have si0 : SI P w K Pt H kd cs wf wa sd H4 [.ref p] [([],t0 kd)] [] := ⟨s04.mv,LamTab.keep s04 hT,s4 _ _ q3,row0,hN4,(fun x hx => by rw [List.mem_singleton.mp hx]; exact .nil),(fun gs t hg => by cases hg),.inr ⟨_,List.mem_singleton.mpr rfl,rfl,rfl⟩,by simp [zb6]⟩
    refine ⟨zcv wf kd l wa sd P w K Pt H cs,
      ⟨_,none,none,none,none,_,_,_,rfl,rfl,si0⟩,?_⟩
    rintro m σ' H6 ⟨v4,v5,v6,v7,us,ws,ks,rfl,rfl,si⟩; refine ⟨_,rfl,_,.inl ⟨_,SqL.of si.wai,rfl⟩,?_⟩
    rcases List.eq_nil_or_concat us with hus | ⟨us',u,hus⟩
    . subst hus; have hws : ws = [] := List.length_eq_zero_iff.mp si.row.len.symm; subst hws; exact zaE (k0 _ si.mv si.lam (zo3 si.clo si.beg))
    rw [List.concat_eq_append] at hus; subst hus
    refine zcI (by cases us' <;> rfl) ⟨zct wf ws kd l wa sd P w K Pt H cs,
      fun σ' H7 ⟨v4,v5,v6,v7,us2,ws2,ks2,hlt,e_,h⟩ => ⟨_,hlt,v4,v5,v6,v7,us2,ws2,ks2,rfl,e_,h⟩,?_⟩
    refine ⟨_,rfl,.inl ⟨rfl,_,SqL.of si.wai⟩,wa,us' ++ [u],u,rfl,rfl,si.wai,by simp,?_⟩
    rw [List.dropLast_concat]; have row7 : Rows K (upd H6 wa (.lst us')) kd (us' ++ [u]) ws := Rows.updD si.wai si.row; have lam7 : LamTab Pt zco zcg (upd H6 wa (.lst us')) := si.lam.upd si.wai (fun _ z => by cases z) fun _ z => by cases z
    have mv7 : Mv H (upd H6 wa (.lst us')) := Mv.updN si.mv nwa; have dic7 : NDict P w K (upd H6 wa (.lst us')) sd ks := si.dic.updL si.wai; have wai7 : (upd H6 wa (.lst us')) wa = some (.lst us') := zab; generalize upd H6 wa (.lst us') = H7 at row7 lam7 mv7 dic7 wai7 ⊢; obtain ⟨w1,⟨gs,th⟩,t,g,x,rfl,row7',rfl,ht,hg,hTh⟩ := row7.split; have hg' : H7 g = some (.lst (gs.map V.int)) := hg; have hTh' : Thing K H7 kd x th := hTh; have hre : Reach cs kd gs th := si.rea (gs,th) (by simp)
    have hgl := hre.len; have hsT : zbo th <= 1000 := by have := hre.size; omega
    have hsw : zb6 wf (w1 ++ [(gs,th)]) = zb6 wf w1 + wf gs := zkR wf w1 (gs,th); have hsum : ks.length + (zb6 wf w1 + wf gs) <= wf [] := by rw [<- hsw]; exact si.sum
    have hw1 := hW gs; refine ⟨_,rfl,t,_,0,_,rfl,rfl,ht,at0,?_⟩; refine ⟨_,rfl,t,_,1,_,rfl,rfl,ht,at1,?_⟩; refine ⟨_,rfl,g,_,rfl,.inl (SqL.of hg'),_,rfl,l,xs,rfl,.inl (mv7.seq hS),rfl,_,rfl,?_⟩; rw [zey,List.length_map]
    by_cases hfull : gs.length = cs.length
    . exact zcI (by simp; omega) ⟨_,rfl,k1 _ g gs th mv7 lam7 hg' hre hfull⟩
    refine zda (by simp; omega) ?_
    have hleft : zal cs.length gs ≠ [] := fun z => hfull (hre.full.mp z); refine ⟨_,rfl,g,gs,rfl,SqL.of hg',by omega,fun p3 ns hp3 hpm hsr => ?_⟩
    rw [zhT hpm hsr]; have t3 := Same.upd (o := .lst ((srt gs).map V.int)) hp3; have r3 := zab (H := H7) (a := p3) (o := .lst ((srt gs).map V.int)); generalize upd H7 p3 (.lst ((srt gs).map V.int)) = H8 at t3 r3 ⊢; refine ⟨p3,_,rfl,.inl ⟨SqL.of r3,fun p4 hp4 => ?_⟩⟩; have t4 := Same.upd (o := .tup ((srt gs).map V.int)) hp4; have r4 := zab (H := H8) (a := p4) (o := .tup ((srt gs).map V.int)); generalize upd H8 p4 (.tup ((srt gs).map V.int)) = H9 at t4 r4 ⊢; refine ⟨_,rfl,nlb rfl,fun p5 hp5 => ?_⟩; have t5 := Same.upd (o := .tup [.ref p4,x]) hp5; have r5 := zab (H := H9) (a := p5) (o := .tup [.ref p4,x]); generalize upd H9 p5 (.tup [.ref p4,x]) = H10 at t5 r5 ⊢; have t35 := (t3.trans t4).trans t5; have hkey : KeyAt K H10 (zbG (srt gs,th)) p5 := ⟨_,SqT.of r5,.cons ⟨p4,rfl,SqT.of (t5 _ _ r4)⟩ (.cons (zdh (hTh'.keep t35)) .nil)⟩; have lamX := LamTab.keep t35 lam7; have mvX := mv7.trans t35.mv; have dicX := dic7.keep t35; have waiX := t35 _ _ wai7; have rowX := row7'.keep t35; have hgX := t35 _ _ hg'; have hThX := hTh'.keep t35; refine ⟨_,rfl,_,rfl,p5,sd,_,ks,rfl,rfl,hkey,dicX,_,rfl,?_⟩
    cases hin : zbZ ks (zbG (srt gs,th)) with
    | true =>
      refine zaR ⟨_,_,_,_,us',w1,ks,by omega,rfl,mvX,lamX,waiX,rowX,dicX,(fun y hy => si.rea y (by simp [hy])),zh7 si.clo hin,zjD si.beg hin,by omega⟩
    | false =>
      refine zaE ?_; refine ⟨_,rfl,_,rfl,sd,p5,_,ks,rfl,rfl,hkey,dicX,by omega,fun φ hN => ?_⟩
      have hN' : NDict P w K (upd H10 sd (.ext φ)) sd (zc8 ks (zbG (srt gs,th))) := hN; have mx : Mx H10 (upd H10 sd (.ext φ)) := let ⟨_,h1,_⟩ := dicX; Mx.updE h1; have lamY : LamTab Pt zco zcg (upd H10 sd (.ext φ)) := lamX.updN dicX; have mvY : Mv H (upd H10 sd (.ext φ)) := Mv.updN mvX nsd; have waiY := mx.lst waiX; have rowY := rowX.mx mx; have hgY := mx.lst hgX; have hThY := hThX.mx mx; generalize upd H10 sd (.ext φ) = H11 at hN' mx lamY mvY waiY rowY hgY hThY ⊢; have hal := zmj ks (zbG (srt gs,th))
      have ext : ∀ H12,Mv H11 H12 -> LamTab Pt zco zcg H12 -> ∀ (Qn : St -> Hp -> Prop) (σ5 : St),(∀ H' us2 ws2 ks2,zb6 wf ws2 < zb6 wf (w1 ++ [(gs,th)]) -> SI P w K Pt H kd cs wf wa sd H' us2 ws2 ks2 -> Qn σ5 H') →
          ∀ (D : Addr) (ms : List V) (H13 : Hp),Same H12 H13 -> H13 D = some (.lst ms) -> Rows K H13 kd ms (zaT cs gs th) -> us'.length + ms.length <= sizeLine /\ H13 wa = some (.lst us') /\ Qn σ5 (upd H13 wa (.lst (us' ++ ms))) := by
        intro H12 m12 lam12 Qn σ5 hQ D ms H13 s13 hD hR; have wai13 := s13 _ _ (m12.lst waiY); have row13 := (rowY.mx (Mx.of m12)).keep s13; have hwl : (zaT cs gs th).length <= zb6 wf (zaT cs gs th) := zgh hW _; have hws := zlY hW gs th; have hul : w1.length <= zb6 wf w1 := zgh hW _; have hu1 : us'.length = w1.length := row7'.len; have hm1 : ms.length = (zaT cs gs th).length := hR.len; refine ⟨by omega,wai13,hQ _ (us' ++ ms) (w1 ++ zaT cs gs th) (zc8 ks (zbG (srt gs,th))) (by rw [zde,hsw]; omega) ⟨?_,?_,zab,?_,?_,?_,?_,?_,?_⟩⟩
        . exact Mv.updN ((mvY.trans m12).trans s13.mv) nwa
        . exact (LamTab.keep s13 lam12).upd wai13 (fun _ z => by cases z) fun _ z => by cases z
        . exact Rows.more wai13 row13 hR zmY
        . exact ((hN'.mv m12).keep s13).updL wai13
        . intro y hy
          rcases List.mem_append.mp hy with hy | hy
          . exact si.rea y (by simp [hy])
          . exact zjG hre y hy
        . exact ze4 (w := (gs,th)) si.clo hleft fun _ i hi ha => zib hi ha
        . exact zfW (w := (gs,th)) si.beg
        . rw [zde]; omega
      rcases hk with hk' | hk'
      . subst hk'; refine ⟨_,rfl,rfl,_,rfl,zaE ?_⟩
        cases hThY with
        | @row v ts hX =>
          obtain ⟨xa,rfl,hX⟩ := hX; refine ⟨_,rfl,_,rfl,_,rfl,xa,l,g,xs,cs,gs,ts,rfl,hX,hsT,mvY.seq hS,hC.mv mvY,hlen,SqL.of hgY,lamY,fun bo H12 m12 lam12 hbo => ⟨_,rfl,?_⟩⟩
          cases bo with
          | false =>
            refine zaE (⟨_,_,_,_,us',w1,zc8 ks (zbG (srt gs,.inl ts)),by omega,rfl,mvY.trans m12,lam12,m12.lst waiY,rowY.mx (Mx.of m12),hN'.mv m12,(fun y hy => si.rea y (by simp [hy])),?_,?_,by omega⟩)
            . have := ze4 (w := (gs,.inl ts)) (cw := []) si.clo hleft fun hc => absurd hc (hbo rfl); rw [List.append_nil] at this; exact this
            . have := zfW (w := (gs,.inl ts)) (cw := []) si.beg; rw [List.append_nil] at this; exact this
          | true =>
            refine zaR ?_; refine ⟨_,rfl,.inl ⟨rfl,_,SqL.of (m12.lst waiY)⟩,_,rfl,_,rfl,_,rfl,_,rfl,"row",l,g,.ref xa,xs,cs,gs,.inl ts,rfl,.inl rfl,(mvY.trans m12).seq hS,hC.mv (mvY.trans m12),m12.lst hgY,by omega,hlen,.row ⟨xa,rfl,m12.tup hX⟩,hsT,fun D ms H13 s13 hD hR => ?_⟩
            exact ⟨wa,D,us',ms,rfl,rfl,s13 _ _ (m12.lst waiY),hD,(ext H12 m12 lam12 (fun _ _ => True) [] (fun _ _ _ _ _ _ => trivial) D ms H13 s13 hD hR).1,(ext H12 m12 lam12 _ _ (fun H' us2 ws2 ks2 hlt h => ⟨_,_,_,_,us2,ws2,ks2,hlt,rfl,h⟩) D ms H13 s13 hD hR).2.2⟩
      . subst hk'; refine ⟨_,rfl,rfl,_,rfl,zaR (zaR ?_)⟩; refine ⟨_,rfl,.inl ⟨rfl,_,SqL.of waiY⟩,_,rfl,_,rfl,_,rfl,_,rfl,"number",l,g,x,xs,cs,gs,th,rfl,.inr rfl,mvY.seq hS,hC.mv mvY,hgY,by omega,hlen,hThY,hsT,fun D ms H13 s13 hD hR => ?_⟩
        exact ⟨wa,D,us',ms,rfl,rfl,s13 _ _ waiY,hD,(ext H11 (Mv.refl _) lamY (fun _ _ => True) [] (fun _ _ _ _ _ _ => trivial) D ms H13 s13 hD hR).1,(ext H11 (Mv.refl _) lamY _ _ (fun H' us2 ws2 ks2 hlt h => ⟨_,_,_,_,us2,ws2,ks2,hlt,rfl,h⟩) D ms H13 s13 hD hR).2.2⟩
theorem zlk {cs : List Cl} : ∀ (os : List Int) (gs : List Int) (t : Th),os.Perm (zal cs.length gs) -> (os.map (zah cs)).Pairwise tOk -> (∀ i ∈ os,(zah cs i).b < (zah cs i).e) -> zdb t (os.map fun i => (zah cs i).d) = os.map (fun i => (zah cs i).a) -> Run cs gs t os
  | [],gs,t,hp,_,_,_ => hp.symm.eq_nil
  | i :: os,gs,t,hp,ht,hb,ha => by
    have hi : i ∈ zal cs.length gs := hp.mem_iff.mp (by simp)
    rw [List.map_cons,List.pairwise_cons] at ht; have ha' : (stp cs t i).2 :: zdb (stp cs t i).1 (os.map fun i => (zah cs i).d) = (zah cs i).a :: os.map (fun i => (zah cs i).a) := ha; have ha1 := List.cons.inj ha'; refine ⟨List.mem_filter.mpr ⟨hi,List.all_eq_true.mpr fun j hj => decide_eq_true ?_⟩,ha1.1,zlk os _ _ ?_ ht.2 (fun j hj => hb j (by simp [hj])) ha1.2⟩
    . rcases List.mem_cons.mp (hp.mem_iff.mpr hj) with rfl | h
      . exact Int.le_of_lt (hb _ (by simp))
      . exact ht.1 _ (List.mem_map.mpr ⟨j,h,rfl⟩)
    . exact (hp.trans (zdA hi)).cons_inv
theorem ziG (n : Nat) : zal n [] = zaz 0 n := List.filter_eq_self.mpr fun x _ => rfl
theorem zmk {cs : List Cl} {k : Str} {gs : List Int} {t : Th} (h : Reach cs k gs t) (hn : gs.length = cs.length) : zir cs.length gs = true /\ zg1 cs gs = true /\ zdU k cs gs = true := by
  refine ⟨List.isPerm_iff.mpr (h.order hn),?_,decide_eq_true h.ans.2⟩; unfold zg1; rw [List.all_eq_true]; intro i hi; have hil := List.mem_range.mp hi; simp only [Bool.not_eq_true',List.any_eq_false,decide_eq_true_eq]; intro f hf; rw [mem_take] at hf; obtain ⟨q,hq,hqi,rfl⟩ := hf; have hp := List.pairwise_iff_getElem.mp h.tok.1 q i (by rw [List.length_map]; exact hq) (by rw [List.length_map]; exact hil) hqi
  rw [List.getElem_map,List.getElem_map] at hp; have hp' : (zah cs gs[q]).b <= (zah cs gs[i]).e := hp; rw [zdz hil]; omega
def zlU (cs : List Cl) (k : Str) : Prop := ∀ (gs : List Int) (t : Th),Reach cs k gs t -> (zaT cs gs t).length <= 1
def AtR (cs : List Cl) (k : Str) (r : Row) : Prop := ∃ gs,Reach cs k gs r.2 /\ r.1 = srt gs
def zcF (cs : List Cl) (r : Row) : Option Row := match zaT cs r.1 r.2 with
  | [] => none
  | x :: _ => some (srt x.1,x.2)
theorem zhX (gs : List Int) (x : Int) : x ∈ srt gs ↔ x ∈ gs := (zdZ gs).mem_iff
theorem zlt (cs : List Cl) (gs : List Int) (t : Th) : (zaT cs (srt gs) t).length = (zaT cs gs t).length := by
  unfold zaT; rw [List.length_map,List.length_map,zcm cs (zhX gs)]
theorem AtR.thin {cs : List Cl} {k : Str} {r : Row} (hT : zlU cs k) (h : AtR cs k r) : (zaT cs r.1 r.2).length <= 1 := by
  obtain ⟨gs,h1,h2⟩ := h; rw [h2,zlt]; exact hT gs r.2 h1
theorem AtR.nil (cs : List Cl) (k : Str) : AtR cs k ([],t0 k) := ⟨[],.nil,by simp [srt]⟩
theorem AtR.next {cs : List Cl} {k : Str} {r r2 : Row} (h : AtR cs k r) (hn : zcF cs r = some r2) : AtR cs k r2 /\ r2.1.length = r.1.length + 1 := by
  obtain ⟨gs,h1,h2⟩ := h; unfold zcF at hn
  cases hw : zaT cs r.1 r.2 with
  | nil => rw [hw] at hn; cases hn
  | cons x l =>
    rw [hw] at hn; have e2 : r2 = (srt x.1,x.2) := (Option.some.inj hn).symm; subst e2; have hx : x ∈ zaT cs r.1 r.2 := by rw [hw]; simp
    obtain ⟨i,hi,rfl⟩ := List.mem_map.mp hx; have hi' := List.mem_filter.mp hi; rw [h2] at hi'; rw [zcm cs (zhX gs)] at hi'; refine ⟨⟨gs ++ [i],.snoc h1 hi'.1 (of_decide_eq_true hi'.2),?_⟩,?_⟩
    . show srt (r.1 ++ [i]) = srt (gs ++ [i]); rw [h2]; exact zgN ((zdZ gs).append_right [i])
    . show (srt (r.1 ++ [i])).length = _; rw [(zdZ _).length_eq,List.length_append]
      rfl
theorem AtR.small {cs : List Cl} {k : Str} {r : Row} (h : AtR cs k r) : r.1.length <= cs.length /\ zbo r.2 <= cs.length /\ ∀ i : Int,i ∈ r.1 -> 0 <= i /\ i < cs.length := by
  obtain ⟨gs,h1,h2⟩ := h; have hl := h1.len; have hs := h1.size; refine ⟨by rw [h2,(zdZ _).length_eq]; exact hl,by omega,fun i hi => ?_⟩
  rw [h2,zhX] at hi; exact mem_iota.mp (h1.nodup.2 i hi)
structure Chain (cs : List Cl) (k : Str) (L : List Row) : Prop where
  beg : L[0]? = some ([],t0 k)
  on : ∀ (j : Nat) (r1 r2 : Row),L[j]? = some r1 -> L[j + 1]? = some r2 -> zcF cs r1 = some r2
  at_ : ∀ r ∈ L,AtR cs k r
  len : ∀ (j : Nat) (r : Row),L[j]? = some r -> r.1.length = j
theorem Chain.one (cs : List Cl) (k : Str) : Chain cs k [([],t0 k)] := ⟨rfl,fun j r1 r2 _ h => by simp at h,fun r hr => by rw [List.mem_singleton.mp hr]; exact AtR.nil cs k,fun j r h => by
  cases j with
  | zero => cases h; rfl
  | succ j => simp at h⟩
theorem Chain.snoc {cs : List Cl} {k : Str} {L : List Row} {r1 r2 : Row} (h : Chain cs k (L ++ [r1])) (hn : zcF cs r1 = some r2) : Chain cs k (L ++ [r1] ++ [r2]) := by
  have hA := (h.at_ r1 (by simp)).next hn
  have hl := h.len L.length r1 (by simp)
  refine ⟨?_,fun j a b h1 h2 => ?_,fun r hr => ?_,fun j r hr => ?_⟩
  . rw [List.getElem?_append_left (by simp)]
    exact h.beg
  . by_cases hj : j + 1 < (L ++ [r1]).length
    . rw [List.getElem?_append_left (by omega)] at h1
      rw [List.getElem?_append_left hj] at h2; exact h.on j a b h1 h2
    . have hj2 : j + 1 = (L ++ [r1]).length := by
        have := (List.getElem?_eq_some_iff.mp h2).1; rw [List.length_append,List.length_singleton] at this; omega
      rw [hj2,List.getElem?_concat_length] at h2; cases h2; have hj3 : j = L.length := by rw [List.length_append,List.length_singleton] at hj2; omega
      rw [List.getElem?_append_left (by omega),hj3,List.getElem?_concat_length] at h1
      cases h1; exact hn
  . rcases List.mem_append.mp hr with hr | hr
    . exact h.at_ r hr
    . rw [List.mem_singleton.mp hr]; exact hA.1
  . by_cases hj : j < (L ++ [r1]).length
    . rw [List.getElem?_append_left hj] at hr; exact h.len j r hr
    . have hj2 : j = (L ++ [r1]).length := by
        have := (List.getElem?_eq_some_iff.mp hr).1; rw [List.length_append,List.length_singleton] at this; omega
      rw [hj2,List.getElem?_concat_length] at hr; cases hr; rw [hA.2,hl,hj2,List.length_append,List.length_singleton]
theorem zlg {cs : List Cl} {k : Str} {gs : List Int} {t : Th} (h : Reach cs k gs t) : ∀ is,Run cs gs t is -> zbe cs [] (t0 k) := by
  induction h with
  | nil => exact fun is r => ⟨is,r⟩
  | snoc _ hi ha ih => exact fun is r => ih (_ :: is) ⟨hi,ha,r⟩
theorem zid (f : Int -> Int) : ∀ (l : List Int),l ≠ [] -> ∃ m ∈ l,∀ x ∈ l,f m <= f x
  | [],h => absurd rfl h
  | [a],_ => ⟨a,by simp,fun x hx => by rw [List.mem_singleton.mp hx]; exact Int.le_refl _⟩
  | a :: b :: l,_ => by
    obtain ⟨m,h1,h2⟩ := zid f (b :: l) (by simp)
    by_cases h : f a <= f m
    . refine ⟨a,by simp,fun x hx => ?_⟩
      rcases List.mem_cons.mp hx with rfl | hx
      . exact Int.le_refl _
      . exact Int.le_trans h (h2 x hx)
    . refine ⟨m,List.mem_cons_of_mem _ h1,fun x hx => ?_⟩
      rcases List.mem_cons.mp hx with rfl | hx
      . omega
      . exact h2 x hx
theorem zkM {cs : List Cl} {gs : List Int} (hb : ∀ c ∈ cs,c.b < c.e) (h : zal cs.length gs ≠ []) : zax cs gs ≠ [] := by
  obtain ⟨m,h1,h2⟩ := zid (eOf cs) _ h; intro z; have hm := zcE h1
  have hbe : bOf cs m < eOf cs m := by
    unfold bOf eOf zah; rw [List.getD_eq_getElem?_getD,List.getElem?_eq_getElem (show m.toNat < cs.length by omega)]
    exact hb _ (List.getElem_mem _)
  have : m ∈ zax cs gs := List.mem_filter.mpr ⟨h1,List.all_eq_true.mpr fun j hj => decide_eq_true (by have := h2 j hj; omega)⟩
  rw [z] at this; cases this
theorem ziN (key : NK) : ∀ (rs : List Row) (ks : List NK),(zbZ ks key = true \/ ∃ r ∈ rs,zbG r = key) -> zbZ (rs.foldl (fun ks r => zc8 ks (zbG r)) ks) key = true
  | [],ks,h => by
    rcases h with h | ⟨r,hr,_⟩
    . exact h
    . cases hr
  | x :: rs,ks,h => by
    refine ziN key rs (zc8 ks (zbG x)) ?_
    rcases h with h | ⟨r,hr,e⟩
    . exact .inl (hasK_add.mpr (.inl h))
    . rcases List.mem_cons.mp hr with rfl | hr
      . exact .inl (hasK_add.mpr (.inr e.symm))
      . exact .inr ⟨r,hr,e⟩
theorem zm8 {rs : List Row} {r : Row} (h : r ∈ rs) : zbZ (zaW rs) (zbG r) = true := ziN _ rs [] (.inr ⟨r,h,rfl⟩)
theorem ziB {cs : List Cl} {k : Str} {L : List Row} {rl : Row} (C : Chain cs k (L ++ [rl])) (hb : ∀ c ∈ cs,c.b < c.e) (he : zcF cs rl = none) (hT : zlU cs k) (hno : ¬ zbe cs [] (t0 k)) : zc2 cs k (L ++ [rl]).reverse = true := by
  generalize hM : L ++ [rl] = M at C; unfold zc2
  have hlast : M.reverse.getLast? = some ([],t0 k) := by
    rw [List.getLast?_reverse,List.head?_eq_getElem?]; exact C.beg
  rw [Bool.and_eq_true,hlast]; refine ⟨zgH fun i r hr => ?_,decide_eq_true rfl⟩
  have hil : i < M.length := by
    have := (List.getElem?_eq_some_iff.mp hr).1
    rwa [List.length_reverse] at this
  rw [List.getElem?_reverse hil] at hr; have hrm : r ∈ M := List.mem_of_getElem? hr; obtain ⟨gs,hre,hrs⟩ := C.at_ r hrm; have hf0 : zax cs r.1 = zax cs gs := by rw [hrs]; exact zcm cs (zhX gs)
  unfold shB; rw [Bool.and_eq_true,List.all_eq_true]; constructor
  . intro z hz; unfold okI
    by_cases ha : (doT r.2 (zah cs z).d.1 (zah cs z).d.2).2 = (zah cs z).a
    . rw [decide_eq_true ha,Bool.not_true,Bool.false_or]; have hw : (r.1 ++ [z],(stp cs r.2 z).1) ∈ zaT cs r.1 r.2 := zib hz ha; have ht := (C.at_ r hrm).thin hT
      have hnx : zcF cs r = some (srt (r.1 ++ [z]),(stp cs r.2 z).1) := by
        unfold zcF
        cases hl : zaT cs r.1 r.2 with
        | nil => rw [hl] at hw; cases hw
        | cons x l =>
          rw [hl] at hw ht
          have hl0 : l = [] := by
            cases l with
            | nil => rfl
            | cons y l' => simp at ht
          rw [hl0] at hw; rw [<- List.mem_singleton.mp hw]
      have hj : M.length - 1 - i + 1 < M.length := by
        rcases Nat.lt_or_ge (M.length - 1 - i + 1) M.length with h | h
        . exact h
        . exfalso
          have e0 : M.length - 1 - i = L.length := by
            have : M.length = L.length + 1 := by rw [<- hM,List.length_append]; rfl
            omega
          rw [e0,<- hM,List.getElem?_concat_length] at hr; cases hr; rw [he] at hnx; cases hnx
      have h2 := C.on _ r _ hr (List.getElem?_eq_getElem hj); rw [hnx] at h2; have e2 := Option.some.inj h2
      have hmem : (srt (r.1 ++ [z]),(stp cs r.2 z).1) ∈ M.reverse.take i := by
        rw [List.mem_take_iff_getElem]; refine ⟨i - 1,by rw [List.length_reverse]; omega,?_⟩
        rw [List.getElem_reverse,e2]; congr 1; omega
      exact zm8 hmem
    . rw [decide_eq_false ha]
      rfl
  . rw [hf0]; have hne : zax cs gs ≠ [] := zkM hb fun z => hno (zlg hre [] z)
    cases hq : zax cs gs with
    | nil => exact absurd hq hne
    | cons _ _ => rfl
def zpl (K : Fg) : R2 := fun x y H Q => ∃ a b xs ys,x = .ref a /\ y = .ref b /\ SqT K H a xs /\ SqT K H b ys /\ ys ≠ [] /\ xs.length + ys.length <= sizeLine /\ ∀ (q : Addr) (H' : Hp),Same H H' -> SqT K H' q (xs ++ ys) -> Q (.ref q) H'
theorem zmW {X : Cx} : OpR X (binaryOp .Add) (zpl X.K) := by
  intro pins s σ H x y v u Q I rx ry h; obtain ⟨a,b,xs,ys,e1,e2,ha,hb,hy,hz,q⟩ := h; refine ziH pins s σ H x y v u Q I rx ry ⟨a,b,xs,ys,e1,e2,ha,hb,hy,hz,fun e => ?_,fun e p hp => ?_⟩
  . refine q b H (Same.refl _) ?_; rw [e]; exact hb
  . exact q p _ (Same.upd hp) (SqT.of zab)
theorem Thing.updE {K : Fg} {H : Hp} {k : Str} {v : V} {t : Th} {d : Addr} {φ : Heap -> Prop} {u : HO} (hd : H d = some (.ext φ)) (h : Thing K H k v t) : Thing K (upd H d u) k v t := by
  cases h with
  | row h => obtain ⟨ra,rfl,h⟩ := h; exact .row ⟨ra,rfl,SqT.moved (fun a ys e => by rw [zaj (za2 e hd fun z => by cases z)]; exact e) (fun a oa u e => by rw [zaj (za2 e hd fun z => by cases z)]; exact e) h⟩
  | num => exact .num
inductive zfE (P : Program) (w : World) (K : Fg) (vs : List V) (H : Hp) (Q : VK) (E_ : XK) : Prop
  | mk (k : Str) (v : V) (c : Cl) (d : Addr) (o : Obj) (t : Th) (x tr : V) : (vs = [.str k,v,.ref d]) -> ((k = "row" \/ k = "number")) -> (CallT K H v c) -> (Ok k c) -> (SDict P w K H d o [(t,x,tr)]) -> (Thing K H k x t) -> (zbo t <= 1000) -> (((doT t c.d.1 c.d.2).2 = c.a -> ∀ (H' : Hp) (D : Addr) (o' : Obj) (y : V),Same H H' -> H D = none -> SDict P w K H' D o' [((doT t c.d.1 c.d.2).1,y,.bl true)] -> Thing K H' k y (doT t c.d.1 c.d.2).1 -> Q (.ref D) H')) -> ((¬ (doT t c.d.1 c.d.2).2 = c.a -> ∀ (H' : Hp) (D : Addr) (o' : Obj),Same H H' -> SDict P w K H' D o' [] -> Q (.ref D) H')) -> zfE P w K vs H Q E_
theorem zeU (F : Fun K "things_behind" "things_behind" zbV f fd) (B : Bl mg) (g_do_deed : FnX P w K mg base "do_deed" 2 (zlF K)) : FnOk P w K mg base CX0 3 f fd ["kind","call","things"] (zfE P w K) := by
  refine F.ok sc_things_behind (fun vs H Q E h => ?_) (fun cdv A outer s H vs Q E hr h => ?_)
  . obtain ⟨k,v,c,d,o,t,x,tr,rfl,_⟩ := h; rfl
  . obtain ⟨kd,v,c,d,o,t,x,tr,rfl,hk,hc,hok,hD,hTh,hsT,k1,k0⟩ := h; have hu := zfS hr; obtain ⟨ct,cq,rfl,hct,hcq⟩ := hc
    refine ⟨_,(zac (zar (i := 3) sc_things_behind.nd rfl (by first | exact .inl rfl | exact .inr rfl) zf2 (hs := by kernel_rfl))
    (zac (zaZ PassesOwn.never rfl (zjS (pv 2)) (zaC (i := 4) sc_things_behind.nd rfl (by first | exact .inl rfl | exact .inr rfl))
    (zac (zar (i := 5) sc_things_behind.nd rfl (by first | exact .inl rfl | exact .inr rfl) (zay g_do_deed zaF hr rfl (zaa (pv 0) (zaa (pv 4) (zaa (zak (zai K) (pv 1) zae (fun _ _ => rfl)) zad)))))
    (zaf (zaD (zan zaV (zak (zai K) (pv 5) zae (fun _ _ => rfl)) (zak (zai K) (pv 1) zae (fun _ _ => rfl)) (zat _))
    (zaf (zci zaY (zeL (pv 3) (zak (zai K) (pv 5) zae (fun _ _ => rfl)) (zo9 hu)))) zaq))))
    (zaf (zao (pv 3))))),?_⟩
    refine fun b ob hb Db => ?_; have s1 : Same H (upd H b (.ext (zaL b ob))) := Same.upd hb; generalize upd H b (.ext (zaL b ob)) = H1 at s1 Db ⊢
    refine ⟨_,rfl,d,o,_,rfl,hD.keep s1,zhL (kvs := [(t,x,tr)]) (fun i σ H2 => ∃ v4 v5,σ = [some (.str kd),some (.ref ct),some (.ref d),some (.ref b),v4,v5] /\ Same H H2 /\ ((i = 0 /\ SDict P w K H2 b ob []) ∨
      (i = 1 /\ (doT t c.d.1 c.d.2).2 = c.a /\ ∃ o' y,SDict P w K H2 b o' [((doT t c.d.1 c.d.2).1,y,.bl true)] /\ Thing K H2 kd y (doT t c.d.1 c.d.2).1) \/ (i = 1 /\ ¬ (doT t c.d.1 c.d.2).2 = c.a /\ SDict P w K H2 b ob [])))
      ⟨none,none,rfl,s1,.inl ⟨rfl,Db⟩⟩ (fun i σ H2 _ ⟨_,_,_,s2,_⟩ => hD.keep s2) ?_ ?_⟩
    . rintro i p σ H2 hi ⟨v4,v5,rfl,s2,hst⟩
      have hi0 : i = 0 := by
        cases i with
        | zero => rfl
        | succ i => simp at hi
      subst hi0; cases hi
      rcases hst with ⟨_,Db2⟩ | ⟨z,_⟩ | ⟨z,_⟩
      . refine ⟨_,rfl,_,rfl,_,rfl,ct,_,2,_,rfl,rfl,Same.tup s2 hct,at2,kd,x,t,cq,c.d.1,c.d.2,rfl,hTh.keep s2,hsT,Same.tup s2 hcq,zb5 hk hok.2.1,fun H3 p y s3 hp hy => ?_⟩; have s23 := s2.trans s3; refine ⟨_,rfl,p,_,1,_,rfl,rfl,SqT.of hp,at1,_,rfl,ct,_,3,_,rfl,rfl,Same.tup s23 hct,at3,?_,_,rfl,?_⟩
        . cases (doT t c.d.1 c.d.2).2 <;> cases c.a <;> rfl
        rw [zhR]
        by_cases e1 : (doT t c.d.1 c.d.2).2 = c.a
        . refine zcI (decide_eq_true e1) ?_; have Db3 := Db2.keep s3; refine ⟨_,rfl,_,rfl,p,_,0,_,rfl,rfl,SqT.of hp,at0,b,ob,_,rfl,zdh hy,Db3,fun o' Dn => ?_⟩; refine ⟨_,_,rfl,fun a oa ha => ?_,.inr (.inl ⟨rfl,e1,o',y,Dn,?_⟩)⟩
          . rw [zaj (zam ha hb)]; exact s23 _ _ ha
          . exact Thing.updE Db3.1 hy
        . refine zda (by rw [decide_eq_false e1]; decide) ⟨_,_,rfl,s23,.inr (.inr ⟨rfl,e1,Db2.keep s3⟩)⟩
      . cases z
      . cases z
    . rintro σ H2 ⟨v4,v5,rfl,s2,hst⟩
      rcases hst with ⟨z,_⟩ | ⟨_,ha,o',y,h,hy⟩ | ⟨_,ha,h⟩
      . cases z
      . exact ⟨_,rfl,k1 ha H2 b o' y s2 hb h hy⟩
      . exact ⟨_,rfl,k0 ha H2 b ob s2 h⟩
def LevelAt (P : Program) (w : World) (K : Fg) (H : Hp) (k : Str) (d : Addr) : Option Row -> Prop
  | none => ∃ o,SDict P w K H d o []
  | some r => ∃ (o o2 : Obj) (ga td : Addr) (x : V),SDict P w K H d o [(.inl r.1,.ref ga,.ref td)] /\ SDict P w K H td o2 [(r.2,x,.bl true)] /\ Thing K H k x r.2
theorem LevelAt.keep {P : Program} {w : World} {K : Fg} {H H' : Hp} {k : Str} {d : Addr} {r : Option Row} (s : Same H H') (h : LevelAt P w K H k d r) : LevelAt P w K H' k d r := by
  cases r with
  | none => obtain ⟨o,h⟩ := h; exact ⟨o,h.keep s⟩
  | some r => obtain ⟨o,o2,ga,td,x,h1,h2,h3⟩ := h; exact ⟨o,o2,ga,td,x,h1.keep s,h2.keep s,h3.keep s⟩
theorem LevelAt.updL {P : Program} {w : World} {K : Fg} {H : Hp} {k : Str} {d a : Addr} {r : Option Row} {zs : List V} {u : HO} (ha : H a = some (.lst zs)) (h : LevelAt P w K H k d r) : LevelAt P w K (upd H a u) k d r := by
  cases r with
  | none => obtain ⟨o,h⟩ := h; exact ⟨o,h.updL ha⟩
  | some r => obtain ⟨o,o2,ga,td,x,h1,h2,h3⟩ := h; exact ⟨o,o2,ga,td,x,h1.updL ha,h2.updL ha,h3.updL ha⟩
inductive zja (P : Program) (w : World) (K : Fg) (vs : List V) (H : Hp) (Q : VK) (E_ : XK) : Prop
  | mk (k : Str) (l d : Addr) (xs : List V) (cs : List Cl) (r : Row) : (vs = [.str k,.ref l,.ref d]) -> ((k = "row" \/ k = "number")) -> (SqL K H l xs) -> (Calls K H k xs cs) -> (xs.length <= 60) -> (LevelAt P w K H k d (some r)) -> (r.1.length <= 60) -> (zbo r.2 <= 1000) -> ((zaT cs r.1 r.2).length <= 1) -> (∀ (H' : Hp) (D : Addr),Same H H' -> H D = none -> LevelAt P w K H' k D (zcF cs r) -> Q (.ref D) H') -> zja P w K vs H Q E_
def lvF (ws : List Row) : Option Row := match ws with
  | [] => none
  | x :: _ => some (srt x.1,x.2)
theorem zmJ (cs : List Cl) (gs : List Int) (t : Th) (i : Nat) : (zgk cs gs t ((zax cs gs).take i)).length <= (zaT cs gs t).length := by
  unfold zgk zaT; rw [List.length_map,List.length_map]; exact ((List.take_sublist i (zax cs gs)).filter _).length_le
inductive zc6 (kd : Str) (l d fo : Addr) (H : Hp) (P : Program) (w : World) (K : W.Frag) (ofo : Obj) (cs : List Cl) (r : Row) (i : Nat) (σ : St) (H2 : Hp) : Prop
  | mk (v4 v5 v6 : _) : (σ = [some (.str kd),some (.ref l),some (.ref d),some (.ref fo),v4,v5,v6]) -> (Same H H2) -> (((i = 0 /\ SDict P w K H2 fo ofo []) \/ (i = 1 /\ LevelAt P w K H2 kd fo (zcF cs r)))) -> zc6 kd l d fo H P w K ofo cs r i σ H2
inductive zc7 (kd : Str) (l d fo ga : Addr) (H : Hp) (Dg : Addr) (cs : List Cl) (r : Row) (P : Program) (w : World) (K : W.Frag) (j : Nat) (σ : St) (H4 : Hp) : Prop
  | mk (v5 v6 : _) : (σ = [some (.str kd),some (.ref l),some (.ref d),some (.ref fo),some (.ref ga),v5,v6]) -> (Same H H4) -> (H4 Dg = some (.lst ((zax cs r.1).map V.int))) -> (LevelAt P w K H4 kd fo (lvF (zgk cs r.1 r.2 ((zax cs r.1).take j)))) -> zc7 kd l d fo ga H Dg cs r P w K j σ H4
theorem zgB (F : Fun K "next_level" "next_level" zcS f fd) (B : Bl mg) (g_free_calls : FnX P w K mg base "free_calls" 2 (zhE K)) (g_things_behind : FnX P w K mg base "things_behind" 3 (zfE P w K)) : FnOk P w K mg base CX0 4 f fd ["kind","calls","level"] (zja P w K) := by
  refine F.ok sc_next_level (fun vs H Q E h => ?_) (fun cdv A outer s H vs Q E hr h => ?_)
  . obtain ⟨k,l,d,xs,cs,r,rfl,_⟩ := h; rfl
  . obtain ⟨kd,l,d,xs,cs,r,rfl,hk,hS,hC,hlen,hL,hgl,hsT,hth,k⟩ := h; have hu := zfS hr; have hsz : sizeLine = 16777216 := sizeLine_eq; obtain ⟨o,o2,ga,td,x,hD,hD2,hTh⟩ := hL
    have hga : SqT K H ga (r.1.map V.int) := by
      obtain ⟨t,e,h⟩ := hD.2.2.2.2.1 (.inl r.1,.ref ga,.ref td) (by simp)
      cases e; exact h
    refine ⟨_,(zac (zar (i := 3) sc_next_level.nd rfl (by first | exact .inl rfl | exact .inr rfl) zf2 (hs := by kernel_rfl))
    (zac (zaZ PassesOwn.never rfl (zjS (pv 2)) (zaC (i := 4) sc_next_level.nd rfl (by first | exact .inl rfl | exact .inr rfl))
    (zaf (zaZ PassesOwn.never rfl (zaK K (zay g_free_calls zaF hr rfl (zaa (pv 1) (zaa (pv 4) zad)))) (zaC (i := 5) sc_next_level.nd rfl (by first | exact .inl rfl | exact .inr rfl))
    (zac (zar (i := 6) sc_next_level.nd rfl (by first | exact .inl rfl | exact .inr rfl) (zay g_things_behind zaF hr rfl (zaa (pv 0) (zaa (zak (zap K) (pv 1) (pv 5) (fun _ _ => rfl)) (zaa (ziW hu (pv 2) (pv 4) (fun _ _ => rfl)) zad)))))
    (zaf (zaD (znP (pv 6) (fun _ => rfl))
    (zaf (zaS (zlL PySem.F.slot_dict_update PySem.F.type_dict_update (zm3 hu) (zlL PySem.F.slot_dict_setdefault PySem.F.type_dict_setdefault (zmG hu) (pv 3) (zaa (zaP zbq rfl B.tuple_ PyProof.Rows.boot_tuple (zaa (zas zhQ rfl B.sorted_ PyProof.Rows.boot_sorted (zaa (zav zmW (pv 4) (zaJ (zaa (pv 5) zad))) zad)) zad)) (zaa zf2 zad))) (zaa (pv 6) zad)))) zaq))))))
    (zaf (zao (pv 3))))),?_⟩
    refine fun fo ofo hfo Dfo => ?_; have s1 : Same H (upd H fo (.ext (zaL fo ofo))) := Same.upd hfo; generalize upd H fo (.ext (zaL fo ofo)) = H1 at s1 Dfo ⊢
    refine ⟨_,rfl,d,o,_,rfl,hD.keep s1,zhL (kvs := [(.inl r.1,.ref ga,.ref td)]) (zc6 kd l d fo H P w K ofo cs r)
      ⟨none,none,none,rfl,s1,.inl ⟨rfl,Dfo⟩⟩ (fun i σ H2 _ ⟨_,_,_,_,s2,_⟩ => hD.keep s2) ?_ ?_⟩
    . rintro i p σ H2 hi ⟨v4,v5,v6,rfl,s2,hst⟩
      have hi0 : i = 0 := by
        cases i with
        | zero => rfl
        | succ i => simp at hi
      subst hi0; cases hi
      have Df2 : SDict P w K H2 fo ofo [] := by
        rcases hst with ⟨_,h⟩ | ⟨z,_⟩
        . exact h
        . cases z
      refine ⟨_,rfl,_,rfl,l,ga,kd,xs,cs,r.1,rfl,s2.seq hS,hC.keep s2,.inr (Same.tup s2 hga),by omega,fun Dg H3 s3 hDg => ?_⟩
      have s23 := s2.trans s3; have Df3 := Df2.keep s3
      refine ⟨Dg,rfl,⟨_,SqL.of hDg⟩,za9 (K := K) (a := Dg) (xs := (zax cs r.1).map V.int) (zc7 kd l d fo ga H Dg cs r P w K)
        ⟨v5,v6,rfl,s23,hDg,⟨_,Df3⟩⟩ (fun j σ H4 _ ⟨_,_,_,_,h,_⟩ => SqL.of h) ?_ ?_⟩
      . rintro j y σ H4 hj ⟨v5,v6,rfl,s4,g4,L4⟩; rw [List.getElem?_map] at hj; obtain ⟨z,hz,rfl⟩ := Option.map_eq_some_iff.mp hj; have hzm := List.mem_of_getElem? hz; have hzz := zj9 hzm; have etk := zbn hz; obtain ⟨u,hu',hcu,hokc⟩ := (hC.keep s4).num hzz.1 hzz.2; refine ⟨_,rfl,_,rfl,_,rfl,l,_,_,_,rfl,rfl,s4.seq hS,hu',_,rfl,_,rfl,d,o,.inl r.1,_,_,rfl,⟨ga,rfl,Same.tup s4 hga⟩,hD.keep s4,kd,u,zah cs z,td,o2,r.2,x,_,rfl,hk,hcu,hokc,hD2.keep s4,hTh.keep s4,hsT,fun ha H5 D5 o5 y5 s5 nD5 hD5 hy5 => ?_,fun ha H5 D5 o5 s5 hD5 => ?_⟩
        . -- one way on
          have s45 := s4.trans s5; refine ⟨_,rfl,D5,o5,_,rfl,hD5,zaR ?_⟩; have hpre := zmJ cs r.1 r.2 (j + 1); rw [etk,zcO,if_pos (show (stp cs r.2 z).2 = (zah cs z).a from ha),List.length_append] at hpre
          have hnil : zgk cs r.1 r.2 ((zax cs r.1).take j) = [] := List.length_eq_zero_iff.mp (by
            have : [(r.1 ++ [z],(stp cs r.2 z).1)].length = 1 := rfl
            omega)
          rw [hnil] at L4; obtain ⟨of4,Df4⟩ := L4; have nDf : D5 ≠ fo := fun e => by rw [e,Df4.1] at nD5; cases nD5
          have Df5 := Df4.keep s5; refine ⟨_,rfl,⟨fo,of4,[],rfl,Df5⟩,?_⟩; refine ⟨_,rfl,_,rfl,nlb rfl,fun p1 hp1 => ?_⟩; have t1 := Same.upd (o := .tup [.int z]) hp1; have q1 := zab (H := H5) (a := p1) (o := .tup [.int z]); generalize upd H5 p1 (.tup [.int z]) = H6 at t1 q1 ⊢; refine ⟨ga,p1,r.1.map V.int,[.int z],rfl,rfl,Same.tup (s45.trans t1) hga,SqT.of q1,by simp,by rw [List.length_map]; show _ + 1 <= _; omega,fun ct H7 t2 hct => ?_⟩
          refine ⟨ct,r.1 ++ [z],rfl,by rw [List.map_append]; exact hct,by rw [List.length_append]; show _ + 1 < _; omega,fun l2 ns hl2 hpm hsr => ?_⟩
          rw [zhT hpm hsr]; have t3 := Same.upd (o := .lst ((srt (r.1 ++ [z])).map V.int)) hl2; have q3 := zab (H := H7) (a := l2) (o := .lst ((srt (r.1 ++ [z])).map V.int)); generalize upd H7 l2 (.lst ((srt (r.1 ++ [z])).map V.int)) = H8 at t3 q3 ⊢; refine ⟨l2,_,rfl,.inl ⟨SqL.of q3,fun p4 hp4 => ?_⟩⟩; have t4 := Same.upd (o := .tup ((srt (r.1 ++ [z])).map V.int)) hp4; have q4 := zab (H := H8) (a := p4) (o := .tup ((srt (r.1 ++ [z])).map V.int)); generalize upd H8 p4 (.tup ((srt (r.1 ++ [z])).map V.int)) = H9 at t4 q4 ⊢; have t59 := ((t1.trans t2).trans t3).trans t4; refine fun ed oe hed De => ?_; have t5 := Same.upd (o := .ext (zaL ed oe)) hed; generalize upd H9 ed (.ext (zaL ed oe)) = H10 at t5 De ⊢; have t510 := t59.trans t5; have hedH : H ed = none := za8 (s45.trans t59) hed; have Df10 := Df5.keep t510; have hel : elAt K H10 (.inl (srt (r.1 ++ [z]))) (.ref p4) := ⟨p4,rfl,SqT.of (t5 _ _ q4)⟩
          have hne : fo ≠ ed := fun e => by
            have h1 := (Df5.keep t59).1; rw [e,hed] at h1; cases h1
          have hne2 : D5 ≠ ed := fun e => by
            have h1 := (hD5.keep t59).1; rw [e,hed] at h1; cases h1
          refine ⟨fo,of4,_,_,_,rfl,rfl,hel,Df10,fun of' Df' => ?_⟩; have De1 := De.updN (u := .ext (zaL fo of')) Df10.1 (Ne.symm hne) (fun _ z => by cases z) fun _ _ z => by cases z
          have hD51 := (hD5.keep t510).updN (u := .ext (zaL fo of')) Df10.1 nDf (fun _ z => by cases z) fun _ _ z => by cases z
          have hy51 := Thing.updE (u := .ext (zaL fo of')) Df10.1 (hy5.keep t510)
          have same1 : ∀ a oa,H a = some oa -> (upd H10 fo (.ext (zaL fo of'))) a = some oa := fun a oa h => by
            rw [zaj (zam h hfo)]; exact t510 _ _ (s45 _ _ h)
          have g10 : (upd H10 fo (.ext (zaL fo of'))) Dg = some (.lst ((zax cs r.1).map V.int)) := by
            have h1 := t510 _ _ (s5 _ _ g4); rw [zaj (za2 h1 Df10.1 fun z => by cases z)]
            exact h1
          generalize upd H10 fo (.ext (zaL fo of')) = H11 at De1 hD51 hy51 same1 g10 Df' ⊢; refine ⟨⟨ed,oe,[],rfl,De1⟩,_,rfl,ed,D5,oe,o5,_,_,_,rfl,rfl,De1,hD51,fun oe' De' => ?_⟩; refine ⟨_,_,rfl,fun a oa h => ?_,?_,?_⟩
          . rw [zaj (zam h hedH)]; exact same1 a oa h
          . rw [zaj (za2 g10 De1.1 fun z => by cases z)]
            exact g10
          . rw [etk,zcO,if_pos (show (stp cs r.2 z).2 = (zah cs z).a from ha),hnil]; exact ⟨of',oe',p4,ed,y5,Df'.updN De1.1 hne (fun _ z => by cases z) (fun _ _ z => by cases z),De',Thing.updE De1.1 hy51⟩
        . refine ⟨_,rfl,D5,o5,_,rfl,hD5,zaE ⟨_,_,rfl,s4.trans s5,s5 _ _ g4,?_⟩⟩; rw [etk,zcO,if_neg (show ¬ (stp cs r.2 z).2 = (zah cs z).a from ha)]; exact L4.keep s5
      . rintro σ H4 ⟨v5,v6,rfl,s4,g4,L4⟩; rw [List.length_map,List.take_length] at L4; exact ⟨_,_,_,rfl,s4,.inr ⟨rfl,L4⟩⟩
    . rintro σ H2 ⟨v4,v5,v6,rfl,s2,hst⟩
      rcases hst with ⟨z,_⟩ | ⟨_,h⟩
      . cases z
      . exact ⟨_,rfl,k H2 fo s2 hfo h⟩
structure Levels (P : Program) (w : World) (K : Fg) (H : Hp) (k : Str) (us : List V) (ls : List (Option Row)) : Prop where
  len : us.length = ls.length
  at_ : ∀ (i : Nat) (v : V),us[i]? = some v -> ∃ d r,v = .ref d /\ ls[i]? = some r /\ LevelAt P w K H k d r
theorem Levels.keep {P : Program} {w : World} {K : Fg} {H H' : Hp} {k : Str} {us : List V} {ls : List (Option Row)} (s : Same H H') (h : Levels P w K H k us ls) : Levels P w K H' k us ls :=
  ⟨h.len,fun i v e => let ⟨d,r,h1,h2,h3⟩ := h.at_ i v e; ⟨d,r,h1,h2,h3.keep s⟩⟩
theorem Levels.updL {P : Program} {w : World} {K : Fg} {H : Hp} {k : Str} {us : List V} {ls : List (Option Row)} {a : Addr} {zs : List V} {u : HO} (ha : H a = some (.lst zs)) (h : Levels P w K H k us ls) : Levels P w K (upd H a u) k us ls :=
  ⟨h.len,fun i v e => let ⟨d,r,h1,h2,h3⟩ := h.at_ i v e; ⟨d,r,h1,h2,h3.updL ha⟩⟩
theorem Levels.snoc {P : Program} {w : World} {K : Fg} {H : Hp} {k : Str} {us : List V} {ls : List (Option Row)} {d : Addr} {r : Option Row} (h : Levels P w K H k us ls) (hd : LevelAt P w K H k d r) : Levels P w K H k (us ++ [.ref d]) (ls ++ [r]) := by
  have hl := h.len; refine ⟨by rw [List.length_append,List.length_append,hl]; rfl,fun i v e => ?_⟩
  by_cases hi : i < us.length
  . rw [List.getElem?_append_left hi] at e; obtain ⟨d',r',q⟩ := h.at_ i v e; exact ⟨d',r',q.1,by rw [List.getElem?_append_left (by omega)]; exact q.2.1,q.2.2⟩
  . rw [List.getElem?_append_right (by omega)] at e
    rw [List.getElem?_append_right (by omega),<- hl]
    cases q : i - us.length with
    | zero =>
      rw [q] at e; exact ⟨d,r,(Option.some.inj e).symm,rfl,hd⟩
    | succ j => rw [q] at e; cases e
def zc3 (ls : List (Option Row)) (i : Nat) : List Row := (ls.reverse.take i).filterMap id
theorem ziV {ls : List (Option Row)} {i : Nat} {r : Option Row} (hi : i < ls.length) (h : ls[ls.length - 1 - i]? = some r) : zc3 ls (i + 1) = zc3 ls i ++ r.toList := by
  unfold zc3; have e : ls.reverse[i]? = some r := by rw [List.getElem?_reverse hi]; exact h
  rw [zbn e,List.filterMap_append]
  cases r <;> rfl
theorem zi9 (L : List Row) : zc3 (L.map some ++ [none]) (L.map some ++ [none]).length = L.reverse := by
  unfold zc3; rw [List.take_of_length_le (by rw [List.length_reverse]; exact Nat.le_refl _),List.reverse_append,List.filterMap_append,<- List.map_reverse]
  show [] ++ (L.reverse.map some).filterMap id = L.reverse; rw [List.nil_append,List.filterMap_map]; exact List.filterMap_some
inductive zjL (P : Program) (w : World) (K : Fg) (vs : List V) (H : Hp) (Q : VK) (E_ : XK) : Prop
  | mk (k : Str) (l : Addr) (xs : List V) (cs : List Cl) : (vs = [.str k,.ref l]) -> ((k = "row" \/ k = "number")) -> (SqL K H l xs) -> (Calls K H k xs cs) -> (xs.length <= 60) -> (zlU cs k) -> (¬ zbe cs [] (t0 k)) -> (∀ (H' : Hp) (D : Addr) (ws : List V) (rs : List Row),Same H H' -> H' D = some (.lst ws) -> Rows K H' k ws rs -> zc2 cs k rs = true -> ziQ cs.length rs -> Q (.ref D) H') -> zjL P w K vs H Q E_
inductive zdy (kd : Str) (l lv : Addr) (H : Hp) (cs : List Cl) (P : Program) (w : World) (K : W.Frag) (m : Nat) (σ' : St) (H7 : Hp) : Prop
  | mk (us : List V) (L : List Row) (rl : Row) : (σ' = [some (.str kd),some (.ref l),some (.ref lv),none,none,none]) -> (Same H H7) -> (H7 lv = some (.lst us)) -> (Chain cs kd (L ++ [rl])) -> (((m = cs.length + 2 - (L ++ [rl]).length /\ Levels P w K H7 kd us ((L ++ [rl]).map some)) \/ (m = 0 /\ Levels P w K H7 kd us ((L ++ [rl]).map some ++ [none]) /\ zcF cs rl = none))) -> zdy kd l lv H cs P w K m σ' H7
inductive zdq (kd : Str) (l lv : Addr) (H : Hp) (cs : List Cl) (L : List Row) (rl : Row) (P : Program) (w : World) (K : W.Frag) (σ' : St) (H8 : Hp) : Prop
  | mk (us' : List V) (L' : List Row) (rl' : Row) : (σ' = [some (.str kd),some (.ref l),some (.ref lv),none,none,none]) -> (Same H H8) -> (H8 lv = some (.lst us')) -> (Chain cs kd (L' ++ [rl'])) -> ((((L' ++ [rl']).length = (L ++ [rl]).length + 1 /\ Levels P w K H8 kd us' ((L' ++ [rl']).map some)) \/ (Levels P w K H8 kd us' ((L' ++ [rl']).map some ++ [none]) /\ zcF cs rl' = none))) -> zdq kd l lv H cs L rl P w K σ' H8
inductive zdv (kd : Str) (l lv dd : Addr) (H : Hp) (us : List V) (P : Program) (w : World) (K : W.Frag) (ls : List (Option Row)) (i : Nat) (σ : St) (H9 : Hp) : Prop
  | mk (v4 v5 ds : _) : (σ = [some (.str kd),some (.ref l),some (.ref lv),some (.ref dd),v4,v5]) -> (Same H H9) -> (H9 lv = some (.lst us)) -> (Levels P w K H9 kd us ls) -> (H9 dd = some (.lst ds)) -> (Rows K H9 kd ds (zc3 ls i)) -> zdv kd l lv dd H us P w K ls i σ H9
inductive zdi (kd : Str) (l lv dd d' : Addr) (H9 : Hp) (j : Nat) (σ : St) (H10 : Hp) : Prop
  | mk (v5 : _) : (σ = [some (.str kd),some (.ref l),some (.ref lv),some (.ref dd),some (.ref d'),v5]) -> (H10 = H9) -> zdi kd l lv dd d' H9 j σ H10
inductive zdm (kd : Str) (l lv dd d' : Addr) (H : Hp) (us : List V) (P : Program) (w : World) (K : W.Frag) (ls : List (Option Row)) (od : Obj) (row : Row) (ga td : Addr) (H9 : Hp) (ds : List V) (i j : Nat) (σ : St) (H10 : Hp) : Prop
  | mk (v5 ds' : _) : (σ = [some (.str kd),some (.ref l),some (.ref lv),some (.ref dd),some (.ref d'),v5]) -> (Same H H10) -> (H10 lv = some (.lst us)) -> (Levels P w K H10 kd us ls) -> (SDict P w K H10 d' od [(.inl row.1,.ref ga,.ref td)]) -> (H10 dd = some (.lst ds')) -> (((j = 0 /\ H10 = H9 /\ ds' = ds) \/ (j = 1 /\ Rows K H10 kd ds' (zc3 ls i ++ [row])))) -> zdm kd l lv dd d' H us P w K ls od row ga td H9 ds i j σ H10
def zf3 (H10) (x : V) (row : Row) (dd) (D : Addr) (i : Nat) (ys : List V) (H11 : Hp) := Same H10 H11 /\ H11 D = some (.lst ys) /\ ys.length = i /\ (i = 1 -> ∃ tp g1,ys = [.ref tp] /\ H11 tp = some (.tup [.ref g1,x]) /\ H11 g1 = some (.lst (row.1.map V.int)) /\ g1 ≠ dd)
theorem zhu (F : Fun K "dead_ends" "dead_ends" zcs f fd) (B : Bl mg) (T : Tp P w K mg st pt r b n) (g_next_level : FnX P w K mg base "next_level" 4 (zja P w K)) (g_start : FnX P w K mg base "start" 2 (zeg r)) : FnOk P w K mg base CX0 5 f fd ["kind","calls"] (zjL P w K) := by
  refine F.okS sc_dead_ends (fun vs H Q E h => ?_) (fun cdv A outer s H vs Q E hr h => ?_)
  . obtain ⟨k,l,xs,cs,rfl,_⟩ := h; rfl
  . obtain ⟨kd,l,xs,cs,rfl,hk,hS,hC,hlen,hTh,hno,k⟩ := h; have hu := zfS hr; have hsz : sizeLine = 16777216 := sizeLine_eq; have hn : xs.length = cs.length := hC.len; have hbe : ∀ c ∈ cs,c.b < c.e := fun c hc => (hC.ok c hc).1
    refine ⟨_,(zez (zoD (i := 2) sc_dead_ends.nd rfl (by first | exact .inl rfl | exact .inr rfl) hu (zaJ zad) (zay g_start zaF hr rfl (zaa (pv 0) zad)) zaY)
    (zez (S1.mk (zfZ PassesOwn.never (znP (zak (zap K) (pv 2) (zlA zi7 zae) (fun _ _ => rfl)) (fun _ => rfl))
    (zaf (zaS (zck K PySem.F.plainAttrs_list PySem.F.slot_list_append PySem.F.type_list_append zb4 (pv 2) (zaa (zay g_next_level zaF hr rfl (zaa (pv 0) (zaa (pv 1) (zaa (zak (zap K) (pv 2) (zlA zi7 zae) (fun _ _ => rfl)) zad)))) zad))))))
    (zez (S1.mk (zar (i := 3) sc_dead_ends.nd rfl (by first | exact .inl rfl | exact .inr rfl) (zaM zad)))
    (zez (S1.mk (zaZ PassesOwn.never rfl (zoR rfl B.reversed_ (zaa (pv 2) zad)) (zaC (i := 4) sc_dead_ends.nd rfl (by first | exact .inl rfl | exact .inr rfl))
    (zaf (zaZ PassesOwn.never rfl (zjS (pv 4)) (zaC (i := 5) sc_dead_ends.nd rfl (by first | exact .inl rfl | exact .inr rfl))
    (zaf (zaS (zck K PySem.F.plainAttrs_list PySem.F.slot_list_extend PySem.F.type_list_extend ze1 (pv 3) (zaa (ze9 (zcd (sc := zag zcs) (N0 := zew) (ns := ["gone"]) (idx := [5]) (by decide +kernel)) rfl (zjS (ziW hu (pv 4) (pv 5) (fun _ _ => rfl))) (fun _ _ _ _ => zcZ) (fun _ _ _ _ => (zaJ (zaa (zaP (zbc K) rfl B.list_ PyProof.Rows.boot_list (zaa (pv 1) zad)) (zaa (pv 0) zad))))) zad))))))))
    (zmV (S1.mk (zao (pv 3)))))))),?_⟩
    refine fun p1 o1 hp1 D1 => ?_; have s1 : Same H (upd H p1 (.ext (zaL p1 o1))) := Same.upd hp1; generalize upd H p1 (.ext (zaL p1 o1)) = H1 at s1 D1 ⊢; refine ⟨nlb rfl,fun e he => ?_⟩; have s2 : Same H1 (upd H1 e (.tup [])) := Same.upd he; have q2 : (upd H1 e (.tup [])) e = some (.tup []) := zab; generalize upd H1 e (.tup []) = H2 at s2 q2 ⊢; refine fun p2 o2 hp2 D2 => ?_; have s3 : Same H2 (upd H2 p2 (.ext (zaL p2 o2))) := Same.upd hp2
    have n12 : p1 ≠ p2 := fun z => by
      have h1 := (D1.keep s2).1; rw [z,hp2] at h1; cases h1
    have np2 : H p2 = none := za8 (s1.trans s2) hp2; generalize upd H2 p2 (.ext (zaL p2 o2)) = H3 at s3 D2 ⊢; refine ⟨_,rfl,?_⟩; dsimp only [zla,List.append_nil,List.cons_append,List.nil_append]; refine zfN T hk fun x0 hx0 => ?_; refine ⟨D2,t0 kd,zdh hx0,fun o2' D2' => ?_⟩; have D13 : SDict P w K (upd H3 p2 (.ext (zaL p2 o2'))) p1 o1 [] := ((D1.keep s2).keep s3).updN D2.1 n12 (fun _ z => by cases z) fun _ _ z => by cases z
    have hx3 : Thing K (upd H3 p2 (.ext (zaL p2 o2'))) kd x0 (t0 kd) := Thing.updE D2.1 hx0
    have q3 : (upd H3 p2 (.ext (zaL p2 o2'))) e = some (.tup []) := by
      have h1 := s3 _ _ q2; rw [zaj (za2 h1 D2.1 fun z => by cases z)]
      exact h1
    have s4 : Same H (upd H3 p2 (.ext (zaL p2 o2'))) := fun a oa h => by
      rw [zaj (zam h np2)]; exact s3 _ _ (s2 _ _ (s1 _ _ h))
    generalize upd H3 p2 (.ext (zaL p2 o2')) = H4 at D2' D13 hx3 q3 s4 ⊢; refine ⟨D13,.inl [],⟨e,rfl,SqT.of q3⟩,fun o1' D1' => ?_⟩; have D25 : SDict P w K (upd H4 p1 (.ext (zaL p1 o1'))) p2 o2' [(t0 kd,x0,.bl true)] := D2'.updN D13.1 (Ne.symm n12) (fun _ z => by cases z) fun _ _ z => by cases z
    have hx5 : Thing K (upd H4 p1 (.ext (zaL p1 o1'))) kd x0 (t0 kd) := Thing.updE D13.1 hx3
    have s5 : Same H (upd H4 p1 (.ext (zaL p1 o1'))) := fun a oa h => by
      rw [zaj (zam h hp1)]; exact s4 _ _ h
    generalize upd H4 p1 (.ext (zaL p1 o1')) = H5 at D1' D25 hx5 s5 ⊢; refine ⟨nlb rfl,fun lv hlv => ?_⟩; have s6 : Same H5 (upd H5 lv (.lst [.ref p1])) := Same.upd hlv; have q6 : (upd H5 lv (.lst [.ref p1])) lv = some (.lst [.ref p1]) := zab; have nlv : H lv = none := za8 s5 hlv; generalize upd H5 lv (.lst [.ref p1]) = H6 at s6 q6 ⊢; have lev0 : LevelAt P w K H6 kd p1 (some ([],t0 kd)) := ⟨o1',o2',e,p2,x0,D1'.keep s6,D25.keep s6,hx5.keep s6⟩
    refine ⟨zdy kd l lv H cs P w K,
      ⟨_,[.ref p1],[],([],t0 kd),rfl,s5.trans s6,q6,Chain.one cs kd,.inl ⟨rfl,⟨rfl,fun i v h => by
        cases i with
        | zero => cases h; exact ⟨p1,some ([],t0 kd),rfl,rfl,lev0⟩
        | succ i => simp at h⟩⟩⟩,?_⟩
    rintro m σ' H7 ⟨us,L,rl,rfl,s7,q7,C,hst⟩
    have hcl : (L ++ [rl]).length <= cs.length + 1 := by
      have h1 := C.len L.length rl (by simp)
      have h2 := (C.at_ rl (by simp)).small.1
      rw [List.length_append,List.length_singleton]; omega
    rcases hst with ⟨rfl,hLv⟩ | ⟨rfl,hLv,hend⟩
    . -- a level that holds something
      have hul : us.length = (L ++ [rl]).length := by rw [hLv.len,List.length_map]
      have hlast : us.getLast? = some (us.getLast (fun z => by rw [z] at hul; simp at hul)) := List.getLast?_eq_getLast _
      obtain ⟨d,rr,ed,hdr,hLd⟩ := hLv.at_ (us.length - 1) _ (by rw [<- List.getLast?_eq_getElem?]; exact hlast)
      rw [ed] at hlast
      have hrr : rr = some rl := by
        rw [hul,List.getElem?_map,show (L ++ [rl]).length - 1 = L.length by simp,List.getElem?_concat_length] at hdr
        exact (Option.some.inj hdr).symm
      subst hrr; obtain ⟨o,o2,ga,td,x,hD,hD2,hTx⟩ := id hLd; refine ⟨_,rfl,_,rfl,lv,us,-1,.ref d,rfl,rfl,SqL.of q7,zfp hlast,d,o,_,rfl,hD,zaR ⟨zdq kd l lv H cs L rl P w K,fun σ' H8 ⟨us',L',rl',h1,h2,h3,h4,h5⟩ => ?_,?_⟩⟩
      . rcases h5 with ⟨h5,h6⟩ | ⟨h5,h6⟩
        . have hcl' : (L' ++ [rl']).length <= cs.length + 1 := by
            have g1 := h4.len L'.length rl' (by simp)
            have g2 := (h4.at_ rl' (by simp)).small.1
            rw [List.length_append,List.length_singleton]; omega
          exact ⟨cs.length + 2 - (L' ++ [rl']).length,by omega,us',L',rl',h1,h2,h3,h4,.inl ⟨rfl,h6⟩⟩
        . exact ⟨0,by omega,us',L',rl',h1,h2,h3,h4,.inr ⟨rfl,h5,h6⟩⟩
      . have hsm := (C.at_ rl (by simp)).small
        refine ⟨_,rfl,.inl ⟨rfl,_,SqL.of q7⟩,_,rfl,_,rfl,_,rfl,_,rfl,lv,us,-1,.ref d,rfl,rfl,SqL.of q7,zfp hlast,kd,l,d,xs,cs,rl,rfl,hk,s7.seq hS,hC.keep s7,hlen,hLd,by omega,by omega,(C.at_ rl (by simp)).thin hTh,fun H8 D8 s8 nD8 hL8 => ?_⟩
        have q8 := s8 _ _ q7; refine ⟨lv,us,_,rfl,rfl,q8,by omega,?_⟩
        have lev := ((hLv.keep s8).snoc hL8); have lev' : Levels P w K (upd H8 lv (.lst (us ++ [.ref D8]))) kd (us ++ [.ref D8]) ((L ++ [rl]).map some ++ [zcF cs rl]) := lev.updL q8
        have s9 : Same H (upd H8 lv (.lst (us ++ [.ref D8]))) := fun a oa h => by
          rw [zaj (zam h nlv)]; exact s8 _ _ (s7 _ _ h)
        cases hnx : zcF cs rl with
        | none =>
          rw [hnx] at lev'; exact ⟨_,L,rl,rfl,s9,zab,C,.inr ⟨lev',hnx⟩⟩
        | some r2 =>
          rw [hnx] at lev'; refine ⟨_,L ++ [rl],r2,rfl,s9,zab,C.snoc hnx,.inl ⟨by rw [List.length_append]; rfl,?_⟩⟩
          rw [List.map_append (l₁ := L ++ [rl])]; exact lev'
    . -- the empty level
      have hul : us.length = (L ++ [rl]).length + 1 := by rw [hLv.len,List.length_append,List.length_map]; rfl
      have hlast : us.getLast? = some (us.getLast (fun z => by rw [z] at hul; simp at hul)) := List.getLast?_eq_getLast _
      obtain ⟨d,rr,ed,hdr,hLd⟩ := hLv.at_ (us.length - 1) _ (by rw [<- List.getLast?_eq_getElem?]; exact hlast)
      rw [ed] at hlast
      have hrr : rr = none := by
        rw [hul,Nat.add_sub_cancel,<- List.length_map (f := some),List.getElem?_concat_length] at hdr; exact (Option.some.inj hdr).symm
      subst hrr; obtain ⟨o,hD⟩ := hLd; refine ⟨_,rfl,_,rfl,lv,us,-1,.ref d,rfl,rfl,SqL.of q7,zfp hlast,d,o,_,rfl,hD,zaE ?_⟩; generalize hls : (L ++ [rl]).map some ++ [none] = ls at hLv; have hlsl : us.length = ls.length := hLv.len; refine ⟨nlb rfl,fun dd hdd => ?_⟩; have s8 : Same H7 (upd H7 dd (.lst [])) := Same.upd hdd; have q8 : (upd H7 dd (.lst [])) dd = some (.lst []) := zab; have ndd : H dd = none := za8 s7 hdd; have nlvd : lv ≠ dd := fun z => by rw [z,hdd] at q7; cases q7
      generalize upd H7 dd (.lst []) = H8 at s8 q8 ⊢
      refine ⟨_,rfl,lv,us,rfl,SqL.of (s8 _ _ q7),znf (K := K) (a := lv) (xs := us) (zdv kd l lv dd H us P w K ls)
        ⟨none,none,[],rfl,s7.trans s8,s8 _ _ q7,hLv.keep s8,q8,⟨rfl,fun i v h => by simp at h⟩⟩ (fun i σ H9 _ ⟨_,_,_,_,_,h,_,_,_⟩ => SqL.of h) ?_ ?_⟩
      . rintro i y σ H9 hi hy ⟨v4,v5,ds,rfl,s9,q9,L9,d9,R9⟩; obtain ⟨d',rr,rfl,hr9,lv9⟩ := L9.at_ _ y hy; rw [hlsl] at hr9 hi; have hsucc := ziV hi hr9
        cases rr with
        | none =>
          obtain ⟨od,hDd⟩ := lv9; refine ⟨_,rfl,d',od,_,rfl,hDd,zhL (kvs := []) (zdi kd l lv dd d' H9) ⟨_,rfl,rfl⟩ (fun j σ H10 _ ⟨_,_,e⟩ => by rw [e]; exact hDd) (fun j p σ H10 hj => by simp at hj) ?_⟩
          rintro σ H10 ⟨v5,rfl,rfl⟩; refine ⟨_,_,ds,rfl,s9,q9,L9,d9,?_⟩; rw [hsucc]; show Rows K H10 kd ds (zc3 ls i ++ []); rw [List.append_nil]; exact R9
        | some row =>
          obtain ⟨od,od2,ga,td,x,hDd,hD2,hTx⟩ := lv9
          have hga : ∀ {H' : Hp},Same H9 H' -> SqT K H' ga (row.1.map V.int) := fun sx => by
            obtain ⟨t,e,h⟩ := hDd.2.2.2.2.1 (.inl row.1,.ref ga,.ref td) (by simp)
            cases e; exact Same.tup sx h
          refine ⟨_,rfl,d',od,_,rfl,hDd,zhL (kvs := [(.inl row.1,.ref ga,.ref td)]) (zdm kd l lv dd d' H us P w K ls od row ga td H9 ds i)
            ⟨_,ds,rfl,s9,q9,L9,hDd,d9,.inl ⟨rfl,rfl,rfl⟩⟩ (fun j σ H10 _ ⟨_,_,_,_,_,_,h,_,_⟩ => h) ?_ ?_⟩
          . rintro j p σ H10 hj ⟨v5,ds',rfl,s10,q10,L10,D10,d10,hjj⟩
            have hj0 : j = 0 := by
              cases j with
              | zero => rfl
              | succ j => simp at hj
            subst hj0; cases hj
            have hjj' : H10 = H9 /\ ds' = ds := by
              rcases hjj with ⟨_,h⟩ | ⟨z,_⟩
              . exact h
              . cases z
            obtain ⟨rfl,rfl⟩ := hjj'; have hel : elAt K H10 (.inl row.1) (.ref ga) := ⟨ga,rfl,hga (Same.refl _)⟩
            refine ⟨_,rfl,.inl ⟨rfl,_,SqL.of d10⟩,_,rfl,_,rfl,d',od,.inl row.1,_,_,rfl,hel,D10,td,od2,_,rfl,hD2,zoA (kvs := [(row.2,x,.bl true)]) (zf3 H10 x row dd)
              (fun D hD => ⟨Same.upd hD,zab,rfl,fun z => by cases z⟩) (fun D i ys H11 h => ⟨h.2.1,h.2.2.1,hD2.keep h.1⟩) ?_ ?_⟩
            . rintro D i p ys H11 R hDn hi2 ⟨s11,hD11,hyl,_⟩ hR
              have hi0 : i = 0 := by
                cases i with
                | zero => rfl
                | succ i => simp at hi2
              subst hi0; cases hi2; have hys : ys = [] := List.length_eq_zero_iff.mp hyl; subst hys; refine ⟨_,rfl,ga,_,rfl,.inr (hga s11),fun g1 hg1 => ?_⟩; have a1 := Same.upd (o := .lst (row.1.map V.int)) hg1; have b1 := zab (H := H11) (a := g1) (o := .lst (row.1.map V.int)); have ng1 : g1 ≠ D := fun z => by rw [z,hD11] at hg1; cases hg1
              have ngd : g1 ≠ dd := fun z => by rw [z,s11 _ _ d10] at hg1; cases hg1
              generalize upd H11 g1 (.lst (row.1.map V.int)) = H12 at a1 b1 ⊢; refine ⟨_,rfl,nlb rfl,fun tp htp => ?_⟩; have a2 := Same.upd (o := .tup [.ref g1,x]) htp; have b2 := zab (H := H12) (a := tp) (o := .tup [.ref g1,x]); have hD12 := a1 _ _ hD11; generalize upd H12 tp (.tup [.ref g1,x]) = H13 at a2 b2 ⊢; have hD13 := a2 _ _ hD12; refine hR _ _ hD13 ⟨fun a oa h => ?_,zab,rfl,fun _ => ⟨tp,g1,rfl,?_,?_,ngd⟩⟩
              . rw [zaj (zam h hDn)]; exact a2 _ _ (a1 _ _ (s11 _ _ h))
              . rw [zaj (za2 b2 hD13 fun z => by cases z)]
                exact b2
              . rw [zaj ng1]; exact a2 _ _ b1
            . rintro D ys H11 hDn ⟨s11,hD11,hyl,hy1⟩; obtain ⟨tp,g1,rfl,htp,hg1,ngd⟩ := hy1 rfl; have d11 := s11 _ _ d10
              have hdl : ds'.length <= 1000 := by
                rw [R9.len]; have h1 : (zc3 ls i).length <= ls.length := Nat.le_trans (List.length_filterMap_le _ _) (by rw [List.length_take,List.length_reverse]; exact Nat.min_le_right _ _)
                have h2 : ls.length = (L ++ [rl]).length + 1 := by rw [<- hls,List.length_append,List.length_map]; rfl
                omega
              refine ⟨dd,D,ds',[.ref tp],rfl,rfl,d11,hD11,by show _ + 1 <= _; omega,?_⟩
              refine ⟨_,ds' ++ [.ref tp],rfl,fun a oa h => ?_,?_,(L10.keep s11).updL d11,(D10.keep s11).updL d11,zab,.inr ⟨rfl,?_⟩⟩
              . rw [zaj (zam h ndd)]; exact s11 _ _ (s10 _ _ h)
              . rw [zaj nlvd]; exact s11 _ _ q10
              . refine Rows.snoc (g := g1) (x := x) (Rows.updD d11 (R9.keep s11)) (SqT.updL d11 (SqT.of htp)) ?_ (Thing.updL d11 (hTx.keep s11)); rw [zaj ngd]; exact hg1
          . rintro σ H10 ⟨v5,ds',rfl,s10,q10,L10,D10,d10,hjj⟩
            rcases hjj with ⟨z,_⟩ | ⟨_,R10⟩
            . cases z
            . refine ⟨_,_,ds',rfl,s10,q10,L10,d10,?_⟩; rw [hsucc]; exact R10
      . rintro σ H9 ⟨v4,v5,ds,rfl,s9,q9,L9,d9,R9⟩; rw [hlsl,<- hls,zi9] at R9; refine ⟨_,rfl,k H9 dd ds _ s9 d9 R9 (ziB C hbe hend hTh hno) ⟨?_,fun r hr => ?_⟩⟩
        . rw [List.length_reverse]; omega
        . have := (C.at_ r (List.mem_reverse.mp hr)).small; exact ⟨by omega,by omega,this.2.2⟩
inductive zhs (K : Fg) (vs : List V) (H : Hp) (Q : VK) (E_ : XK) : Prop
  | mk (k : Str) (x : V) (t : Th) : (vs = [.str k,x]) -> (Thing K H k x t) -> (∀ (H' : Hp) (y : V),Same H H' -> LThing K H' k y t -> Q y H') -> zhs K vs H Q E_
theorem ze3 (F : Fun K "_law_as_drawn" "_law_as_drawn" zbX f fd) (B : Bl mg) : FnOk P w K mg base CX0 1 f fd ["_law_kind","_law_state"] (zhs K) := by
  refine F.ok zeW (fun vs H Q E h => ?_) (fun cdv A outer s H vs Q E hr h => ?_)
  . obtain ⟨k,x,t,rfl,_⟩ := h; rfl
  . obtain ⟨kd,x,t,rfl,hT,k⟩ := h
    refine ⟨_,(zac (zaD (zan zaV (pv 0) zaA (zat _))
    (zaf (zao (zaP (zbc K) rfl B.list_ PyProof.Rows.boot_list (zaa (pv 1) zad)))) zaq)
    (zaf (zao (pv 1)))),?_⟩
    cases hT with
    | @row x xs hR =>
      obtain ⟨ra,rfl,hR⟩ := hR; exact ⟨_,rfl,rfl,_,rfl,zaR ⟨_,rfl,ra,_,rfl,.inr hR,fun p hp => k _ _ (Same.upd hp) (.row zab)⟩⟩
    | @num m => exact ⟨_,rfl,rfl,_,rfl,zaE ⟨_,rfl,k _ _ (Same.refl _) .num⟩⟩
inductive zju (K : Fg) (vs : List V) (H : Hp) (Q : VK) (E_ : XK) : Prop
  | mk (k : Str) (x : V) (t : Th) : (vs = [.str k,x]) -> (LThing K H k x t) -> (∀ (H' : Hp) (y : V),Same H H' -> Thing K H' k y t -> Q y H') -> zju K vs H Q E_
theorem zfh (F : Fun K "_law_as_told" "_law_as_told" zb8 f fd) (B : Bl mg) : FnOk P w K mg base CX0 1 f fd ["_law_kind","_law_state"] (zju K) := by
  refine F.ok zfm (fun vs H Q E h => ?_) (fun cdv A outer s H vs Q E hr h => ?_)
  . obtain ⟨k,x,t,rfl,_⟩ := h; rfl
  . obtain ⟨kd,x,t,rfl,hT,k⟩ := h
    refine ⟨_,(zac (zaD (zan zaV (pv 0) zaA (zat _))
    (zaf (zao (zaP zbq rfl B.tuple_ PyProof.Rows.boot_tuple (zaa (pv 1) zad)))) zaq)
    (zaf (zao (pv 1)))),?_⟩
    cases hT with
    | @row ra xs hR => exact ⟨_,rfl,rfl,_,rfl,zaR ⟨_,rfl,ra,_,rfl,.inl ⟨SqL.of hR,fun p hp => k _ _ (Same.upd hp) (.row ⟨p,rfl,SqT.of zab⟩)⟩⟩⟩
    | @num m => exact ⟨_,rfl,rfl,_,rfl,zaE ⟨_,rfl,k _ _ (Same.refl _) .num⟩⟩
def frB (cs : List Cl) (gs : List Int) (i : Int) : Bool := (zal cs.length gs).all fun j => decide (bOf cs i <= eOf cs j)
theorem zkg (cs : List Cl) (gs : List Int) : zax cs gs = (zal cs.length gs).filter (frB cs gs) := rfl
def zi4 (cs : List Cl) (i : Int) : V -> Bool
  | .int j => decide (eOf cs j < bOf cs i)
  | _ => false
theorem zhH (cs : List Cl) (i : Int) (L : List Int) : (((L.map V.int).filter (zi4 cs i)).map id) = (L.filter fun j => decide (eOf cs j < bOf cs i)).map V.int := by
  rw [List.map_id]
  induction L with
  | nil => rfl
  | cons j r ih =>
    rw [List.map_cons,List.filter_cons,List.filter_cons]; have e : zi4 cs i (V.int j) = decide (eOf cs j < bOf cs i) := rfl; rw [e]
    cases decide (eOf cs j < bOf cs i) with
    | true => rw [if_pos rfl,if_pos rfl,List.map_cons,ih]
    | false => rw [if_neg fnt,if_neg fnt,ih]
theorem zn4 (cs : List Cl) (gs : List Int) (i : Int) : decide (((zal cs.length gs).filter fun j => decide (eOf cs j < bOf cs i)) = []) = frB cs gs i := by
  unfold frB; rw [Bool.eq_iff_iff,decide_eq_true_eq,List.all_eq_true,List.filter_eq_nil_iff]; constructor
  . intro h j hj; have := h j hj; rw [decide_eq_true_eq] at this ⊢; omega
  . intro h j hj; have := h j hj; rw [decide_eq_true_eq] at this ⊢; omega
theorem zmt (n : Nat) (gs : List Int) : (zal n gs).length <= n := by
  have h1 : (zal n gs).length <= (zaz 0 n).length := List.length_filter_le _ _; have h2 : (zaz 0 n).length = n := by simp [zaz]
  omega
inductive zll (P : Program) (w : World) (K : Fg) (vs : List V) (H : Hp) (Q : VK) (E_ : XK) : Prop
  | mk (k : Str) (l g d tr : Addr) (x : V) (xs : List V) (cs : List Cl) (gs : List Int) (t : Th) (ks : List NK) : (vs = [.str k,.ref l,.ref tr,.ref d]) -> ((k = "row" \/ k = "number")) -> (SqL K H l xs) -> (Calls K H k xs cs) -> (SqT K H tr [.ref g,x]) -> (H g = some (.lst (gs.map V.int))) -> (gs.length <= 60) -> (xs.length <= 60) -> (Thing K H k x t) -> (zbo t <= 1000) -> (NDict P w K H d ks) -> (∀ H',Same H H' -> Q (.bl (shB cs gs t ks)) H') -> zll P w K vs H Q E_
inductive zcB (kd : Str) (l tr d D : Addr) (cs : List Cl) (gs : List Int) (H1 : Hp) (t : Th) (ks : List NK) (i : Nat) (σ : St) (H2 : Hp) : Prop
  | mk (v5 v7 v8 v9 v10 : Option V) (m : Int) : (σ = [some (.str kd),some (.ref l),some (.ref tr),some (.ref d),some (.ref D),v5,some (.int m),v7,v8,v9,v10]) -> (m = ((((zal cs.length gs).take i).filter (frB cs gs)).length : Nat)) -> (Same H1 H2) -> (∀ z ∈ ((zal cs.length gs).take i).filter (frB cs gs),okI cs gs t ks z = true) -> zcB kd l tr d D cs gs H1 t ks i σ H2
theorem zfw (F : Fun K "_law_is_end" "_law_is_end" zbv f fd) (B : Bl mg) (g__law_as_drawn : FnX P w K mg base "_law_as_drawn" 1 (zhs K)) (g__law_as_told : FnX P w K mg base "_law_as_told" 1 (zju K)) (g__law_done : FnX P w K mg base "_law_done" 1 (zeN K)) :
    FnOk P w K mg base CX0 2 f fd ["_law_kind","_law_calls","_law_row","_law_known"] (zll P w K) := by
  refine F.ok sc__law_is_end (fun vs H Q E h => ?_) (fun cdv A outer s H vs Q E hr h => ?_)
  . obtain ⟨k,l,g,d,tr,x,xs,cs,gs,t,ks,rfl,_⟩ := h; rfl
  . obtain ⟨kd,l,g,d,tr,x,xs,cs,gs,t,ks,rfl,hk,hS,hC,hTr,hg,hgl,hlen,hTh,hsT,hN,k⟩ := h; have hsz : sizeLine = 16777216 := sizeLine_eq; have hu := zfS hr; have hn : xs.length = cs.length := hC.len
    refine ⟨_,(zac (zb7 (i := 4) (zcd (sc := zag zbv) (N0 := zcf) (ns := ["_law_row"]) (idx := [2]) (by decide +kernel)) rfl sc__law_is_end.nd rfl (by first | exact .inl rfl | exact .inr rfl) (zbl rfl B.range_ (zaa (zas (zau K) rfl B.len_ PySem.boot_len (zaa (pv 1) zad)) zad)) (fun _ _ _ _ => (zcq (zan (zbu K) (pv 0) (zak (zai K) (pv 1) zae (fun _ _ => rfl)) rfl))) (fun _ _ _ _ => (pv 0)) rfl)
    (zac (zar (i := 6) sc__law_is_end.nd rfl (by first | exact .inl rfl | exact .inr rfl) zae)
    (zac (zaZ PassesOwn.never rfl (zaK K (pv 4)) (zaC (i := 5) sc__law_is_end.nd rfl (by first | exact .inl rfl | exact .inr rfl))
    (zaf (zaD (zan (zhk hr.units) (ze9 (zcd (sc := zag zbv) (N0 := zcf) (ns := ["_law_calls","_law_k"]) (idx := [1,5]) (by decide +kernel)) rfl (zaK K (pv 4)) (fun _ _ _ _ => (zcq (zan zj7 (zak (zai K) (zak (zap K) (pv 1) (pv 0) (fun _ _ => rfl)) zae (fun _ _ => rfl)) (zak (zai K) (zak (zap K) (pv 1) (pv 2) (fun _ _ => rfl)) zae (fun _ _ => rfl)) (zat _)))) (fun _ _ _ _ => (pv 0))) (zaM zad) (zat _))
    (zac (zar (i := 6) sc__law_is_end.nd rfl (by first | exact .inl rfl | exact .inr rfl) (zav zbD (pv 6) zae))
    (zac (zar (i := 7) sc__law_is_end.nd rfl (by first | exact .inl rfl | exact .inr rfl) (zay g__law_as_drawn zaF hr rfl (zaa (pv 0) (zaa (zak (zai K) (pv 2) zae (fun _ _ => rfl)) zad))))
    (zac (zci (zay g__law_done zaF hr rfl (zaa (pv 0) (zaa (pv 7) (zaa (zak (zai K) (zak (zap K) (pv 1) (pv 5) (fun _ _ => rfl)) zae (fun _ _ => rfl)) zad)))) (zeG rfl (zaU (zaC (i := 8) sc__law_is_end.nd rfl (by first | exact .inl rfl | exact .inr rfl)) (zaU (zaC (i := 9) sc__law_is_end.nd rfl (by first | exact .inl rfl | exact .inr rfl)) zdF))))
    (zac (zar (i := 10) sc__law_is_end.nd rfl (by first | exact .inl rfl | exact .inr rfl) (zaJ (zaa (zaP zbq rfl B.tuple_ PyProof.Rows.boot_tuple (zaa (zas zeh rfl B.sorted_ PyProof.Rows.boot_sorted (zaa (zav zjd (zak (zai K) (pv 2) zae (fun _ _ => rfl)) (zaM (zaa (pv 5) zad))) zad)) zad)) (zaa (zay g__law_as_told zaF hr rfl (zaa (pv 0) (zaa (pv 8) zad))) zad))))
    (zaf (zaD (PW.pt (zeI (zan zaV (pv 9) (zak (zai K) (zak (zap K) (pv 1) (pv 5) (fun _ _ => rfl)) zae (fun _ _ => rfl)) (zat _)) (zfr (zan (zky hu) (pv 10) (pv 3) rfl))))
    (zaf (zao zaY)) zaq)))))) zaq)))
    (zaf (zao (zbg znT (pv 6) zae (zat _))))))),?_⟩
    refine ⟨_,rfl,l,xs,rfl,.inl hS,(xs.length : Int),rfl,by omega,by omega,zf6 (lo := 0) (n := ((xs.length : Int)).toNat) (fun x => !inV (V.int x) (gs.map V.int)) V.int (by omega) ?_ ?_ ?_⟩
    . intro z _ _ D ys R hD hR; exact ⟨_,rfl,_,rfl,tr,_,0,_,rfl,rfl,Same.tup (Same.upd hD) hTr,at0,g,gs.map V.int,rfl,.inl (SqL.of (Same.upd hD _ _ hg)),rfl,zb2 gs,_,rfl,hR⟩
    . intro z _ _ _ D ys R hD hR; exact ⟨_,rfl,hR⟩
    intro D hD; rw [show ((xs.length : Int)).toNat = cs.length by omega]
    have eL : (zaz 0 cs.length).filter (fun x => !inV (V.int x) (gs.map V.int)) = zal cs.length gs := rfl; rw [eL]; have s1 : Same H (upd H D (.lst ((zal cs.length gs).map V.int))) := Same.upd hD; have q1 : (upd H D (.lst ((zal cs.length gs).map V.int))) D = some (.lst ((zal cs.length gs).map V.int)) := zab; generalize upd H D (.lst ((zal cs.length gs).map V.int)) = H1 at s1 q1 ⊢; have hLl := zmt cs.length gs; refine ⟨_,rfl,D,rfl,⟨_,SqL.of q1⟩,za9 (K := K) (a := D) (xs := (zal cs.length gs).map V.int) (zcB kd l tr d D cs gs H1 t ks) ⟨_,_,_,_,_,_,rfl,rfl,Same.refl _,fun z hz => by simp at hz⟩ (fun i σ H2 _ ⟨_,_,_,_,_,_,_,_,s2,_⟩ => SqL.of (s2 _ _ q1)) ?_ ?_⟩
    . rintro i y σ H2 hi ⟨v5,v7,v8,v9,v10,m,rfl,hm,s2,hok⟩; rw [List.getElem?_map] at hi; obtain ⟨z,hz,rfl⟩ := Option.map_eq_some_iff.mp hi; have hzm := List.mem_of_getElem? hz; have hzz := zcE hzm; have s12 := s1.trans s2; have htk : (zal cs.length gs).take (i + 1) = (zal cs.length gs).take i ++ [z] := zbn hz; obtain ⟨u,hu',⟨tt,qd,rfl,ht,hqd⟩,hokc⟩ := (hC.keep s12).num hzz.1 hzz.2; refine ⟨_,rfl,D,rfl,⟨_,SqL.of (s2 _ _ q1)⟩,zfv (xs := (zal cs.length gs).map V.int) (zi4 cs z) id (SqL.of (s2 _ _ q1)) (by rw [List.length_map]; omega) ?_ ?_ ?_⟩
      . intro x hx D2 ys R hD2 hR; obtain ⟨j,hj,rfl⟩ := List.mem_map.mp hx; have hjj := zcE hj; have s3 := s12.trans (Same.upd (o := .lst ys) hD2); obtain ⟨u2,hu2,⟨t2,q2,rfl,ht2,_⟩,_⟩ := (hC.keep s3).num hjj.1 hjj.2; exact ⟨_,rfl,_,rfl,l,xs,j,_,rfl,rfl,s3.seq hS,hu2,t2,_,1,_,rfl,rfl,ht2,at1,_,rfl,_,rfl,l,xs,z,_,rfl,rfl,s3.seq hS,hu',tt,_,0,_,rfl,rfl,Same.tup (Same.upd hD2) ht,at0,_,_,rfl,rfl,_,rfl,hR⟩
      . intro x hx _ D2 ys R hD2 hR; exact ⟨_,rfl,hR⟩
      intro D2 hD2; rw [zhH]; have t1 := Same.upd (o := .lst (((zal cs.length gs).filter fun j => decide (eOf cs j < bOf cs z)).map V.int)) hD2; have r1 := zab (H := H2) (a := D2) (o := .lst (((zal cs.length gs).filter fun j => decide (eOf cs j < bOf cs z)).map V.int)); generalize upd H2 D2 (.lst (((zal cs.length gs).filter fun j => decide (eOf cs j < bOf cs z)).map V.int)) = H3 at t1 r1 ⊢; refine ⟨nlb rfl,fun e he => ?_⟩; have t2 := Same.upd (o := .lst []) he; have r2 := zab (H := H3) (a := e) (o := .lst []); generalize upd H3 e (.lst []) = H4 at t2 r2 ⊢; refine ⟨_,_,zcu (SqL.of (t2 _ _ r1)),zcu (ns := []) (SqL.of r2),zbS _,zbS [],_,rfl,?_⟩; rw [zcU,zn4]; have s24 := t1.trans t2; have s14 := s2.trans s24; have s04 := s1.trans s14
      cases eF : frB cs gs z with
      | false =>
        refine zaE ⟨_,_,_,_,_,_,rfl,?_,s14,?_⟩
        . rw [hm,htk,List.filter_append]; simp [eF]
        . rw [htk,List.filter_append]
          simpa [eF] using hok
      | true =>
        have hfz : z ∈ zax cs gs := by rw [zkg]; exact List.mem_filter.mpr ⟨hzm,eF⟩
        have hcnt : m + 1 = ((((zal cs.length gs).take (i + 1)).filter (frB cs gs)).length : Nat) := by
          rw [hm,htk,List.filter_append]; simp [eF]
        refine zaR ⟨_,rfl,_,_,rfl,rfl,?_⟩; refine ⟨_,rfl,_,rfl,tr,_,1,_,rfl,rfl,Same.tup s04 hTr,at1,kd,x,t,rfl,hTh.keep s04,fun H5 y5 s5 hy5 => ?_⟩; have s05 := s04.trans s5; have ht5 := Same.tup (s24.trans s5) ht; refine ⟨_,rfl,_,rfl,_,rfl,_,rfl,l,_,_,_,rfl,rfl,s05.seq hS,hu',tt,_,2,_,rfl,rfl,ht5,at2,kd,y5,t,qd,(zah cs z).d.1,(zah cs z).d.2,rfl,hy5,hsT,Same.tup (s24.trans s5) hqd,zb5 hk hokc.2.1,fun H6 p y6 s6 hp hy6 _ => ?_⟩; refine ⟨p,_,rfl,SqT.of hp,rfl,_,_,rfl,_,_,rfl,rfl,?_⟩; have s06 := s05.trans s6; have s26 := (s24.trans s5).trans s6; refine ⟨_,rfl,tr,_,0,_,rfl,rfl,Same.tup s06 hTr,at0,_,rfl,nlb rfl,fun p1 hp1 => ?_⟩; have w1 := Same.upd (o := .lst [.int z]) hp1; refine ⟨g,p1,_,_,rfl,rfl,w1 _ _ (s06 _ _ hg),zab,?_,fun p2 hp2 => ?_⟩
        . rw [List.length_map]; show _ + 1 <= _; omega
        have w2 := Same.upd (o := .lst (gs.map V.int ++ [.int z])) hp2; have x2 := zab (H := upd H6 p1 (.lst [.int z])) (a := p2) (o := .lst (gs.map V.int ++ [.int z])); generalize upd (upd H6 p1 (.lst [.int z])) p2 (.lst (gs.map V.int ++ [.int z])) = H7 at w2 x2 ⊢; have w12 := w1.trans w2; refine ⟨p2,gs ++ [z],rfl,SqL.of (by rw [x2,List.map_append]; rfl),by rw [List.length_append]; show _ + 1 < _; omega,fun p3 ns hp3 hpm hsr => ?_⟩
        rw [zhT hpm hsr]; have w3 := Same.upd (o := .lst ((srt (gs ++ [z])).map V.int)) hp3; have x3 := zab (H := H7) (a := p3) (o := .lst ((srt (gs ++ [z])).map V.int)); generalize upd H7 p3 (.lst ((srt (gs ++ [z])).map V.int)) = H8 at w3 x3 ⊢; refine ⟨p3,_,rfl,.inl ⟨SqL.of x3,fun p4 hp4 => ?_⟩⟩; have w4 := Same.upd (o := .tup ((srt (gs ++ [z])).map V.int)) hp4; have x4 := zab (H := H8) (a := p4) (o := .tup ((srt (gs ++ [z])).map V.int)); generalize upd H8 p4 (.tup ((srt (gs ++ [z])).map V.int)) = H9 at w4 x4 ⊢; have w69 := (w12.trans w3).trans w4; refine ⟨_,rfl,_,rfl,kd,y6,_,rfl,hy6.keep w69,fun H10 y10 s10 hy10 => ?_⟩; refine ⟨nlb rfl,fun p5 hp5 => ?_⟩; have w5 := Same.upd (o := .tup [.ref p4,y10]) hp5; have x5 := zab (H := H10) (a := p5) (o := .tup [.ref p4,y10]); generalize upd H10 p5 (.tup [.ref p4,y10]) = H11 at w5 x5 ⊢; have w611 := (w69.trans s10).trans w5; have s011 := s06.trans w611; have s211 := s26.trans w611; have hkey : KeyAt K H11 (zoK gs z (doT t (zah cs z).d.1 (zah cs z).d.2).1) p5 := ⟨_,SqT.of x5,.cons ⟨p4,rfl,SqT.of (w5 _ _ (s10 _ _ x4))⟩ (.cons (zdh (hy10.keep w5)) .nil)⟩
        have stay : okI cs gs t ks z = true -> ∀ z' ∈ ((zal cs.length gs).take (i + 1)).filter (frB cs gs),okI cs gs t ks z' = true := fun h z' hz' => by
          rw [htk,List.filter_append] at hz'
          rcases List.mem_append.mp hz' with hz' | hz'
          . exact hok z' hz'
          . have : z' = z := List.mem_singleton.mp (List.mem_filter.mp hz').1; rw [this]; exact h
        refine ⟨_,rfl,_,rfl,_,rfl,l,_,_,_,rfl,rfl,s011.seq hS,hu',tt,_,3,_,rfl,rfl,Same.tup s211 ht,at3,?_,_,rfl,?_⟩
        . cases (doT t (zah cs z).d.1 (zah cs z).d.2).2 <;> cases (zah cs z).a <;> rfl
        by_cases e1 : (doT t (zah cs z).d.1 (zah cs z).d.2).2 = (zah cs z).a
        . refine zcI (by rw [zhR]; exact decide_eq_true e1) ⟨_,rfl,_,rfl,p5,d,_,ks,rfl,rfl,hkey,hN.keep s011,_,rfl,?_⟩
          cases e2 : zbZ ks (zoK gs z (doT t (zah cs z).d.1 (zah cs z).d.2).1) with
          | true =>
            exact zaE ⟨_,_,_,_,_,_,rfl,hcnt,s2.trans s211,stay (by unfold okI; rw [e2]; simp)⟩
          | false =>
            refine zaR ?_
            have ef : shB cs gs t ks = false := by
              unfold shB; rw [Bool.and_eq_false_iff]; refine .inl (List.all_eq_false.mpr ⟨z,hfz,?_⟩); unfold okI; rw [decide_eq_true e1,e2]
              decide
            have := k _ s011; rw [ef] at this; exact this
        . refine zda (by rw [zhR,decide_eq_false e1]; decide) (zaE ⟨_,_,_,_,_,_,rfl,hcnt,s2.trans s211,stay ?_⟩)
          unfold okI; rw [decide_eq_false e1]
          rfl
    . rintro σ H2 ⟨v5,v7,v8,v9,v10,m,rfl,hm,s2,hok⟩; rw [List.length_map,List.take_length] at hok hm; have hall : (zax cs gs).all (okI cs gs t ks) = true := List.all_eq_true.mpr hok; refine ⟨_,rfl,_,_,rfl,rfl,?_⟩; have := k _ (s1.trans s2); unfold shB at this; rw [hall,zkg] at this
      have e2 : decide ((0 : Int) < (((zal cs.length gs).filter (frB cs gs)).length : Nat)) = (true && !((zal cs.length gs).filter (frB cs gs)).isEmpty) := by
        cases (zal cs.length gs).filter (frB cs gs) with
        | nil => rfl
        | cons a r =>
          rw [Bool.true_and]; exact decide_eq_true (by rw [List.length_cons]; omega)
      show Q (.bl (decide ((0 : Int) < m))) _; rw [hm,e2]; exact this
theorem znw {K : Fg} {H : Hp} {kd : Str} {u : Addr} (hk : kd = "row" \/ kd = "number") (hu : SqT K H u []) : ∃ x0,atI [V.int 0,.ref u] (if decide (V.str kd = V.str "row") = true then 1 else 0) = some x0 /\ Thing K H kd x0 (t0 kd) := by
  rcases hk with rfl | rfl
  . exact ⟨_,at1,.row ⟨u,rfl,hu⟩⟩
  . exact ⟨_,at0,.num⟩
inductive zfY (K : Fg) (vs : List V) (H : Hp) (Q : VK) (E_ : XK) : Prop
  | mk (k : Str) (l o : Addr) (xs ws : List V) (cs : List Cl) (rs : List Row) : (vs = [.str k,.ref l,.ref o]) -> ((k = "row" \/ k = "number")) -> (SqL K H l xs) -> (Calls K H k xs cs) -> (xs.length <= 60) -> (SqL K H o ws) -> (Rows K H k ws rs) -> (ziQ cs.length rs) -> (∀ H',Same H H' -> Q (.bl (zc2 cs k rs)) H') -> zfY K vs H Q E_
theorem zgy (F : Fun K "_law_shows" "_law_shows" zcX f fd) (B : Bl mg) (g__law_is_end : FnX P w K mg base "_law_is_end" 2 (zll P w K)) : FnOk P w K mg base CX0 3 f fd ["_law_kind","_law_calls","_law_rows"] (zfY K) := by
  refine F.ok sc__law_shows (fun vs H Q E h => ?_) (fun cdv A outer s H vs Q E hr h => ?_)
  . obtain ⟨k,l,o,xs,ws,cs,rs,rfl,_⟩ := h; rfl
  . obtain ⟨kd,l,o,xs,ws,cs,rs,rfl,hk,hS,hC,hlen,hO,hR,⟨hsm,hsz3⟩,k⟩ := h; have hsz : sizeLine = 16777216 := sizeLine_eq; have hu := zfS hr
    refine ⟨_,(zac (zar (i := 3) sc__law_shows.nd rfl (by first | exact .inl rfl | exact .inr rfl) ziO (hs := by kernel_rfl))
    (zac (zaZ PassesOwn.never rfl (zaK K (pv 2)) (zaC (i := 4) sc__law_shows.nd rfl (by first | exact .inl rfl | exact .inr rfl))
    (zac (zaD (zbd (za6 (zay g__law_is_end zaF hr rfl (zaa (pv 0) (zaa (pv 1) (zaa (pv 4) (zaa (pv 3) zad)))))))
    (zaf (zao zaY)) zaq)
    (zaf (zci zaY (zeL (pv 3) (zaJ (zaa (zaP zbq rfl B.tuple_ PyProof.Rows.boot_tuple (zaa (zak (zai K) (pv 4) zae (fun _ _ => rfl)) zad)) (zaa (zak (zai K) (pv 4) zae (fun _ _ => rfl)) zad))) (zmh hu))))))
    (zaf (zao (zfM (zbg (zmR hr.units) (pv 2) (zaM zad) (zat _)) (zd3 (zbg (zhk hr.units) (zak (zap K) (pv 2) (zlA zi7 zae) (fun _ _ => rfl)) (zaJ (zaa (zaM zad) (zaa (zak (zap K) (zaM (zaa zae (zaa (zaJ zad) zad))) (zaP zdB rfl B.int_ PyProof.Rows.boot_int (zaa (zbg zaV (pv 0) zaA (zat _)) zad)) (fun _ _ => rfl)) zad))) (zat _)))))))),?_⟩
    refine fun d H2 hd s2 hN2 => ?_; have hdH : H d = none := hd
    refine ⟨_,rfl,o,rfl,⟨_,s2.seq hO⟩,za9 (K := K) (a := o) (xs := ws) (fun i σ H3 => ∃ v4,σ = [some (.str kd),some (.ref l),some (.ref o),some (.ref d),v4] /\ Same H H3 /\ NDict P w K H3 d (zaW (rs.take i)) ∧
      ∀ (q : Nat) r,q < i -> rs[q]? = some r -> shB cs r.1 r.2 (zaW (rs.take q)) = true) ⟨none,rfl,s2,hN2,fun q r hq => absurd hq (Nat.not_lt_zero _)⟩ (fun i σ H3 _ ⟨_,_,s3,_⟩ => s3.seq hO) ?_ ?_⟩
    . rintro i y σ H3 hi ⟨v4,rfl,s3,hN3,hok⟩; obtain ⟨rr,t,g,x,hrr,rfl,ht,hg,hTh⟩ := (hR.keep s3).at_ i y hi; obtain ⟨a1,a2,a3⟩ := hsz3 rr (List.mem_of_getElem? hrr); have hil : i < rs.length := (List.getElem?_eq_some_iff.mp hrr).1; refine ⟨_,rfl,_,rfl,_,rfl,_,rfl,kd,l,g,d,t,x,xs,cs,rr.1,rr.2,_,rfl,hk,s3.seq hS,hC.keep s3,ht,hg,a1,hlen,hTh,a2,hN3,fun H6 s36 => ⟨_,rfl,?_⟩⟩; have s06 := s3.trans s36
      cases e1 : shB cs rr.1 rr.2 (zaW (rs.take i)) with
      | false =>
        refine zaR ?_; have := k _ s06; unfold zc2 at this; rw [zlT hrr e1] at this; exact this
      | true =>
        refine zaE ?_; refine ⟨_,rfl,_,rfl,t,_,0,_,rfl,rfl,Same.tup s36 ht,at0,g,_,rfl,.inl ⟨SqL.of (s36 _ _ hg),fun p hp => ?_⟩⟩; have t1 := Same.upd (o := .tup (rr.1.map V.int)) hp; have q1 := zab (H := H6) (a := p) (o := .tup (rr.1.map V.int)); generalize upd H6 p (.tup (rr.1.map V.int)) = H7 at t1 q1 ⊢; refine ⟨_,rfl,t,_,1,_,rfl,rfl,Same.tup (s36.trans t1) ht,at1,nlb rfl,fun p2 hp2 => ?_⟩; have t2 := Same.upd (o := .tup [.ref p,x]) hp2; have q2 := zab (H := H7) (a := p2) (o := .tup [.ref p,x]); generalize upd H7 p2 (.tup [.ref p,x]) = H8 at t2 q2 ⊢; have s38 := (s36.trans t1).trans t2; have hkey : KeyAt K H8 (zbG rr) p2 := ⟨_,SqT.of q2,.cons ⟨p,rfl,SqT.of (t2 _ _ q1)⟩ (.cons (zdh (hTh.keep s38)) .nil)⟩; refine ⟨d,p2,_,_,rfl,rfl,hkey,hN3.keep s38,?_,fun φ hN => ?_⟩
        . have h1 := zlS (rs.take i); have h2 : (rs.take i).length <= rs.length := by rw [List.length_take]; exact Nat.min_le_right _ _
          omega
        . refine ⟨_,rfl,fun b ob hb => ?_,?_,fun q r' hq hr' => ?_⟩
          . rw [zaj (zam hb hdH)]; exact s38 _ _ (s3 _ _ hb)
          . rw [zbn hrr,ziy]; exact hN
          . rcases Nat.lt_succ_iff_lt_or_eq.mp hq with hq | rfl
            . exact hok q r' hq hr'
            . rw [hrr] at hr'; rw [<- Option.some.inj hr']; exact e1
    . rintro σ H3 ⟨v4,rfl,s3,hN3,hok⟩; rw [hR.len] at hok; have eA : zhb cs rs = true := zgH fun i r' h => hok i r' (List.getElem?_eq_some_iff.mp h).1 h; refine ⟨_,rfl,nlb rfl,fun e he => ?_⟩; have t1 := Same.upd (o := .lst []) he; have q1 := zab (H := H3) (a := e) (o := .lst []); generalize upd H3 e (.lst []) = H4 at t1 q1 ⊢; have s04 := s3.trans t1; refine ⟨_,_,zjR (s04.seq hO) (hR.keep s04),zjR (rs := []) (vs := []) (k := kd) (SqL.of q1) ⟨rfl,fun i v h => by simp at h⟩,zis rs,zis [],_,rfl,?_⟩
      cases hl : rs.getLast? with
      | none =>
        have hnil : rs = [] := List.getLast?_eq_none_iff.mp hl; have := k _ s04; unfold zc2 at this; rw [eA,hl] at this; subst hnil; exact zaE this
      | some r' =>
        have hne : rs ≠ [] := fun z => by rw [z] at hl; cases hl
        have hvl : ws.length = rs.length := hR.len; have hpos : 0 < rs.length := List.length_pos_iff.mpr hne; have hrl : rs[rs.length - 1]? = some r' := by rw [<- List.getLast?_eq_getElem?]; exact hl
        have hwl : ∃ v,ws[rs.length - 1]? = some v := ⟨ws[rs.length - 1],List.getElem?_eq_getElem (by omega)⟩
        obtain ⟨v,hv⟩ := hwl; obtain ⟨r'',t,g,x,h1,rfl,ht,hg,hTh⟩ := (hR.keep s04).at_ _ v hv; rw [hrl] at h1; cases h1; have hat : atI ws (-1) = some (V.ref t) := zfp (by rw [List.getLast?_eq_getElem?,hvl]; exact hv)
        refine zcI (by cases rs with | nil => exact absurd rfl hne | cons _ _ => rfl) ?_
        refine ⟨_,rfl,_,rfl,o,_,_,_,rfl,rfl,s04.seq hO,hat,nlb rfl,fun e2 he2 => ?_⟩; have t2 := Same.upd (o := .lst []) he2; have q2 := zab (H := H4) (a := e2) (o := .lst []); generalize upd H4 e2 (.lst []) = H5 at t2 q2 ⊢; refine ⟨nlb rfl,fun u hu' => ?_⟩; have t3 := Same.upd (o := .tup []) hu'; have q3 := zab (H := H5) (a := u) (o := .tup []); generalize upd H5 u (.tup []) = H6 at t3 q3 ⊢; refine ⟨nlb rfl,fun e3 he3 => ?_⟩; have t4 := Same.upd (o := .lst [.int 0,.ref u]) he3; have q4 := zab (H := H6) (a := e3) (o := .lst [.int 0,.ref u]); generalize upd H6 e3 (.lst [.int 0,.ref u]) = H7 at t4 q4 ⊢; obtain ⟨x0,hat0,hx0⟩ := znw hk (SqT.of (K := K) (t4 _ _ q3)); refine ⟨_,rfl,rfl,.inr ⟨_,rfl,e3,_,_,_,rfl,rfl,SqL.of q4,hat0,?_⟩⟩; refine ⟨nlb rfl,fun p3 hp3 => ?_⟩; have t5 := Same.upd (o := .tup [.ref e2,x0]) hp3; have q5 := zab (H := H7) (a := p3) (o := .tup [.ref e2,x0]); generalize upd H7 p3 (.tup [.ref e2,x0]) = H8 at t5 q5 ⊢; have t13 := ((t2.trans t3).trans t4).trans t5; refine ⟨_,_,zi6 (r := r') (Same.tup t13 ht) (t13 _ _ hg) (hTh.keep t13),zi6 (r := ([],t0 kd)) (SqT.of q5) (t5 _ _ (t4 _ _ (t3 _ _ q2))) (hx0.keep t5),zjX _,zjX _,?_⟩; rw [zmQ]; have := k _ (s04.trans t13); unfold zc2 at this; rw [eA,hl] at this; have e3 : decide (some r' = some (([],t0 kd) : Row)) = decide (r' = ([],t0 kd)) := by rw [decide_eq_decide]; exact ⟨fun h => Option.some.inj h,fun h => by rw [h]⟩
        rw [e3] at this; exact this
theorem zhw : ∀ wd ∈ (["put","take","look","set","add"] : List Str),Sh wd := by unfold Sh; decide +kernel
inductive zeq (K : Fg) (vs : List V) (H : Hp) (Q : VK) (E_ : XK) : Prop
  | mk (z k : _) : (vs = [.int z,.str k,.str "a"]) -> ((k = "row" \/ k = "number")) -> (∀ H' a d,Same H H' -> zc5 K H' a d.1 d.2 -> zhS k d -> Sh d.1 -> Q (.ref a) H') -> zeq K vs H Q E_
theorem md2 (a : Int) : a % 2 = 0 \/ a % 2 = 1 := by omega
theorem md3 (a : Int) : a % 3 = 0 \/ a % 3 = 1 \/ a % 3 = 2 := by omega
theorem md4 (a : Int) : a % 4 = 0 \/ a % 4 = 1 \/ a % 4 = 2 \/ a % 4 = 3 := by omega
theorem md5 (a : Int) : a % 5 = 0 \/ a % 5 = 1 \/ a % 5 = 2 \/ a % 5 = 3 \/ a % 5 = 4 := by omega
theorem zfe (F : Fun K "_law_deed_of" "_law_deed_of" zca f fd) (B : Bl mg) : FnOk P w K mg base CX0 1 f fd ["_law_cell","_law_kind","_law_thing"] (zeq K) := by
  refine F.ok sc__law_deed_of (fun vs H Q E h => ?_) (fun cdv A outer s H vs Q E hr h => ?_)
  . obtain ⟨z,k,rfl,_⟩ := h; rfl
  . obtain ⟨z,kd,rfl,hk,k⟩ := h
    refine ⟨_,(zac (zar (i := 3) sc__law_deed_of.nd rfl (by first | exact .inl rfl | exact .inr rfl) (zav zaO (pv 0) (zaP zk7 rfl B.int_ PyProof.Rows.boot_int (zaa (zav zje zaA (zav zm0 zaA zae)) zad))))
    (zac (zar (i := 4) sc__law_deed_of.nd rfl (by first | exact .inl rfl | exact .inr rfl) (zaM (zaa (zav zdt (zav zaO (zav zaO (zav za4 (pv 0) zae) zae) zae) zae) (zaa (zav zdt (zav zaO (zav zaO (zav za4 (pv 0) zae) zae) zae) zae) (zaa (pv 3) zad)))))
    (zac (zar (i := 5) sc__law_deed_of.nd rfl (by first | exact .inl rfl | exact .inr rfl) (zak (zap K) (pv 4) (zav zaO (zav zaO (zav za4 (pv 0) zae) zae) zae) (fun _ _ => rfl)))
    (zac (zaD (zan zaV (pv 1) zaA (zat _))
    (zaf (zar (i := 6) sc__law_deed_of.nd rfl (by first | exact .inl rfl | exact .inr rfl) (zak (zap K) (zaM (zaa zaA (zaa zaA (zaa zaA (zaa zaA (zaa zaA zad)))))) (zav zaO (zav zaO (zav za4 (pv 0) zae) zae) zae) (fun _ _ => rfl)))) (zaf (zar (i := 6) sc__law_deed_of.nd rfl (by first | exact .inl rfl | exact .inr rfl) (zak (zap K) (zaM (zaa zaA (zaa zaA (zaa zaA (zaa zaA zad))))) (zav zaO (zav zaO (zav za4 (pv 0) zae) zae) zae) (fun _ _ => rfl)))))
    (zac (zaD (zan (zjc K) (pv 6) (zaM (zaa zaA (zaa zaA zad))) rfl)
    (zaf (zao (zaJ (zaa (pv 6) (zaa (pv 2) zad))))) zaq)
    (zaf (zao (zaJ (zaa (pv 6) (zaa (pv 2) (zaa (pv 5) zad))))))))))),?_⟩
    refine ⟨_,rfl,_,_,rfl,rfl,by decide,by decide,by decide +kernel,by decide +kernel,_,_,rfl,rfl,by decide +kernel,_,(10 ^ 30 : Int),rfl,by decide +kernel,by decide +kernel,_,_,rfl,rfl,(by show (0 : Int) < _; decide),?_⟩
    refine ⟨_,rfl,_,_,rfl,rfl,.inr ⟨by decide,by decide⟩,_,_,rfl,rfl,(by show (0 : Int) < _; first | decide | omega),_,_,rfl,rfl,(by show (0 : Int) < _; first | decide | omega),_,_,rfl,rfl,_,rfl,_,_,rfl,rfl,.inr ⟨by decide,by decide⟩,_,_,rfl,rfl,(by show (0 : Int) < _; first | decide | omega),_,_,rfl,rfl,(by show (0 : Int) < _; first | decide | omega),_,_,rfl,rfl,_,rfl,nlb rfl,fun p hp => ?_⟩
    have s1 : Same H (upd H p (.lst [.int (z * 48271 % 1009 % 4 - 1),.int (z * 48271 % 1009 % 4 - 1),.int (z % 10 ^ 30)])) := Same.upd hp; have hp1 : (upd H p (.lst [.int (z * 48271 % 1009 % 4 - 1),.int (z * 48271 % 1009 % 4 - 1),.int (z % 10 ^ 30)])) p = some (.lst [.int (z * 48271 % 1009 % 4 - 1),.int (z * 48271 % 1009 % 4 - 1),.int (z % 10 ^ 30)]) := zab; generalize upd H p (.lst [.int (z * 48271 % 1009 % 4 - 1),.int (z * 48271 % 1009 % 4 - 1),.int (z % 10 ^ 30)]) = H1 at s1 hp1 ⊢
    obtain ⟨v,hv⟩ : ∃ i : Int,atI [V.int (z * 48271 % 1009 % 4 - 1),.int (z * 48271 % 1009 % 4 - 1),.int (z % 10 ^ 30)] (z * 48271 % 1013 % 3) = some (.int i) := by
      have := md3 (z * 48271 % 1013)
      rcases this with e | e | e <;> rw [e]
      . exact ⟨_,at0⟩
      . exact ⟨_,at1⟩
      . exact ⟨_,at2⟩
    refine ⟨_,rfl,_,rfl,_,_,rfl,rfl,.inr ⟨by decide,by decide⟩,_,_,rfl,rfl,(by show (0 : Int) < _; first | decide | omega),_,_,rfl,rfl,(by show (0 : Int) < _; first | decide | omega),p,_,_,_,rfl,rfl,SqL.of hp1,hv,?_⟩
    have done : ∀ (wd : Str) (H4 : Hp) (dv : Option Int),Same H H4 -> zhS kd (wd,dv) -> Sh wd -> ∀ p5,H4 p5 = none -> Q (.ref p5) (upd H4 p5 (.tup (.str wd :: .str "a" :: (dv.map V.int).toList))) := fun wd H4 dv s4 hG hSh p5 hp5 =>
      k _ p5 (wd,dv) (s4.trans (Same.upd hp5)) (SqT.of zab) hG hSh
    rcases hk with rfl | rfl
    . refine ⟨_,rfl,rfl,_,rfl,zaR ?_⟩; refine ⟨nlb rfl,fun p2 hp2 => ?_⟩; have s2 : Same H1 (upd H1 p2 (.lst [.str "put",.str "put",.str "take",.str "take",.str "look"])) := Same.upd hp2; have hp3 : (upd H1 p2 (.lst [.str "put",.str "put",.str "take",.str "take",.str "look"])) p2 = some (.lst [.str "put",.str "put",.str "take",.str "take",.str "look"]) := zab; generalize upd H1 p2 (.lst [.str "put",.str "put",.str "take",.str "take",.str "look"]) = H2 at s2 hp3 ⊢; have s02 := s1.trans s2; have i5 := md5 (z * 48271 % 1019); refine ⟨_,rfl,_,_,rfl,rfl,.inr ⟨by decide,by decide⟩,_,_,rfl,rfl,(by show (0 : Int) < _; first | decide | omega),_,_,rfl,rfl,(by show (0 : Int) < _; first | decide | omega),?_⟩
      rcases i5 with e | e | e | e | e
      . refine ⟨p2,_,_,.str "put",rfl,rfl,SqL.of hp3,(by show atI _ (z * 48271 % 1019 % 5) = _; rw [e]; exact at0),?_⟩
        refine ⟨_,rfl,nlb rfl,fun p4 hp4 => ⟨p4,_,rfl,.inl (SqL.of zab),rfl,rfl,_,rfl,zaE ?_⟩⟩; exact ⟨_,rfl,_,rfl,_,rfl,nlb rfl,done "put" _ (some v) (s02.trans (Same.upd hp4)) rfl (zhw _ (by decide))⟩
      . refine ⟨p2,_,_,.str "put",rfl,rfl,SqL.of hp3,(by show atI _ (z * 48271 % 1019 % 5) = _; rw [e]; exact at1),?_⟩
        refine ⟨_,rfl,nlb rfl,fun p4 hp4 => ⟨p4,_,rfl,.inl (SqL.of zab),rfl,rfl,_,rfl,zaE ?_⟩⟩; exact ⟨_,rfl,_,rfl,_,rfl,nlb rfl,done "put" _ (some v) (s02.trans (Same.upd hp4)) rfl (zhw _ (by decide))⟩
      . refine ⟨p2,_,_,.str "take",rfl,rfl,SqL.of hp3,(by show atI _ (z * 48271 % 1019 % 5) = _; rw [e]; exact at2),?_⟩
        refine ⟨_,rfl,nlb rfl,fun p4 hp4 => ⟨p4,_,rfl,.inl (SqL.of zab),rfl,rfl,_,rfl,zaR ?_⟩⟩; exact ⟨_,rfl,_,rfl,nlb rfl,done "take" _ none (s02.trans (Same.upd hp4)) rfl (zhw _ (by decide))⟩
      . refine ⟨p2,_,_,.str "take",rfl,rfl,SqL.of hp3,(by show atI _ (z * 48271 % 1019 % 5) = _; rw [e]; exact at3),?_⟩
        refine ⟨_,rfl,nlb rfl,fun p4 hp4 => ⟨p4,_,rfl,.inl (SqL.of zab),rfl,rfl,_,rfl,zaR ?_⟩⟩; exact ⟨_,rfl,_,rfl,nlb rfl,done "take" _ none (s02.trans (Same.upd hp4)) rfl (zhw _ (by decide))⟩
      . refine ⟨p2,_,_,.str "look",rfl,rfl,SqL.of hp3,(by show atI _ (z * 48271 % 1019 % 5) = _; rw [e]; exact zbO (j := 4) rfl),?_⟩
        refine ⟨_,rfl,nlb rfl,fun p4 hp4 => ⟨p4,_,rfl,.inl (SqL.of zab),rfl,rfl,_,rfl,zaR ?_⟩⟩; exact ⟨_,rfl,_,rfl,nlb rfl,done "look" _ none (s02.trans (Same.upd hp4)) rfl (zhw _ (by decide))⟩
    . refine ⟨_,rfl,rfl,_,rfl,zaE ?_⟩; refine ⟨nlb rfl,fun p2 hp2 => ?_⟩; have s2 : Same H1 (upd H1 p2 (.lst [.str "set",.str "add",.str "add",.str "look"])) := Same.upd hp2; have hp3 : (upd H1 p2 (.lst [.str "set",.str "add",.str "add",.str "look"])) p2 = some (.lst [.str "set",.str "add",.str "add",.str "look"]) := zab; generalize upd H1 p2 (.lst [.str "set",.str "add",.str "add",.str "look"]) = H2 at s2 hp3 ⊢; have s02 := s1.trans s2; have i4 := md4 (z * 48271 % 1021); refine ⟨_,rfl,_,_,rfl,rfl,.inr ⟨by decide,by decide⟩,_,_,rfl,rfl,(by show (0 : Int) < _; first | decide | omega),_,_,rfl,rfl,(by show (0 : Int) < _; first | decide | omega),?_⟩
      rcases i4 with e | e | e | e
      . refine ⟨p2,_,_,.str "set",rfl,rfl,SqL.of hp3,(by show atI _ (z * 48271 % 1021 % 4) = _; rw [e]; exact at0),?_⟩
        refine ⟨_,rfl,nlb rfl,fun p4 hp4 => ⟨p4,_,rfl,.inl (SqL.of zab),rfl,rfl,_,rfl,zaE ?_⟩⟩; exact ⟨_,rfl,_,rfl,_,rfl,nlb rfl,done "set" _ (some v) (s02.trans (Same.upd hp4)) rfl (zhw _ (by decide))⟩
      . refine ⟨p2,_,_,.str "add",rfl,rfl,SqL.of hp3,(by show atI _ (z * 48271 % 1021 % 4) = _; rw [e]; exact at1),?_⟩
        refine ⟨_,rfl,nlb rfl,fun p4 hp4 => ⟨p4,_,rfl,.inl (SqL.of zab),rfl,rfl,_,rfl,zaE ?_⟩⟩; exact ⟨_,rfl,_,rfl,_,rfl,nlb rfl,done "add" _ (some v) (s02.trans (Same.upd hp4)) rfl (zhw _ (by decide))⟩
      . refine ⟨p2,_,_,.str "add",rfl,rfl,SqL.of hp3,(by show atI _ (z * 48271 % 1021 % 4) = _; rw [e]; exact at2),?_⟩
        refine ⟨_,rfl,nlb rfl,fun p4 hp4 => ⟨p4,_,rfl,.inl (SqL.of zab),rfl,rfl,_,rfl,zaE ?_⟩⟩; exact ⟨_,rfl,_,rfl,_,rfl,nlb rfl,done "add" _ (some v) (s02.trans (Same.upd hp4)) rfl (zhw _ (by decide))⟩
      . refine ⟨p2,_,_,.str "look",rfl,rfl,SqL.of hp3,(by show atI _ (z * 48271 % 1021 % 4) = _; rw [e]; exact at3),?_⟩
        refine ⟨_,rfl,nlb rfl,fun p4 hp4 => ⟨p4,_,rfl,.inl (SqL.of zab),rfl,rfl,_,rfl,zaR ?_⟩⟩; exact ⟨_,rfl,_,rfl,nlb rfl,done "look" _ none (s02.trans (Same.upd hp4)) rfl (zhw _ (by decide))⟩
inductive zdo (K : Fg) (vs : List V) (H : Hp) (Q : VK) (E_ : XK) : Prop
  | mk (l : Addr) (ns : List Int) (k : Str) (wd : Int) : (vs = [.ref l,.str k,.str "a",.int wd]) -> (SqL K H l (ns.map V.int)) -> (ns.length <= 63) -> ((k = "row" \/ k = "number")) -> (0 < wd) -> (∀ (H' : Hp) (g : Addr) (vs : List V) (cs : List Cl),Same H H' -> H' g = some (.lst vs) -> Calls K H' k vs cs -> vs.length = ns.length -> Q (.ref g) H') -> zdo K vs H Q E_
def zfX  {cdv : Value} {A : Around} {outer : List Env} {s : Shared} {H : Hp} {E : XK} (B : Bl mg) (hr : Room 1 (A.deeper (PyProof.Rows.envOfC "_law_kept" (zag zbz) s.heap.objs.size f cdv))) (g__law_deed_of : FnX P w K mg base "_law_deed_of" 1 (zeq K)) (g__law_done : FnX P w K mg base "_law_done" 1 (zeN K)) : { t : TS // PSs (zcp CX0 P w K mg base zei "_law_kept" (zag zbz) f cdv A outer s H E).nox ((zaI zbz).drop 4) t } := ⟨_,(zac (zaZ PassesOwn.never rfl (zbl rfl B.range_ (zaa (zas (zau K) rfl B.len_ PySem.boot_len (zaa (pv 4) zad)) zad)) (zaC (i := 6) sc__law_kept.nd rfl (by first | exact .inl rfl | exact .inr rfl))
    (zac (zar (i := 13) sc__law_kept.nd rfl (by first | exact .inl rfl | exact .inr rfl) (zav zaO (zav zaO (zav za4 (zav zbD (zak (zap K) (pv 0) (pv 6) (fun _ _ => rfl)) (zav za4 zae (pv 6))) zae) zae) (zav zbD (zas (zau K) rfl B.len_ PySem.boot_len (zaa (pv 12) zad)) zae)))
    (zaf (zaS (zck K PySem.F.plainAttrs_list PySem.F.slot_list_insert PySem.F.type_list_insert zkO (pv 12) (zaa (pv 13) (zaa (zak (zap K) (pv 4) (pv 6) (fun _ _ => rfl)) zad)))))))
    (zaf (zao (pv 12))))⟩
theorem zho (F : Fun K "_law_kept" "_law_kept" zbz f fd) (B : Bl mg) (g__law_deed_of : FnX P w K mg base "_law_deed_of" 1 (zeq K)) (g__law_done : FnX P w K mg base "_law_done" 1 (zeN K)) :
    FnOk P w K mg base CX0 2 f fd ["_law_cells","_law_kind","_law_thing","_law_wide"] (zdo K) := by
  refine F.ok sc__law_kept (fun vs H Q E h => ?_) (fun cdv A outer s H vs Q E hr h => ?_)
  . obtain ⟨l,ns,k,wd,rfl,_⟩ := h; rfl
  . obtain ⟨l,ns,kd,wd,rfl,hS,hlen,hk,hwd,k⟩ := h; have hsz : sizeLine = 16777216 := sizeLine_eq
    refine ⟨_,(zac (zar (i := 4) sc__law_kept.nd rfl (by first | exact .inl rfl | exact .inr rfl) (zaM zad))
    (zac (zar (i := 5) sc__law_kept.nd rfl (by first | exact .inl rfl | exact .inr rfl) (zak (zap K) (zaM (zaa zae (zaa (zaM zad) zad))) (zaP zdB rfl B.int_ PyProof.Rows.boot_int (zaa (zbg zaV (pv 1) zaA (zat _)) zad)) (fun _ _ => rfl)))
    (zac (zaZ PassesOwn.never rfl (zbl rfl B.range_ (zaa (zas (zau K) rfl B.len_ PySem.boot_len (zaa (pv 0) zad)) zad)) (zaC (i := 6) sc__law_kept.nd rfl (by first | exact .inl rfl | exact .inr rfl))
    (zac (zar (i := 7) sc__law_kept.nd rfl (by first | exact .inl rfl | exact .inr rfl) (zav zbD (zak (zap K) (pv 0) (pv 6) (fun _ _ => rfl)) (zav za4 zae (pv 6))))
    (zac (zar (i := 8) sc__law_kept.nd rfl (by first | exact .inl rfl | exact .inr rfl) (zav zdt (zav zdt (zav za4 zae (pv 6)) zae) (zav zaO (zav zaO (zav za4 (pv 7) zae) zae) (pv 3))))
    (zac (zar (i := 9) sc__law_kept.nd rfl (by first | exact .inl rfl | exact .inr rfl) (zav zbD (zav zbD (zav za4 zae (pv 6)) zae) (zav zaO (zav zaO (zav za4 (pv 7) zae) zae) (pv 3))))
    (zac (zar (i := 10) sc__law_kept.nd rfl (by first | exact .inl rfl | exact .inr rfl) (zay g__law_deed_of zaF hr rfl (zaa (pv 7) (zaa (pv 1) (zaa (pv 2) zad)))))
    (zac (zci (zay g__law_done zaF hr rfl (zaa (pv 1) (zaa (pv 5) (zaa (pv 10) zad)))) (zeG rfl (zaU (zaC (i := 5) sc__law_kept.nd rfl (by first | exact .inl rfl | exact .inr rfl)) (zaU (zaC (i := 11) sc__law_kept.nd rfl (by first | exact .inl rfl | exact .inr rfl)) zdF))))
    (zaf (zaS (zck K PySem.F.plainAttrs_list PySem.F.slot_list_append PySem.F.type_list_append zb4 (pv 4) (zaa (zaJ (zaa (pv 8) (zaa (pv 9) (zaa (pv 10) (zaa (pv 11) zad))))) zad))))))))))
    (zac (zar (i := 12) sc__law_kept.nd rfl (by first | exact .inl rfl | exact .inr rfl) (zaM zad))
    (zfX B hr g__law_deed_of g__law_done).2)))),?_⟩
    refine ⟨nlb rfl,fun c hc => ?_⟩; refine ⟨nlb rfl,fun e he => ⟨nlb rfl,fun q hq => ?_⟩⟩; have s1 : Same H (upd (upd (upd H c (.lst [])) e (.lst [])) q (.lst [.int 0,.ref e])) := ((Same.upd hc).trans (Same.upd he)).trans (Same.upd hq); have hc1 : (upd (upd (upd H c (.lst [])) e (.lst [])) q (.lst [.int 0,.ref e])) c = some (.lst []) := Same.upd hq _ _ (Same.upd he _ _ zab); have he1 : (upd (upd (upd H c (.lst [])) e (.lst [])) q (.lst [.int 0,.ref e])) e = some (.lst (([] : List Int).map V.int)) := Same.upd hq _ _ zab; have hq1 : (upd (upd (upd H c (.lst [])) e (.lst [])) q (.lst [.int 0,.ref e])) q = some (.lst [.int 0,.ref e]) := zab; have hec : e ≠ c := fun z => by rw [z,zab] at he; cases he
    generalize upd (upd (upd H c (.lst [])) e (.lst [])) q (.lst [.int 0,.ref e]) = H1 at s1 hc1 he1 hq1 ⊢
    obtain ⟨x0,hx0,hT0,hx0c⟩ : ∃ x0,atI [V.int 0,.ref e] (if decide (V.str kd = V.str "row") = true then 1 else 0) = some x0 /\ LThing K H1 kd x0 (t0 kd) /\ x0 ≠ .ref c := by
      rcases hk with rfl | rfl
      . exact ⟨_,at1,.row he1,fun z => hec (V.ref.inj z)⟩
      . exact ⟨_,at0,.num,fun z => nomatch z⟩
    refine ⟨_,rfl,rfl,.inr ⟨_,rfl,q,_,_,_,rfl,rfl,SqL.of hq1,hx0,?_⟩⟩
    refine ⟨_,rfl,l,_,rfl,.inl (s1.seq hS),(ns.length : Int),by rw [List.length_map],by omega,by omega,zcJ (lo := 0) (fun i σ H2 => ∃ x v6 v7 v8 v9 v10 v11 t vs cs,σ = [some (.ref l),some (.str kd),some (.str "a"),some (.int wd),some (.ref c),some x,v6,v7,v8,v9,v10,v11,none,none] ∧
      LThing K H2 kd x t /\ zbo t <= i /\ x ≠ .ref c /\ Same H H2 /\ H2 c = some (.lst vs) /\ Calls K H2 kd vs cs /\ vs.length = i)
      ⟨x0,none,none,none,none,none,none,t0 kd,[],[],rfl,hT0,by rcases hk with rfl | rfl <;> exact Nat.le_refl _,hx0c,s1,hc1,Calls.nil,rfl⟩ ?_ ?_⟩
    . rintro i σ H2 hi ⟨x,v6,v7,v8,v9,v10,v11,t,vs,cs,rfl,hTh,hsT,hxc,s2,hc2,hC2,hl⟩; obtain ⟨z1,hz1⟩ := zg0 (ns := ns) (j := 0 + (i : Int)) (by omega) (by omega)
      refine ⟨_,rfl,_,rfl,l,_,_,_,rfl,rfl,s2.seq hS,hz1,_,rfl,_,_,rfl,rfl,.inl ⟨by decide,by decide⟩,_,_,rfl,rfl,?_⟩
      refine ⟨_,rfl,_,_,rfl,rfl,.inl ⟨by decide,by decide⟩,_,_,rfl,rfl,_,rfl,_,_,rfl,rfl,.inr ⟨by decide,by decide⟩,_,_,rfl,rfl,(by show (0 : Int) < _; first | decide | omega),_,rfl,_,_,rfl,rfl,hwd,_,_,rfl,rfl,?_⟩
      refine ⟨_,rfl,_,_,rfl,rfl,.inl ⟨by decide,by decide⟩,_,_,rfl,rfl,_,rfl,_,_,rfl,rfl,.inr ⟨by decide,by decide⟩,_,_,rfl,rfl,(by show (0 : Int) < _; first | decide | omega),_,rfl,_,_,rfl,rfl,hwd,_,_,rfl,rfl,?_⟩
      refine ⟨_,rfl,_,rfl,_,rfl,_,kd,rfl,hk,fun H3 da d s3 hDe hG hSh => ?_⟩; refine ⟨_,rfl,_,rfl,_,rfl,kd,x,t,da,d.1,d.2,rfl,hTh.keep s3,by omega,hDe,zb5 hk hG,fun H4 p y s4 hp hy hyn => ?_⟩
      refine ⟨p,_,rfl,SqT.of hp,rfl,_,_,rfl,_,_,rfl,rfl,?_⟩; have s34 := s3.trans s4; have hc4 := s34 _ _ hc2
      have hyc : y ≠ .ref c := fun z => by
        rcases hyn with hy | ⟨b,rfl,hb⟩ | ⟨j,rfl⟩
        . exact hxc (hy ▸ z)
        . rw [V.ref.inj z] at hb; rw [s3 _ _ hc2] at hb; cases hb
        . cases z
      refine ⟨_,rfl,.inl ⟨rfl,_,SqL.of hc4⟩,_,rfl,_,rfl,_,rfl,_,rfl,nlb rfl,fun t2 ht2 => ?_⟩; have s5 := Same.upd (o := .tup [.int (10 * (0 + (i : Int)) - 1 - (z1 + 7 * (0 + (i : Int))) * 48271 % 1031 % wd),.int (10 * (0 + (i : Int)) + 1 + (z1 + 7 * (0 + (i : Int))) * 48271 % 1033 % wd),.ref da,aV (doT t d.1 d.2).2]) ht2; have q5 := zab (H := H4) (a := t2) (o := .tup [.int (10 * (0 + (i : Int)) - 1 - (z1 + 7 * (0 + (i : Int))) * 48271 % 1031 % wd),.int (10 * (0 + (i : Int)) + 1 + (z1 + 7 * (0 + (i : Int))) * 48271 % 1033 % wd),.ref da,aV (doT t d.1 d.2).2]); generalize upd H4 t2 (.tup [.int (10 * (0 + (i : Int)) - 1 - (z1 + 7 * (0 + (i : Int))) * 48271 % 1031 % wd),.int (10 * (0 + (i : Int)) + 1 + (z1 + 7 * (0 + (i : Int))) * 48271 % 1033 % wd),.ref da,aV (doT t d.1 d.2).2]) = H5 at s5 q5 ⊢; have hc5 := s5 _ _ hc4; refine ⟨c,vs,_,rfl,rfl,hc5,by omega,?_⟩
      have hcl : CallT K H5 (.ref t2) ⟨10 * (0 + (i : Int)) - 1 - (z1 + 7 * (0 + (i : Int))) * 48271 % 1031 % wd,10 * (0 + (i : Int)) + 1 + (z1 + 7 * (0 + (i : Int))) * 48271 % 1033 % wd,d,(doT t d.1 d.2).2⟩ := ⟨t2,da,rfl,SqT.of q5,Same.tup (s4.trans s5) hDe⟩
      have hok : Ok kd ⟨10 * (0 + (i : Int)) - 1 - (z1 + 7 * (0 + (i : Int))) * 48271 % 1031 % wd,10 * (0 + (i : Int)) + 1 + (z1 + 7 * (0 + (i : Int))) * 48271 % 1033 % wd,d,(doT t d.1 d.2).2⟩ := by
        refine ⟨?_,hG,hSh⟩; have m1 := Int.emod_nonneg ((z1 + 7 * (0 + (i : Int))) * 48271 % 1031) (Int.ne_of_gt hwd); have m2 := Int.emod_nonneg ((z1 + 7 * (0 + (i : Int))) * 48271 % 1033) (Int.ne_of_gt hwd); show 10 * (0 + (i : Int)) - 1 - (z1 + 7 * (0 + (i : Int))) * 48271 % 1031 % wd < 10 * (0 + (i : Int)) + 1 + (z1 + 7 * (0 + (i : Int))) * 48271 % 1033 % wd; omega
      refine ⟨y,_,_,_,_,_,_,(doT t d.1 d.2).1,vs ++ [.ref t2],cs ++ [_],rfl,(hy.keep s5).updC hyc,?_,hyc,fun b o h => ?_,zab,(Calls.updL hc5 (hC2.keep (s34.trans s5))).snoc (hcl.updL hc5) hok,by rw [List.length_append,hl]; rfl⟩
      . have := zhY t d; omega
      . rw [zaj (zam h hc)]; exact s5 _ _ (s34 _ _ (s2 _ _ h))
    rintro σ H2 ⟨x,v6,v7,v8,v9,v10,v11,t,vs,cs,rfl,_,_,_,s2,hc2,hC2,hl⟩; have hl' : vs.length = ns.length := by omega
    refine ⟨nlb rfl,fun m hm => ?_⟩; have hmH : H m = none := za8 s2 hm; have s3 : Same H2 (upd H2 m (.lst [])) := Same.upd hm; have hm3 : (upd H2 m (.lst [])) m = some (.lst []) := zab; generalize upd H2 m (.lst []) = H3 at s3 hm3 ⊢
    refine ⟨_,rfl,c,_,rfl,.inl (SqL.of (s3 _ _ hc2)),(vs.length : Int),rfl,by omega,by omega,zcJ (lo := 0) (fun i σ H4 => ∃ v6 v13 ws ds,σ = [some (.ref l),some (.str kd),some (.str "a"),some (.int wd),some (.ref c),some x,v6,v7,v8,v9,v10,v11,some (.ref m),v13] ∧
      Same H2 H4 /\ H4 m = some (.lst ws) /\ Calls K H4 kd ws ds /\ ws.length = i) ⟨_,none,[],[],rfl,s3,hm3,Calls.nil,rfl⟩ ?_ ?_⟩
    . rintro i σ H4 hi ⟨v6,v13,ws,ds,rfl,s4,hm4,hC4,hwl⟩; obtain ⟨z1,hz1⟩ := zg0 (ns := ns) (j := 0 + (i : Int)) (by omega) (by omega)
      have s24 := s2.trans s4; refine ⟨_,rfl,_,rfl,l,_,_,_,rfl,rfl,s24.seq hS,hz1,_,rfl,_,_,rfl,rfl,.inl ⟨by decide,by decide⟩,_,_,rfl,rfl,_,_,rfl,rfl,.inr ⟨by decide,by decide⟩,_,_,rfl,rfl,(by show (0 : Int) < _; first | decide | omega),_,rfl,m,_,rfl,.inl (SqL.of hm4),_,_,rfl,rfl,_,_,rfl,rfl,(by show (0 : Int) < _; first | decide | omega),?_⟩
      have m1 := Int.emod_nonneg ((z1 + 7 * (0 + (i : Int))) * 48271 % 1039) (show ((ws.length : Int) + 1) ≠ 0 by omega)
      have m2 := Int.emod_lt_of_pos ((z1 + 7 * (0 + (i : Int))) * 48271 % 1039) (show 0 < ((ws.length : Int) + 1) by omega)
      obtain ⟨u,hu,hcu,hou⟩ := (hC2.keep s4).num (i := 0 + (i : Int)) (by omega) (by rw [<- hC2.len]; omega)
      refine ⟨_,rfl,.inl ⟨rfl,_,SqL.of hm4⟩,_,rfl,_,rfl,_,rfl,c,_,_,_,rfl,rfl,SqL.of (s4 _ _ hc2),hu,m,ws,_,_,rfl,rfl,hm4,m1,by omega,by omega,?_⟩
      refine ⟨_,_,_,_,rfl,fun b o h => ?_,zab,(Calls.updL hm4 hC4).put _ (by omega) (hcu.updL hm4) hou,?_⟩
      . rw [zaj (zam h hm)]; exact s4 _ _ h
      . rw [List.length_append,List.length_cons,List.length_take,List.length_drop]; omega
    . rintro σ H4 ⟨v6,v13,ws,ds,rfl,s4,hm4,hC4,hwl⟩; exact ⟨_,rfl,k H4 m ws ds (s2.trans s4) hm4 hC4 (by omega)⟩
theorem znU (i : Int) (h0 : 0 <= i) (h5 : i < 5) : ∃ a,atI [V.non,.int 0,.int 1,.int 2,.int 100000000000000000000] i = some (aV a) := by
  have : i = 0 \/ i = 1 \/ i = 2 \/ i = 3 \/ i = 4 := by omega
  rcases this with rfl | rfl | rfl | rfl | rfl
  . exact ⟨none,at0⟩
  . exact ⟨some 0,at1⟩
  . exact ⟨some 1,at2⟩
  . exact ⟨some 2,at3⟩
  . exact ⟨some 100000000000000000000,zbO (j := 4) rfl⟩
inductive zbP (K : Fg) (vs : List V) (H : Hp) (Q : VK) (E_ : XK) : Prop
  | mk (l : Addr) (z : Int) (k : Str) (vs' : List V) (cs : List Cl) : (vs = [.ref l,.int z]) -> (SqL K H l vs') -> (Calls K H k vs' cs) -> (vs'.length <= 63) -> (∀ (H' : Hp) (g : Addr) (ws : List V) (ds : List Cl),Same H H' -> H' g = some (.lst ws) -> Calls K H' k ws ds -> ws.length = vs'.length -> Q (.ref g) H') -> zbP K vs H Q E_
theorem zfH (F : Fun K "_law_spoilt" "_law_spoilt" zcA f fd) (B : Bl mg) : FnOk P w K mg base CX0 1 f fd ["_law_calls","_law_cell"] (zbP K) := by
  refine F.ok sc__law_spoilt (fun vs H Q E h => ?_) (fun cdv A outer s H vs Q E hr h => ?_)
  . obtain ⟨l,z,k,vs',cs,rfl,_⟩ := h; rfl
  . obtain ⟨l,z,kd,xs,cs,rfl,hS,hC,hlen,k⟩ := h; have hsz : sizeLine = 16777216 := sizeLine_eq
    refine ⟨_,(zac (zar (i := 2) sc__law_spoilt.nd rfl (by first | exact .inl rfl | exact .inr rfl) (zaP (zbc K) rfl B.list_ PyProof.Rows.boot_list (zaa (pv 0) zad)))
    (zac (zaD (zan (zhk hr.units) (pv 2) (zaM zad) (zat _))
    (zaf (zao (pv 2))) zaq)
    (zac (zar (i := 3) sc__law_spoilt.nd rfl (by first | exact .inl rfl | exact .inr rfl) (zav zaO (zav zaO (zav za4 (pv 1) zae) zae) (zas (zau K) rfl B.len_ PySem.boot_len (zaa (pv 2) zad))))
    (zac (zci (zak (zap K) (pv 2) (pv 3) (fun _ _ => rfl)) (zeG rfl (zaU (zaC (i := 4) sc__law_spoilt.nd rfl (by first | exact .inl rfl | exact .inr rfl)) (zaU (zaC (i := 5) sc__law_spoilt.nd rfl (by first | exact .inl rfl | exact .inr rfl)) (zaU (zaC (i := 6) sc__law_spoilt.nd rfl (by first | exact .inl rfl | exact .inr rfl)) (zaU (zaC (i := 7) sc__law_spoilt.nd rfl (by first | exact .inl rfl | exact .inr rfl)) zdF))))))
    (zac (zar (i := 8) sc__law_spoilt.nd rfl (by first | exact .inl rfl | exact .inr rfl) (zav zaO (zav zaO (zav za4 (pv 1) zae) zae) zae))
    (zac (zdE (zaD (PW.pt (zcN (zan zaV (pv 8) zae (zat _)) (zcw (zan zaV (pv 8) zae (zat _)))))
    (zac (zar (i := 9) sc__law_spoilt.nd rfl (by first | exact .inl rfl | exact .inr rfl) (zaM (zaa zbI (zaa zae (zaa zae (zaa zae (zaa zae zad)))))))
    (zaf (zar (i := 7) sc__law_spoilt.nd rfl (by first | exact .inl rfl | exact .inr rfl) (zak (zap K) (pv 9) (zav zaO (zav zaO (zav za4 (pv 1) zae) zae) zae) (fun _ _ => rfl))))) zaq))
    (zac (zdE (zaD (zan zaV (pv 8) zae (zat _))
    (zac (zar (i := 4) sc__law_spoilt.nd rfl (by first | exact .inl rfl | exact .inr rfl) (zav zbD (pv 4) zae))
    (zaf (zar (i := 5) sc__law_spoilt.nd rfl (by first | exact .inl rfl | exact .inr rfl) (zav zbD (pv 5) zae)))) zaq))
    (zac (zdE (zaD (zan zaV (pv 8) zae (zat _))
    (zac (zar (i := 4) sc__law_spoilt.nd rfl (by first | exact .inl rfl | exact .inr rfl) (zav zdt (pv 4) zae))
    (zaf (zar (i := 5) sc__law_spoilt.nd rfl (by first | exact .inl rfl | exact .inr rfl) (zav zdt (pv 5) zae)))) zaq))
    (zac (zci (zaJ (zaa (pv 4) (zaa (pv 5) (zaa (pv 6) (zaa (pv 7) zad))))) (zeL (pv 2) (pv 3) zf5))
    (zaf (zao (pv 2)))))))))))),?_⟩
    refine ⟨_,rfl,l,xs,rfl,.inl hS,fun m hm => ?_⟩; have s1 : Same H (upd H m (.lst xs)) := Same.upd hm; have hm1 : (upd H m (.lst xs)) m = some (.lst xs) := zab; generalize upd H m (.lst xs) = H1 at s1 hm1 ⊢; refine ⟨_,rfl,nlb rfl,fun e he => ?_⟩; have s2 : Same H1 (upd H1 e (.lst [])) := Same.upd he; have he2 : (upd H1 e (.lst [])) e = some (.lst (([] : List Int).map V.int)) := zab; generalize upd H1 e (.lst []) = H2 at s2 he2 ⊢; have s12 := s1.trans s2; have hC2 := hC.keep s12; have hm2 := s2 _ _ hm1; refine ⟨_,_,zlN (SqL.of hm2) hC2,zcu (SqL.of he2),zgT hC2,zbS [],_,rfl,?_⟩
    match cs,hC,hC2 with
    | [],hC,hC2 => exact zaR ⟨_,rfl,k H2 m xs [] s12 hm2 hC2 rfl⟩
    | c0 :: cr,hC,hC2 =>
      have hpos : 0 < xs.length := by rw [hC.len]; simp
      refine zaE ?_; refine ⟨_,rfl,_,_,rfl,rfl,.inr ⟨by decide,by decide⟩,_,_,rfl,rfl,(by show (0 : Int) < _; first | decide | omega),_,rfl,m,_,rfl,.inl (SqL.of hm2),_,_,rfl,rfl,(by show (0 : Int) < _; first | decide | omega),?_⟩
      have m1 := Int.emod_nonneg (z * 48271 % 1049) (show ((xs.length : Nat) : Int) ≠ 0 by omega)
      have m2 := Int.emod_lt_of_pos (z * 48271 % 1049) (show 0 < ((xs.length : Nat) : Int) by omega)
      dsimp only; generalize z * 48271 % 1049 % ((xs.length : Nat) : Int) = sp at m1 m2 ⊢; obtain ⟨u,hu,⟨t,q,rfl,ht,hq⟩,hok⟩ := hC2.num (i := sp) m1 (by rw [<- hC.len]; exact m2)
      generalize zah (c0 :: cr) sp = c at ht hq hok; refine ⟨_,rfl,_,rfl,m,_,_,_,rfl,rfl,SqL.of hm2,hu,t,_,rfl,ht,rfl,_,_,rfl,_,_,rfl,_,_,rfl,_,_,rfl,rfl,?_⟩; refine ⟨_,rfl,_,_,rfl,rfl,.inr ⟨by decide,by decide⟩,_,_,rfl,rfl,(by show (0 : Int) < _; first | decide | omega),_,_,rfl,rfl,(by show (0 : Int) < _; first | decide | omega),?_⟩
      dsimp only; generalize z * 48271 % 1051 % 5 = wy; refine ⟨fun σ H3 => ∃ a v9,σ = [some (.ref l),some (.int z),some (.ref m),some (.int sp),some (.int c.b),some (.int c.e),some (.ref q),some (aV a),some (.int wy),v9] /\ Same H2 H3,?_,?_⟩
      . refine ⟨_,rfl,rfl,_,rfl,?_⟩
        by_cases h1 : V.int wy = V.int 1
        . refine zcI (decide_eq_true h1) (zaR ?_); refine ⟨nlb rfl,fun p hp => ?_⟩; obtain ⟨a,ha⟩ := znU (z * 48271 % 1061 % 5) (by omega) (by omega)
          exact ⟨_,rfl,_,rfl,_,_,rfl,rfl,.inr ⟨by decide,by decide⟩,_,_,rfl,rfl,(by show (0 : Int) < _; first | decide | omega),_,_,rfl,rfl,(by show (0 : Int) < _; first | decide | omega),p,_,_,_,rfl,rfl,SqL.of zab,ha,a,_,rfl,Same.upd hp⟩
        . refine zda (by rw [decide_eq_false h1]; decide) ⟨_,rfl,rfl,_,rfl,?_⟩
          by_cases h2 : V.int wy = V.int 2
          . refine zcI (decide_eq_true h2) ?_; refine ⟨nlb rfl,fun p hp => ?_⟩; obtain ⟨a,ha⟩ := znU (z * 48271 % 1061 % 5) (by omega) (by omega)
            exact ⟨_,rfl,_,rfl,_,_,rfl,rfl,.inr ⟨by decide,by decide⟩,_,_,rfl,rfl,(by show (0 : Int) < _; first | decide | omega),_,_,rfl,rfl,(by show (0 : Int) < _; first | decide | omega),p,_,_,_,rfl,rfl,SqL.of zab,ha,a,_,rfl,Same.upd hp⟩
          . exact zda (by rw [decide_eq_false h2]; decide) ⟨_,_,rfl,Same.refl _⟩
      rintro σ H3 ⟨a,v9,rfl,s3⟩; refine ⟨fun σ H4 => ∃ b e,σ = [some (.ref l),some (.int z),some (.ref m),some (.int sp),some (.int b),some (.int e),some (.ref q),some (aV a),some (.int wy),v9] /\ b < e /\ H4 = H3,?_,?_⟩
      . refine ⟨_,rfl,rfl,_,rfl,znE (fun _ => ?_) (fun _ => ⟨_,_,rfl,hok.1,rfl⟩)⟩; refine ⟨_,rfl,_,_,rfl,rfl,_,rfl,_,_,rfl,rfl,_,_,rfl,?_,rfl⟩; have := hok.1; omega
      rintro σ H4 ⟨b,e,rfl,hbe,rfl⟩; refine ⟨fun σ H5 => ∃ b e,σ = [some (.ref l),some (.int z),some (.ref m),some (.int sp),some (.int b),some (.int e),some (.ref q),some (aV a),some (.int wy),v9] /\ b < e /\ H5 = H4,?_,?_⟩
      . refine ⟨_,rfl,rfl,_,rfl,znE (fun _ => ?_) (fun _ => ⟨_,_,rfl,hbe,rfl⟩)⟩; refine ⟨_,rfl,_,_,rfl,rfl,_,rfl,_,_,rfl,rfl,_,_,rfl,by omega,rfl⟩
      rintro σ H5 ⟨b,e,rfl,hbe,rfl⟩; refine ⟨_,rfl,_,rfl,_,rfl,_,rfl,nlb rfl,fun t2 ht2 => ?_⟩; have s6 := Same.upd (o := .tup [.int b,.int e,.ref q,aV a]) ht2; have q6 := zab (H := H5) (a := t2) (o := .tup [.int b,.int e,.ref q,aV a]); generalize upd H5 t2 (.tup [.int b,.int e,.ref q,aV a]) = H6 at s6 q6 ⊢; have s26 := s3.trans s6; have hm6 := s26 _ _ hm2
      have hix : ixN xs.length sp = some sp.toNat := by
        unfold ixN; rw [if_pos m1,if_pos m2]
      refine ⟨_,rfl,_,rfl,m,_,_,_,rfl,rfl,hm6,hix,?_⟩; refine ⟨_,rfl,k _ m (xs.set sp.toNat (.ref t2)) ((c0 :: cr).set sp.toNat ⟨b,e,c.d,a⟩) (fun x o h => ?_) zab ?_ (by simp)⟩
      . rw [zaj (zam h hm)]; exact s26 _ _ (s12 _ _ h)
      . refine (Calls.updL hm6 (hC2.keep s26)).set _ ?_ ⟨hbe,hok.2⟩; exact CallT.updL hm6 ⟨t2,q,rfl,SqT.of q6,Same.tup s26 hq⟩
def zee (cs : List Cl) (os : List Int) (i : Nat) : Bool :=
  decide (0 <= os.getD i 0) && decide (os.getD i 0 < cs.length) && !(os.take i).contains (os.getD i 0) &&
    (zaz 0 cs.length).all fun j => (os.take i).contains j || decide (j = os.getD i 0) || !decide ((zah cs j).e < (zah cs (os.getD i 0)).b)
def zgz (cs : List Cl) (os : List Int) : Bool := (List.range os.length).all (zee cs os) && (zaz 0 cs.length).all fun j => os.contains j
theorem zkn (cs : List Cl) (os : List Int) : (zir cs.length os && zg1 cs os) = zgz cs os := by
  rw [Bool.eq_iff_iff,Bool.and_eq_true]; unfold zir zg1 zgz zee; simp only [List.isPerm_iff,List.all_eq_true,List.mem_range,Bool.and_eq_true,Bool.or_eq_true,decide_eq_true_eq,Bool.not_eq_true',List.any_eq_false,decide_eq_false_iff_not,List.contains_iff_mem]; constructor
  . rintro ⟨hp,ht⟩; have hnd : os.Nodup := (hp.nodup_iff).mpr (zb9 _); have hm : ∀ x,x ∈ os ↔ 0 <= x /\ x < cs.length := fun x => hp.mem_iff.trans mem_iota; refine ⟨fun i hi => ?_,fun j hj => hp.mem_iff.mpr hj⟩; rw [zdz hi]; have him := (hm os[i]).mp (List.getElem_mem hi); refine ⟨⟨⟨him.1,him.2⟩,?_⟩,fun j hj => ?_⟩
    . rw [Bool.eq_false_iff]; intro z; obtain ⟨q,h,hq,e⟩ := mem_take.mp (List.contains_iff_mem.mp z); have := zeT hnd e; omega
    . by_cases h1 : j ∈ os.take i
      . exact .inl (.inl h1)
      . by_cases h2 : j = os[i]
        . exact .inl (.inr h2)
        . refine .inr ?_; obtain ⟨q,hq,e⟩ := List.getElem_of_mem (hp.mem_iff.mpr hj)
          have hqi : i < q := by
            rcases Nat.lt_trichotomy q i with z | z | z
            . exact absurd (mem_take.mpr ⟨q,hq,z,e⟩) h1
            . subst z; exact absurd e.symm h2
            . exact z
          have := ht q hq os[i] (mem_take.mpr ⟨i,hi,hqi,rfl⟩); rw [zdz hq,e] at this; exact this
  . rintro ⟨hs,ha⟩
    have hs' : ∀ i (hi : i < os.length),(0 <= os[i] /\ os[i] < cs.length) /\ os[i] ∉ os.take i /\ ∀ j,j ∈ zaz 0 cs.length -> (j ∈ os.take i \/ j = os[i]) \/ ¬ (zah cs j).e < (zah cs os[i]).b := fun i hi => by
      have := hs i hi; rw [zdz hi] at this; obtain ⟨⟨h1,h2⟩,h3⟩ := this; refine ⟨h1,fun z => ?_,h3⟩; rw [List.contains_iff_mem.mpr z] at h2; cases h2
    have hnd : os.Nodup := by
      rw [List.nodup_iff_pairwise_ne,List.pairwise_iff_getElem]; intro i j hi hj hij e; exact (hs' j hj).2.1 (mem_take.mpr ⟨i,hi,hij,e⟩)
    have hmem : ∀ x,x ∈ os ↔ x ∈ zaz 0 cs.length := fun x => by
      constructor
      . intro h; obtain ⟨i,hi,rfl⟩ := List.getElem_of_mem h; exact mem_iota.mpr (hs' i hi).1
      . exact ha x
    refine ⟨zcr hnd (zb9 _) hmem,fun i hi f hf => ?_⟩; rw [zdz hi]; obtain ⟨q,hq,hqi,rfl⟩ := mem_take.mp hf
    rcases (hs' q hq).2.2 os[i] ((hmem _).mp (List.getElem_mem hi)) with (h | h) | h
    . obtain ⟨r,hr,hrq,e⟩ := mem_take.mp h; have := zeT hnd e; omega
    . have := zeT hnd h; omega
    . exact h
def okJ (cs : List Cl) (os : List Int) (i : Nat) (j : Int) : Bool := (os.take i).contains j || decide (j = os.getD i 0) || !decide ((zah cs j).e < (zah cs (os.getD i 0)).b)
theorem zfq {cs : List Cl} {os : List Int} {i : Nat} (h : ¬ 0 <= os.getD i 0 \/ ¬ os.getD i 0 < cs.length \/ (os.take i).contains (os.getD i 0) = true \/ ∃ j ∈ zaz 0 cs.length,okJ cs os i j = false) : zee cs os i = false := by
  unfold zee
  rcases h with h | h | h | ⟨j,hj,h⟩
  . rw [decide_eq_false h]; rfl
  . rw [decide_eq_false h,Bool.and_false]; rfl
  . rw [h]; simp
  . rw [Bool.and_eq_false_iff]; exact .inr (List.all_eq_false.mpr ⟨j,hj,fun z => by unfold okJ at h; rw [h] at z; cases z⟩)
theorem zlX {cs : List Cl} {os : List Int} {i : Nat} (h0 : 0 <= os.getD i 0) (h1 : os.getD i 0 < cs.length) (h2 : (os.take i).contains (os.getD i 0) = false) (h3 : ∀ j ∈ zaz 0 cs.length,okJ cs os i j = true) : zee cs os i = true := by
  unfold zee; rw [decide_eq_true h0,decide_eq_true h1,h2]; exact List.all_eq_true.mpr h3
theorem zoU {cs : List Cl} {os : List Int} {i : Nat} (hi : i < os.length) (h : zee cs os i = false) : zgz cs os = false := by
  unfold zgz; rw [Bool.and_eq_false_iff]; exact .inl (List.all_eq_false.mpr ⟨i,List.mem_range.mpr hi,by rw [h]; decide⟩)
def zcG (n : Nat) (pre : List Int) : List Bool := (zaz 0 n).map fun j => pre.contains j
theorem zb1 (n : Nat) (pre : List Int) : (zcG n pre).length = n := by simp [zcG,zaz]
theorem zb3 {n : Nat} {pre : List Int} {k : Nat} (hk : k < n) : (zcG n pre)[k]? = some (pre.contains (k : Int)) := by
  unfold zcG zaz; rw [List.getElem?_map,List.getElem?_map,List.getElem?_range hk]; simp
theorem ziA {n : Nat} {pre : List Int} {z : Int} (h0 : 0 <= z) (h1 : z < n) : atI ((zcG n pre).map V.bl) z = some (.bl (pre.contains z)) := by
  obtain ⟨k,rfl⟩ : ∃ k : Nat,z = (k : Int) := ⟨z.toNat,by omega⟩
  refine zbO ?_; rw [List.getElem?_map,zb3 (by omega)]
  rfl
theorem zkw {n : Nat} {pre : List Int} {z : Int} (h0 : 0 <= z) (h1 : z < n) : ((zcG n pre).map V.bl).set z.toNat (.bl true) = (zcG n (pre ++ [z])).map V.bl := by
  rw [show V.bl true = V.bl (true) from rfl,<- List.map_set]; congr 1; apply List.ext_getElem?; intro k; rw [List.getElem?_set]
  by_cases hk : k < n
  . rw [zb3 hk,zb3 hk,zb1]
    by_cases e : z.toNat = k
    . rw [if_pos e,if_pos (by omega)]
      have : (pre ++ [z]).contains (k : Int) = true := by
        rw [List.contains_iff_mem]; have : (k : Int) = z := by omega
        simp [this]
      rw [this]
    . rw [if_neg e]
      have : (pre ++ [z]).contains (k : Int) = pre.contains (k : Int) := by
        rw [Bool.eq_iff_iff,List.contains_iff_mem,List.contains_iff_mem,List.mem_append,List.mem_singleton]; constructor
        . rintro (h | h)
          . exact h
          . exact absurd h (by omega)
        . exact .inl
      rw [this]
  . rw [List.getElem?_eq_none (by rw [zb1]; omega),if_neg (by omega),List.getElem?_eq_none (by rw [zb1]; omega)]
theorem ziX {α : Type} (n : Nat) (a : α) : (List.replicate n [a]).flatten = List.replicate n a := by
  induction n with
  | zero => rfl
  | succ k ih => rw [List.replicate_succ,List.flatten_cons,ih,List.replicate_succ]; rfl
theorem zkC (n : Nat) : List.replicate n (V.bl false) = (zcG n []).map V.bl := by
  apply List.ext_getElem?; intro k; rw [List.getElem?_map]
  by_cases hk : k < n
  . rw [zb3 hk,List.getElem?_replicate_of_lt hk]; rfl
  . rw [List.getElem?_eq_none (by simpa using hk),List.getElem?_eq_none (by rw [zb1]; omega)]; rfl
theorem zk4 (n : Nat) (os : List Int) : decide (zcG n os = List.replicate n true) = (zaz 0 n).all fun j => os.contains j := by
  rw [Bool.eq_iff_iff,decide_eq_true_eq,List.all_eq_true]; constructor
  . intro h j hj; obtain ⟨h0,h1⟩ := mem_iota.mp hj; have h2 := zb3 (n := n) (pre := os) (k := j.toNat) (by omega)
    rw [h,List.getElem?_replicate_of_lt (by omega),show ((j.toNat : Nat) : Int) = j by omega] at h2
    exact (Option.some.inj h2).symm
  . intro h; apply List.ext_getElem?; intro k
    by_cases hk : k < n
    . rw [zb3 hk,List.getElem?_replicate_of_lt hk,h (k : Int) (mem_iota.mpr ⟨by omega,by omega⟩)]
    . rw [List.getElem?_eq_none (by rw [zb1]; omega),List.getElem?_eq_none (by simpa using hk)]
inductive zox (K : Fg) (vs : List V) (H : Hp) (Q : VK) (E_ : XK) : Prop
  | mk (l o : Addr) (k : Str) (xs : List V) (cs : List Cl) (os : List Int) : (vs = [.ref l,.ref o]) -> (SqL K H l xs) -> (Calls K H k xs cs) -> (SqL K H o (os.map V.int)) -> (xs.length <= 63) -> (∀ H',Same H H' -> Q (.bl (zgz cs os)) H') -> zox K vs H Q E_
inductive zbQ (l o g : Addr) (H : Hp) (cs : List Cl) (os : List Int) (i : Nat) (σ : St) (H3 : Hp) : Prop
  | mk (v3 v4 : _) : (σ = [some (.ref l),some (.ref o),some (.ref g),v3,v4]) -> (Same H H3) -> (H3 g = some (.lst ((zcG cs.length (os.take i)).map V.bl))) -> (∀ q < i,zee cs os q = true) -> zbQ l o g H cs os i σ H3
def zdn (l) (o) (g) (os : List Int) (i : Nat) (H3) (cs : List Cl) (j : Nat) (σ : St) (H4 : Hp) := ∃ v4,σ = [some (.ref l),some (.ref o),some (.ref g),some (.int (os.getD i 0)),v4] /\ H4 = H3 /\ ∀ q < j,okJ cs os i ((q : Nat) : Int) = true
theorem zd4 (F : Fun K "_law_keeps_time" "_law_keeps_time" zbC f fd) (B : Bl mg) : FnOk P w K mg base CX0 1 f fd ["_law_calls","_law_order"] (zox K) := by
  refine F.ok sc__law_keeps_time (fun vs H Q E h => ?_) (fun cdv A outer s H vs Q E hr h => ?_)
  . obtain ⟨l,o,k,xs,cs,os,rfl,_⟩ := h; rfl
  . obtain ⟨l,o,kd,xs,cs,os,rfl,hS,hC,hO,hlen,k⟩ := h; have hsz : sizeLine = 16777216 := sizeLine_eq; have hcl := hC.len
    refine ⟨_,(zac (zar (i := 2) sc__law_keeps_time.nd rfl (by first | exact .inl rfl | exact .inr rfl) (zav zmL (zaM (zaa zaY zad)) (zas (zau K) rfl B.len_ PySem.boot_len (zaa (pv 0) zad))))
    (zac (zaZ PassesOwn.never rfl (zaK K (pv 1)) (zaC (i := 3) sc__law_keeps_time.nd rfl (by first | exact .inl rfl | exact .inr rfl))
    (zac (zaD (PW.pt (zcN (zan zj7 (pv 3) zae (zat _)) (zcN (zan zn0 (pv 3) (zas (zau K) rfl B.len_ PySem.boot_len (zaa (pv 0) zad)) (zat _)) (zcw (za6 (zak (zap K) (pv 2) (pv 3) (fun _ _ => rfl)))))))
    (zaf (zao zaY)) zaq)
    (zac (zaZ PassesOwn.never rfl (zbl rfl B.range_ (zaa (zas (zau K) rfl B.len_ PySem.boot_len (zaa (pv 0) zad)) zad)) (zaC (i := 4) sc__law_keeps_time.nd rfl (by first | exact .inl rfl | exact .inr rfl))
    (zaf (zaD (PW.pt (zeI (zbd (za6 (zak (zap K) (pv 2) (pv 4) (fun _ _ => rfl)))) (zeI (zan zdx (pv 4) (pv 3) (zat _)) (zfr (zan zj7 (zak (zai K) (zak (zap K) (pv 0) (pv 4) (fun _ _ => rfl)) zae (fun _ _ => rfl)) (zak (zai K) (zak (zap K) (pv 0) (pv 3) (fun _ _ => rfl)) zae (fun _ _ => rfl)) (zat _))))))
    (zaf (zao zaY)) zaq)))
    (zaf (zci zaY (zeL (pv 2) (pv 3) zf5))))))
    (zaf (zao (zbg (zm6 hr.units) (pv 2) (zav zmL (zaM (zaa zaY zad)) (zas (zau K) rfl B.len_ PySem.boot_len (zaa (pv 0) zad))) (zat _)))))),?_⟩
    refine ⟨nlb rfl,fun p hp => ?_⟩; have t1 := Same.upd (o := .lst [.bl false]) hp; refine ⟨_,rfl,l,xs,rfl,.inl (t1.seq hS),p,_,_,rfl,rfl,zab,by omega,by omega,?_,fun g hg => ?_⟩
    . show 1 * _ <= _; omega
    have hgH : H g = none := za8 t1 hg; have t2 := Same.upd (o := .lst (List.replicate ((xs.length : Int)).toNat [V.bl false]).flatten) hg; have q2 := zab (H := upd H p (.lst [.bl false])) (a := g) (o := .lst (List.replicate ((xs.length : Int)).toNat [V.bl false]).flatten); rw [ziX,show ((xs.length : Int)).toNat = cs.length by omega,zkC] at t2 q2 ⊢
    have s2 : Same H _ := t1.trans t2; generalize upd (upd H p (.lst [.bl false])) g (.lst ((zcG cs.length []).map V.bl)) = H2 at q2 s2 ⊢; clear t1 t2
    have hget : ∀ (i : Nat) (y : V),(os.map V.int)[i]? = some y -> i < os.length /\ y = V.int (os.getD i 0) /\ os.take (i + 1) = os.take i ++ [os.getD i 0] := fun i y hi => by
      rw [List.getElem?_map] at hi; obtain ⟨z,hz,rfl⟩ := Option.map_eq_some_iff.mp hi; have e : os.getD i 0 = z := by rw [List.getD_eq_getElem?_getD,hz]; rfl
      exact ⟨(List.getElem?_eq_some_iff.mp hz).1,by rw [e],by rw [e]; exact zbn hz⟩
    refine ⟨_,rfl,o,rfl,⟨_,s2.seq hO⟩,za9 (K := K) (a := o) (xs := os.map V.int) (zbQ l o g H cs os)
      ⟨none,none,rfl,s2,q2,fun q hq => absurd hq (Nat.not_lt_zero _)⟩ (fun i σ H3 _ ⟨_,_,_,s3,_,_⟩ => s3.seq hO) ?_ ?_⟩
    . rintro i y σ H3 hi ⟨v3,v4,rfl,s3,hg3,hok⟩; obtain ⟨hil,rfl,htk⟩ := hget i y hi
      have no : zee cs os i = false -> Q (.bl false) H3 := fun h => by
        have := k _ s3; rw [zoU hil h] at this; exact this
      refine ⟨_,rfl,_,_,rfl,rfl,_,rfl,?_⟩
      by_cases h1 : os.getD i 0 < 0
      . exact zcI (decide_eq_true h1) (zaR (no (zfq (.inl (by omega)))))
      refine zda (by rw [decide_eq_false h1]; decide) ⟨_,rfl,_,rfl,l,_,rfl,.inl (s3.seq hS),_,_,rfl,rfl,_,rfl,?_⟩
      by_cases h2 : (((xs.length : Nat) : Int)) <= os.getD i 0
      . exact zcI (decide_eq_true h2) (zaR (no (zfq (.inr (.inl (by omega))))))
      have h0 : 0 <= os.getD i 0 := by omega
      have hlt : os.getD i 0 < (cs.length : Int) := by omega
      refine zda (by rw [decide_eq_false h2]; decide) ⟨_,rfl,_,rfl,g,_,_,_,rfl,rfl,SqL.of hg3,ziA h0 hlt,_,rfl,?_⟩
      cases h3 : (os.take i).contains (os.getD i 0) with
      | true => exact zaR (no (zfq (.inr (.inr (.inl h3)))))
      | false =>
      refine zaE ?_
      refine ⟨_,rfl,l,_,rfl,.inl (s3.seq hS),((xs.length : Nat) : Int),rfl,by omega,by omega,zcJ (lo := 0) (zdn l o g os i H3 cs)
        ⟨_,rfl,rfl,fun q hq => absurd hq (Nat.not_lt_zero _)⟩ ?_ ?_⟩
      . rintro j σ H4 hj ⟨v4,rfl,rfl,hoj⟩; have hjl : (0 + (j : Int)) < (cs.length : Int) := by omega
        have hj0 : (0 : Int) <= 0 + (j : Int) := by omega
        have hjm : (0 + (j : Int)) ∈ zaz 0 cs.length := mem_iota.mpr ⟨hj0,hjl⟩
        have stay : okJ cs os i (0 + (j : Int)) = true -> ∃ v4,[some (V.ref l),some (.ref o),some (.ref g),some (.int (os.getD i 0)),some (.int (0 + (j : Int)))] = [some (.ref l),some (.ref o),some (.ref g),some (.int (os.getD i 0)),v4] /\ H4 = H4 /\ ∀ q < j + 1,okJ cs os i ((q : Nat) : Int) = true := fun h => by
          refine ⟨_,rfl,rfl,fun q hq => ?_⟩
          rcases Nat.lt_succ_iff_lt_or_eq.mp hq with hq | rfl
          . exact hoj q hq
          . rw [show ((q : Nat) : Int) = 0 + (q : Int) by omega]; exact h
        refine ⟨_,rfl,_,rfl,g,_,_,_,rfl,rfl,SqL.of hg3,ziA hj0 hjl,_,rfl,?_⟩
        cases e1 : (os.take i).contains (0 + (j : Int)) with
        | true => exact zaE (zaE (stay (by unfold okJ; rw [e1]; rfl)))
        | false =>
        refine zaR ⟨_,rfl,_,rfl,rfl,_,rfl,?_⟩
        by_cases e2 : (0 + (j : Int)) = os.getD i 0
        . refine zda (by rw [decide_eq_true (congrArg V.int e2)]; decide) (zaE (stay ?_))
          unfold okJ; rw [decide_eq_true e2]; simp
        refine zcI (by rw [decide_eq_false (fun z => e2 (V.int.inj z))]; rfl) ?_
        obtain ⟨u,hu,⟨t,q,rfl,ht,_⟩,_⟩ := (hC.keep s3).num (i := 0 + (j : Int)) hj0 hjl; obtain ⟨u',hu',⟨t',q',rfl,ht',_⟩,_⟩ := (hC.keep s3).num h0 hlt; refine ⟨_,rfl,_,rfl,l,_,_,_,rfl,rfl,s3.seq hS,hu,t,_,1,_,rfl,rfl,ht,at1,_,rfl,_,rfl,l,_,_,_,rfl,rfl,s3.seq hS,hu',t',_,0,_,rfl,rfl,ht',at0,_,_,rfl,rfl,_,rfl,?_⟩
        by_cases e3 : (zah cs (0 + (j : Int))).e < (zah cs (os.getD i 0)).b
        . refine zcI (decide_eq_true e3) (no (zfq (.inr (.inr (.inr ⟨_,hjm,?_⟩))))); unfold okJ; rw [e1,decide_eq_false e2,decide_eq_true e3]
          rfl
        . refine zda (by rw [decide_eq_false e3]; decide) (stay ?_)
          unfold okJ; rw [decide_eq_false e3]; simp
      . rintro σ H4 ⟨v4,rfl,rfl,hoj⟩
        have i1 : ixN ((zcG cs.length (os.take i)).map V.bl).length (os.getD i 0) = some (os.getD i 0).toNat := by
          unfold ixN; rw [if_pos h0,if_pos (by rw [List.length_map,zb1]; exact hlt)]
        refine ⟨_,rfl,_,rfl,g,_,_,_,rfl,rfl,hg3,i1,?_⟩; refine ⟨_,_,rfl,fun b ob h => ?_,?_,fun q hq => ?_⟩
        . rw [zaj (zam h hgH)]; exact s3 _ _ h
        . rw [zab,htk,zkw h0 hlt]
        . rcases Nat.lt_succ_iff_lt_or_eq.mp hq with hq | rfl
          . exact hok q hq
          . refine zlX h0 hlt h3 fun j hj => ?_; obtain ⟨a1,a2⟩ := mem_iota.mp hj; have := hoj j.toNat (by omega)
            rw [show ((j.toNat : Nat) : Int) = j by omega] at this
            exact this
    . rintro σ H3 ⟨v3,v4,rfl,s3,hg3,hok⟩; rw [List.length_map] at hok hg3; rw [List.take_length] at hg3; refine ⟨_,rfl,nlb rfl,fun p hp => ?_⟩; have t1 := Same.upd (o := .lst [.bl true]) hp; refine ⟨_,rfl,l,xs,rfl,.inl ((s3.trans t1).seq hS),p,_,_,rfl,rfl,zab,by omega,by omega,?_,fun q hq => ?_⟩
      . show 1 * _ <= _; omega
      have t2 := Same.upd (o := .lst (List.replicate ((xs.length : Int)).toNat [V.bl true]).flatten) hq; refine ⟨g,q,zcG cs.length os,List.replicate cs.length true,rfl,rfl,SqL.of (t2 _ _ (t1 _ _ hg3)),SqL.of ?_,?_⟩
      . rw [zab,ziX,show ((xs.length : Int)).toNat = cs.length by omega,List.map_replicate]
      . rw [zk4]; have := k _ ((s3.trans t1).trans t2); unfold zgz at this; rw [List.all_eq_true.mpr fun i hi => hok i (List.mem_range.mp hi)] at this; exact this
inductive zb0 (K : Fg) (vs : List V) (H : Hp) (Q : VK) (E_ : XK) : Prop
  | mk (k : Str) (l o : Addr) (xs : List V) (cs : List Cl) (os : List Int) : (vs = [.str k,.ref l,.ref o]) -> ((k = "row" \/ k = "number")) -> (SqL K H l xs) -> (Calls K H k xs cs) -> (SqL K H o (os.map V.int)) -> (xs.length <= 63) -> (os.length < 64) -> (∀ H',Same H H' -> Q (.bl (zgz cs os && zdU k cs os)) H') -> zb0 K vs H Q E_
theorem zgC (F : Fun K "_law_holds" "_law_holds" zcY f fd) (B : Bl mg) (g__law_done : FnX P w K mg base "_law_done" 1 (zeN K)) (g__law_keeps_time : FnX P w K mg base "_law_keeps_time" 1 (zox K)) :
    FnOk P w K mg base CX0 2 f fd ["_law_kind","_law_calls","_law_order"] (zb0 K) := by
  refine F.ok sc__law_holds (fun vs H Q E h => ?_) (fun cdv A outer s H vs Q E hr h => ?_)
  . obtain ⟨k,l,o,xs,cs,os,rfl,_⟩ := h; rfl
  . obtain ⟨kd,l,o,xs,cs,os,rfl,hk,hS,hC,hO,hlen,h64,k⟩ := h
    refine ⟨_,(zac (zaD (zbd (za6 (zay g__law_keeps_time zaF hr rfl (zaa (pv 1) (zaa (pv 2) zad)))))
    (zaf (zao zaY)) zaq)
    (zac (zar (i := 3) sc__law_holds.nd rfl (by first | exact .inl rfl | exact .inr rfl) (zak (zap K) (zaM (zaa zae (zaa (zaM zad) zad))) (zaP zdB rfl B.int_ PyProof.Rows.boot_int (zaa (zbg zaV (pv 0) zaA (zat _)) zad)) (fun _ _ => rfl)))
    (zac (zaZ PassesOwn.never rfl (zaK K (pv 2)) (zaC (i := 4) sc__law_holds.nd rfl (by first | exact .inl rfl | exact .inr rfl))
    (zac (zci (zay g__law_done zaF hr rfl (zaa (pv 0) (zaa (pv 3) (zaa (zak (zai K) (zak (zap K) (pv 1) (pv 4) (fun _ _ => rfl)) zae (fun _ _ => rfl)) zad)))) (zeG rfl (zaU (zaC (i := 3) sc__law_holds.nd rfl (by first | exact .inl rfl | exact .inr rfl)) (zaU (zaC (i := 5) sc__law_holds.nd rfl (by first | exact .inl rfl | exact .inr rfl)) zdF))))
    (zaf (zaD (PW.pt (zcN (zan zdx (zbg zhP (pv 5) zbI (zat _)) (zbg zhP (zak (zai K) (zak (zap K) (pv 1) (pv 4) (fun _ _ => rfl)) zae (fun _ _ => rfl)) zbI (zat _)) (zat _)) (zcw (zan zdx (pv 5) (zak (zai K) (zak (zap K) (pv 1) (pv 4) (fun _ _ => rfl)) zae (fun _ _ => rfl)) (zat _)))))
    (zaf (zao zaY)) zaq))))
    (zaf (zao zaY))))),?_⟩
    refine ⟨_,rfl,_,rfl,l,o,kd,xs,cs,os,rfl,hS,hC,hO,hlen,fun H1 s1 => ⟨_,rfl,?_⟩⟩
    cases eT : zgz cs os with
    | false =>
      have := k _ s1; rw [eT] at this; exact zaR this
    | true =>
    refine zaE ?_
    have hin : ∀ i : Int,i ∈ os -> 0 <= i /\ i < cs.length := by
      have e := zkn cs os; rw [eT,Bool.and_eq_true] at e; exact znm e.1
    refine ⟨nlb rfl,fun e he => ⟨nlb rfl,fun q hq => ?_⟩⟩; have s2 : Same H1 (upd (upd H1 e (.lst [])) q (.lst [.int 0,.ref e])) := (Same.upd he).trans (Same.upd hq); have he2 : (upd (upd H1 e (.lst [])) q (.lst [.int 0,.ref e])) e = some (.lst (([] : List Int).map V.int)) := Same.upd hq _ _ zab; have hq2 : (upd (upd H1 e (.lst [])) q (.lst [.int 0,.ref e])) q = some (.lst [.int 0,.ref e]) := zab; generalize upd (upd H1 e (.lst [])) q (.lst [.int 0,.ref e]) = H2 at s2 he2 hq2 ⊢
    obtain ⟨x0,hx0,hT0⟩ : ∃ x0,atI [V.int 0,.ref e] (if decide (V.str kd = V.str "row") = true then 1 else 0) = some x0 /\ LThing K H2 kd x0 (t0 kd) := by
      rcases hk with rfl | rfl
      . exact ⟨_,at1,.row he2⟩
      . exact ⟨_,at0,.num⟩
    refine ⟨_,rfl,rfl,.inr ⟨_,rfl,q,_,_,_,rfl,rfl,SqL.of hq2,hx0,?_⟩⟩; have s12 := s1.trans s2
    have hget : ∀ (i : Nat) (y : V),(os.map V.int)[i]? = some y -> ∃ z,os[i]? = some z /\ y = V.int z := fun i y hi => by
      rw [List.getElem?_map] at hi; obtain ⟨z,hz,rfl⟩ := Option.map_eq_some_iff.mp hi; exact ⟨z,hz,rfl⟩
    refine ⟨_,rfl,o,rfl,⟨_,s12.seq hO⟩,za9 (K := K) (a := o) (xs := os.map V.int) (fun i σ H3 => ∃ x v4 v5,σ = [some (.str kd),some (.ref l),some (.ref o),some x,v4,v5] /\ LThing K H3 kd x (stT (t0 kd) ((os.map fun i => (zah cs i).d).take i)) /\ Same H H3 ∧
      ∀ (q : Nat) z,q < i -> os[q]? = some z -> (zdb (t0 kd) (os.map fun i => (zah cs i).d))[q]? = some (zah cs z).a) ⟨x0,none,none,rfl,hT0,s12,fun q z hq => absurd hq (Nat.not_lt_zero _)⟩ (fun i σ H3 _ ⟨_,_,_,_,_,s3,_⟩ => s3.seq hO) ?_ ?_⟩
    . rintro i y σ H3 hi ⟨x,v4,v5,rfl,hTh,s3,hok⟩; obtain ⟨z,hz,rfl⟩ := hget i y hi; have hzz := hin z (List.mem_of_getElem? hz); have hd : (os.map fun i => (zah cs i).d)[i]? = some (zah cs z).d := by rw [List.getElem?_map,hz]; rfl
      obtain ⟨u,hu,⟨t,qd,rfl,ht,hqd⟩,hokc⟩ := (hC.keep s3).num hzz.1 hzz.2; have hil : i < os.length := (List.getElem?_eq_some_iff.mp hz).1
      have hsz2 : zbo (stT (t0 kd) ((os.map fun i => (zah cs i).d).take i)) <= 1000 := by
        have h1 := zhU ((os.map fun i => (zah cs i).d).take i) (t0 kd); have h2 : zbo (t0 kd) = 0 := by rcases hk with rfl | rfl <;> rfl
        have h3 : ((os.map fun i => (zah cs i).d).take i).length <= i := by rw [List.length_take]; exact Nat.min_le_left _ _
        omega
      refine ⟨_,rfl,_,rfl,_,rfl,_,rfl,l,_,_,_,rfl,rfl,s3.seq hS,hu,t,_,2,_,rfl,rfl,ht,at2,kd,x,_,qd,(zah cs z).d.1,(zah cs z).d.2,rfl,hTh,hsz2,hqd,zb5 hk hokc.2.1,fun H4 p y s4 hp hy _ => ?_⟩; refine ⟨p,_,rfl,SqT.of hp,rfl,_,_,rfl,_,_,rfl,rfl,?_⟩; have s34 := s3.trans s4; have hu4 : SqL K H4 l xs := s34.seq hS; have ht4 := Same.tup s4 ht; have han := zkk (os.map fun i => (zah cs i).d) (t0 kd) i _ hd
      have hy' : LThing K H4 kd y (stT (t0 kd) ((os.map fun i => (zah cs i).d).take (i + 1))) := by
        rw [zbn hd,zgf]; exact hy
      have no : (doT (stT (t0 kd) ((os.map fun i => (zah cs i).d).take i)) (zah cs z).d.1 (zah cs z).d.2).2 ≠ (zah cs z).a -> Q (.bl false) H4 := fun h => by
        have := k _ s34
        have ef : zdU kd cs os = false := by
          unfold zdU; refine decide_eq_false fun e => h ?_; rw [e,List.getElem?_map,hz] at han; exact (Option.some.inj han).symm
        rw [eT,ef] at this; exact this
      have yes : (doT (stT (t0 kd) ((os.map fun i => (zah cs i).d).take i)) (zah cs z).d.1 (zah cs z).d.2).2 = (zah cs z).a -> ∀ (q : Nat) z',q < i + 1 -> os[q]? = some z' -> (zdb (t0 kd) (os.map fun i => (zah cs i).d))[q]? = some (zah cs z').a := fun h q z' hq hz' => by
        rcases Nat.lt_succ_iff_lt_or_eq.mp hq with hq | rfl
        . exact hok q z' hq hz'
        . rw [hz] at hz'; rw [<- Option.some.inj hz',han,h]
      refine ⟨_,rfl,rfl,_,rfl,_,rfl,l,_,_,_,rfl,rfl,hu4,hu,t,_,3,_,rfl,rfl,ht4,at3,rfl,rfl,_,rfl,?_⟩; generalize (doT (stT (t0 kd) ((os.map fun i => (zah cs i).d).take i)) (zah cs z).d.1 (zah cs z).d.2).2 = o1 at no yes ⊢; generalize hao : (zah cs z).a = o2 at no yes ⊢
      have hne : decide (aV o1 = aV o2) = decide (o1 = o2) := by
        rw [decide_eq_decide]; constructor
        . intro h
          cases o1 <;> cases o2 <;> first | rfl | (cases h; rfl) | cases h
        . rintro rfl; rfl
      rw [hao] at ht4
      by_cases e0 : decide (aV o1 = V.non) = decide (aV o2 = V.non)
      . refine zda (by rw [e0]; simp) ⟨_,rfl,_,rfl,_,rfl,l,_,_,_,rfl,rfl,hu4,hu,t,_,3,_,rfl,rfl,ht4,at3,?_⟩
        refine ⟨by cases o1 <;> cases o2 <;> rfl,_,rfl,?_⟩
        by_cases e1 : o1 = o2
        . exact zda (by rw [hne,decide_eq_true e1]; decide) ⟨y,_,_,rfl,hy',s34,yes e1⟩
        . exact zcI (by rw [hne,decide_eq_false e1]; rfl) (no e1)
      . refine zcI ?_ (zaR (no fun h => e0 (by rw [h])))
        cases ea : decide (aV o1 = V.non) <;> cases eb : decide (aV o2 = V.non) <;> first | rfl | (rw [ea,eb] at e0; exact absurd rfl e0)
    . rintro σ H3 ⟨x,v4,v5,rfl,_,s3,hok⟩; rw [List.length_map] at hok
      have ea : zdU kd cs os = true := by
        unfold zdU; refine decide_eq_true ?_; apply List.ext_getElem?; intro i
        by_cases hil : i < os.length
        . rw [hok i os[i] hil (List.getElem?_eq_getElem hil),List.getElem?_map,List.getElem?_eq_getElem hil]
          rfl
        . rw [List.getElem?_eq_none (by rw [zev,List.length_map]; omega),List.getElem?_eq_none (by rw [List.length_map]; omega)]
      have := k _ s3; rw [eT,ea] at this; exact this
inductive ze8 (P : Program) (w : World) (K : Fg) (Pt : Addr) (vs : List V) (H : Hp) (Q : VK) (E_ : XK) : Prop
  | mk (k : Str) (l : Addr) (xs : List V) (cs : List Cl) (wf : List Int -> Nat) : (vs = [.str k,.ref l]) -> ((k = "row" \/ k = "number")) -> (SqL K H l xs) -> (Calls K H k xs cs) -> (xs.length <= 60) -> (zit cs wf) -> (wf [] <= 90000) -> (zlU cs k) -> (LamTab Pt zco zcg H) -> ((∀ (H' : Hp) (p g : Addr) (gs : List Int) (t : Th),Mv H H' -> LamTab Pt zco zcg H' -> H' p = some (.tup [.str "order",.ref g]) -> H' g = some (.lst (gs.map V.int)) -> Reach cs k gs t -> gs.length = cs.length -> Q (.ref p) H')) -> ((∀ (H' : Hp) (p D : Addr) (ws : List V) (rs : List Row),Mv H H' -> LamTab Pt zco zcg H' -> H' p = some (.tup [.str "none",.ref D]) -> H' D = some (.lst ws) -> Rows K H' k ws rs -> zc2 cs k rs = true -> ziQ cs.length rs -> ¬ zbe cs [] (t0 k) -> Q (.ref p) H')) -> ze8 P w K Pt vs H Q E_
theorem zii {Pt : Addr} (F : Fun K "order_of" "order_of" zdX f fd) (B : Bl mg) (T : Tp P w K mg st pt r b n) (g_check_calls : FnX P w K mg base "check_calls" 5 (zoF K)) (g_dead_ends : FnX P w K mg base "dead_ends" 5 (zjL P w K)) (g_search_order : FnX P w K mg base "search_order" 5 (zf8 K Pt)) : FnOk P w K mg base CX0 6 f fd ["kind","calls"] (ze8 P w K Pt) := by
  refine F.ok sc_order_of (fun vs H Q E h => ?_) (fun cdv A outer s H vs Q E hr h => ?_)
  . obtain ⟨k,l,xs,cs,wf,rfl,_⟩ := h; rfl
  . obtain ⟨kd,l,xs,cs,wf,rfl,hk,hS,hC,hlen,hW,hW0,hTn,hT,k1,k0⟩ := h
    refine ⟨_,(zac (zaS (zay g_check_calls zaF hr rfl (zaa (pv 0) (zaa (pv 1) zad))))
    (zac (zar (i := 2) sc_order_of.nd rfl (by first | exact .inl rfl | exact .inr rfl) (zay g_search_order zaF hr rfl (zaa (pv 0) (zaa (pv 1) zad))))
    (zac (zaD (zan zhP (pv 2) zbI (zat _))
    (zaf (zao (zaJ (zaa zaA (zaa (zay g_dead_ends zaF hr rfl (zaa (pv 0) (zaa (pv 1) zad))) zad))))) zaq)
    (zaf (zao (zaJ (zaa zaA (zaa (pv 2) zad)))))))),?_⟩
    refine ⟨_,rfl,_,rfl,kd,l,xs,cs,rfl,hk,hS,hC,fun H1 s1 => ?_⟩; refine ⟨_,rfl,_,rfl,kd,l,xs,cs,wf,rfl,hk,s1.seq hS,hC.keep s1,hlen,hW,hW0,LamTab.keep s1 hT,fun H2 m2 l2 hno => ?_,fun H2 g gs t m2 l2 hg hre hfl => ?_⟩
    . refine ⟨_,rfl,rfl,_,rfl,zaR ?_⟩; have m12 := s1.mv.trans m2; refine ⟨_,rfl,_,rfl,kd,l,xs,cs,rfl,hk,m12.seq hS,hC.mv m12,hlen,hTn,hno,fun H3 D ws rs s3 hD hR hsh hsm => ?_⟩; refine ⟨nlb rfl,fun p hp => ?_⟩; have s4 : Same H3 (upd H3 p (.tup [.str "none",.ref D])) := Same.upd hp; exact k0 _ p D ws rs ((m12.trans s3.mv).trans s4.mv) (LamTab.keep (s3.trans s4) l2) zab (s4 _ _ hD) (hR.keep s4) hsh hsm hno
    . refine ⟨_,rfl,rfl,_,rfl,zaE ?_⟩; refine ⟨_,rfl,nlb rfl,fun p hp => ?_⟩; have s3 : Same H2 (upd H2 p (.tup [.str "order",.ref g])) := Same.upd hp; exact k1 _ p g gs t ((s1.mv.trans m2).trans s3.mv) (LamTab.keep s3 l2) zab (s3 _ _ hg) hre hfl
theorem zgv (F : Fun K "_law_whole" "_law_whole" zcV f fd) (B : Bl mg) : FnOk P w K mg base CX0 1 f fd ["_law_found"] zdC := by
  refine F.ok zgm (fun vs H Q E h => ?_) (fun cdv A outer s H vs Q E hr h => ?_)
  . obtain ⟨i,rfl,_⟩ := h; rfl
  . obtain ⟨i,rfl,k⟩ := h; refine ⟨_,(zaf (zao (zfM (zas (zcK K) rfl B.isinstance_ PyProof.Rows.boot_isinstance (zaa (pv 0) (zaa (zbj (v := .ty "int") rfl B.int_ PyProof.Rows.boot_int rfl) zad))) (zd3 (zmb (zas (zcK K) rfl B.isinstance_ PyProof.Rows.boot_isinstance (zaa (pv 0) (zaa (zbj (v := .ty "bool") rfl B.bool_ PyProof.Rows.boot_bool rfl) zad)))))))),?_⟩; refine ⟨_,rfl,_,_,.type "int",true,rfl,TyOf.int i,zmA,true,rfl,?_⟩; exact ⟨_,rfl,_,_,.type "int",false,rfl,TyOf.int i,zl8,false,rfl,k⟩
inductive zjJ (K : Fg) (vs : List V) (H : Hp) (Q : VK) (E_ : XK) : Prop
  | mk (a : Addr) (ns : List Int) : (vs = [.ref a]) -> (SqL K H a (ns.map V.int)) -> (Q (.bl true) H) -> zjJ K vs H Q E_
theorem zdK (F : Fun K "_law_are_numbers" "_law_are_numbers" zby f fd) (B : Bl mg) (g__law_whole : FnX P w K mg base "_law_whole" 1 zdC) : FnOk P w K mg base CX0 2 f fd ["_law_found"] (zjJ K) := by
  refine F.ok sc__law_are_numbers (fun vs H Q E h => ?_) (fun cdv A outer s H vs Q E hr h => ?_)
  . obtain ⟨a,ns,rfl,_⟩ := h; rfl
  . obtain ⟨a,ns,rfl,ha,k⟩ := h
    refine ⟨_,(zac (zaD (zbd (za6 (zas zbA rfl B.isinstance_ PyProof.Rows.boot_isinstance (zaa (pv 0) (zaa (zbj (v := .ty "list") rfl B.list_ PyProof.Rows.boot_list rfl) zad)))))
    (zaf (zao zaY)) zaq)
    (zac (zaZ PassesOwn.never rfl (zaK K (pv 0)) (zaC (i := 1) sc__law_are_numbers.nd rfl (by first | exact .inl rfl | exact .inr rfl))
    (zaf (zaD (zbd (za6 (zay g__law_whole zaF hr rfl (zaa (pv 1) zad))))
    (zaf (zao zaY)) zaq)))
    (zaf (zao zaY)))),?_⟩
    refine ⟨_,rfl,_,_,.type "list",true,rfl,.inr (.inr ⟨rfl,a,_,rfl,ha⟩),.inl ⟨_,rfl,rfl⟩,_,rfl,zaE ?_⟩; refine ⟨_,rfl,a,rfl,⟨_,ha⟩,za9 (K := K) (a := a) (xs := ns.map V.int) (fun i σ H2 => (∃ v,σ = [some (.ref a),v]) /\ H2 = H) ⟨⟨none,rfl⟩,rfl⟩ (fun i σ H2 _ q => by obtain ⟨_,rfl⟩ := q; exact ha) ?_ ?_⟩
    . rintro i y σ H2 hi ⟨⟨v,rfl⟩,rfl⟩; obtain ⟨z,hz,rfl⟩ := List.mem_map.mp (List.mem_of_getElem? hi); exact ⟨_,rfl,_,rfl,_,rfl,zaE ⟨⟨_,rfl⟩,rfl⟩⟩
    . rintro σ H2 ⟨⟨v,rfl⟩,rfl⟩; exact k
inductive zof (K : Fg) (vs : List V) (H : Hp) (Q : VK) (E_ : XK) : Prop
  | mk (o : Addr) (k : Str) (n : Nat) (ws : List V) (rs : List Row) : (vs = [.ref o,.str k]) -> ((k = "row" \/ k = "number")) -> (SqL K H o ws) -> (Rows K H k ws rs) -> (ziQ n rs) -> (∀ H',Same H H' -> Q (.bl true) H') -> zof K vs H Q E_
inductive zcl (o : Addr) (kd : Str) (H : Hp) (i : Nat) (σ : St) (H2 : Hp) : Prop
  | mk (v2 v3 v4 : _) : (σ = [some (.ref o),some (.str kd),v2,v3,v4]) -> (Same H H2) -> zcl o kd H i σ H2
inductive zch (o : Addr) (kd : Str) (t m : Addr) (v4 : Option V) (H : Hp) (σ' : St) (H4 : Hp) : Prop
  | mk (ns : List Int) : (σ' = [some (.ref o),some (.str kd),some (.ref t),some (.ref m),v4]) -> (Same H H4) -> (H4 m = some (.lst (ns.map V.int))) -> zch o kd t m v4 H σ' H4
inductive zcb (o : Addr) (kd : Str) (t m : Addr) (H4 : Hp) (j : Nat) (σ : St) (H5 : Hp) : Prop
  | mk : ((∃ v,σ = [some (.ref o),some (.str kd),some (.ref t),some (.ref m),v])) -> (H5 = H4) -> zcb o kd t m H4 j σ H5
theorem zeJ (F : Fun K "_law_are_ends" "_law_are_ends" zbY f fd) (B : Bl mg) (g__law_whole : FnX P w K mg base "_law_whole" 1 zdC) : FnOk P w K mg base CX0 2 f fd ["_law_found","_law_kind"] (zof K) := by
  refine F.ok sc__law_are_ends (fun vs H Q E h => ?_) (fun cdv A outer s H vs Q E hr h => ?_)
  . obtain ⟨o,k,n,ws,rs,rfl,_⟩ := h; rfl
  . obtain ⟨o,kd,n,ws,rs,rfl,hk,hO,hR,hsm,k⟩ := h; have hsz : sizeLine = 16777216 := sizeLine_eq
    refine ⟨_,(zac (zaD (zbd (za6 (zas zbA rfl B.isinstance_ PyProof.Rows.boot_isinstance (zaa (pv 0) (zaa (zbj (v := .ty "list") rfl B.list_ PyProof.Rows.boot_list rfl) zad)))))
    (zaf (zao zaY)) zaq)
    (zac (zaZ PassesOwn.never rfl (zaK K (pv 0)) (zaC (i := 2) sc__law_are_ends.nd rfl (by first | exact .inl rfl | exact .inr rfl))
    (zac (zaD (PW.pt (zcN (zbd (za6 (zas zbA rfl B.isinstance_ PyProof.Rows.boot_isinstance (zaa (pv 2) (zaa (zbj (v := .ty "tuple") rfl B.tuple_ PyProof.Rows.boot_tuple rfl) zad))))) (zcN (zan zdx (zas (zau K) rfl B.len_ PySem.boot_len (zaa (pv 2) zad)) zae (zat _)) (zcw (zbd (za6 (zas zbA rfl B.isinstance_ PyProof.Rows.boot_isinstance (zaa (zak (zai K) (pv 2) zae (fun _ _ => rfl)) (zaa (zbj (v := .ty "list") rfl B.list_ PyProof.Rows.boot_list rfl) zad)))))))))
    (zaf (zao zaY)) zaq)
    (zac (zar (i := 3) sc__law_are_ends.nd rfl (by first | exact .inl rfl | exact .inr rfl) (zaP (zbc K) rfl B.list_ PyProof.Rows.boot_list (zaa (zak (zai K) (pv 2) zae (fun _ _ => rfl)) zad)))
    (zac (zdE (zaD (zan zaV (pv 1) zaA (zat _))
    (zac (zaD (zbd (za6 (zas zbA rfl B.isinstance_ PyProof.Rows.boot_isinstance (zaa (zak (zai K) (pv 2) zae (fun _ _ => rfl)) (zaa (zbj (v := .ty "tuple") rfl B.tuple_ PyProof.Rows.boot_tuple rfl) zad)))))
    (zaf (zao zaY)) zaq)
    (zaf (zaS (zck K PySem.F.plainAttrs_list PySem.F.slot_list_extend PySem.F.type_list_extend ze1 (pv 3) (zaa (zaP (zbc K) rfl B.list_ PyProof.Rows.boot_list (zaa (zak (zai K) (pv 2) zae (fun _ _ => rfl)) zad)) zad))))) (zaf (zaS (zck K PySem.F.plainAttrs_list PySem.F.slot_list_append PySem.F.type_list_append zb4 (pv 3) (zaa (zak (zai K) (pv 2) zae (fun _ _ => rfl)) zad))))))
    (zaf (zaZ PassesOwn.never rfl (zaK K (pv 3)) (zaC (i := 4) sc__law_are_ends.nd rfl (by first | exact .inl rfl | exact .inr rfl))
    (zaf (zaD (zbd (za6 (zay g__law_whole zaF hr rfl (zaa (pv 4) zad))))
    (zaf (zao zaY)) zaq))))))))
    (zaf (zao zaY)))),?_⟩
    refine ⟨_,rfl,_,_,.type "list",true,rfl,.inr (.inr ⟨rfl,o,_,rfl,hO⟩),.inl ⟨_,rfl,rfl⟩,_,rfl,zaE ?_⟩; refine ⟨_,rfl,o,rfl,⟨_,hO⟩,za9 (K := K) (a := o) (xs := ws) (zcl o kd H) ⟨none,none,none,rfl,Same.refl _⟩ (fun i σ H2 _ ⟨_,_,_,_,s2⟩ => s2.seq hO) ?_ ?_⟩
    . rintro i y σ H2 hi ⟨v2,v3,v4,rfl,s2⟩; obtain ⟨⟨rg,rt⟩,t,g,x,hrr,rfl,ht,hg0,hTh0⟩ := (hR.keep s2).at_ i y hi; obtain ⟨a10,a20,a3⟩ := hsm.2 (rg,rt) (List.mem_of_getElem? hrr); have hg : H2 g = some (.lst (rg.map V.int)) := hg0; have hTh : Thing K H2 kd x rt := hTh0; have a1 : rg.length <= 60 := a10; have a2 : zbo rt <= 1000 := a20; refine ⟨_,rfl,_,_,.type "tuple",true,rfl,.inr (.inl ⟨rfl,t,_,rfl,ht⟩),.inl ⟨_,rfl,rfl⟩,_,rfl,zaE ?_⟩; refine ⟨_,rfl,t,_,rfl,.inr ht,rfl,_,rfl,zaE ?_⟩; refine ⟨_,rfl,t,_,0,_,rfl,rfl,ht,at0,_,_,.type "list",true,rfl,.inr (.inr ⟨rfl,g,_,rfl,SqL.of hg⟩),.inl ⟨_,rfl,rfl⟩,_,rfl,zaE ?_⟩; refine ⟨_,rfl,t,_,0,_,rfl,rfl,ht,at0,g,_,rfl,.inl (SqL.of hg),fun m hm => ?_⟩; have s3 : Same H2 (upd H2 m (.lst (rg.map V.int))) := Same.upd hm; have q3 : (upd H2 m (.lst (rg.map V.int))) m = some (.lst (rg.map V.int)) := zab; have nm : H m = none := za8 s2 hm; generalize upd H2 m (.lst (rg.map V.int)) = H3 at s3 q3 ⊢; have s23 := s2.trans s3; have ht3 := Same.tup s3 ht; have hTh3 := hTh.keep s3; refine ⟨zch o kd t m v4 H,?_,?_⟩
      . cases hTh3 with
        | @row v ts hX =>
          obtain ⟨xa,rfl,hX⟩ := hX; have a2' : ts.length <= 1000 := a2; refine ⟨_,rfl,rfl,_,rfl,zaR ?_⟩; refine ⟨_,rfl,t,_,1,_,rfl,rfl,ht3,at1,_,_,.type "tuple",true,rfl,.inr (.inl ⟨rfl,xa,_,rfl,hX⟩),.inl ⟨_,rfl,rfl⟩,_,rfl,zaE ?_⟩; refine ⟨_,rfl,.inl ⟨rfl,_,SqL.of q3⟩,_,rfl,t,_,1,_,rfl,rfl,ht3,at1,xa,_,rfl,.inr hX,fun m2 hm2 => ?_⟩; have s4 : Same H3 (upd H3 m2 (.lst (ts.map V.int))) := Same.upd hm2; have q4 : (upd H3 m2 (.lst (ts.map V.int))) m2 = some (.lst (ts.map V.int)) := zab; generalize upd H3 m2 (.lst (ts.map V.int)) = H4 at s4 q4 ⊢; refine ⟨m,m2,_,_,rfl,rfl,s4 _ _ q3,q4,by rw [List.length_map,List.length_map]; omega,?_⟩
          refine ⟨rg ++ ts,rfl,fun a oa h => ?_,by rw [zab,List.map_append]⟩
          rw [zaj (zam h nm)]; exact s4 _ _ (s23 _ _ h)
        | @num z =>
          refine ⟨_,rfl,rfl,_,rfl,zaE ?_⟩; refine ⟨_,rfl,.inl ⟨rfl,_,SqL.of q3⟩,_,rfl,t,_,1,_,rfl,rfl,ht3,at1,m,_,_,rfl,rfl,q3,by rw [List.length_map]; omega,?_⟩
          refine ⟨rg ++ [z],rfl,fun a oa h => ?_,by rw [zab,List.map_append]; rfl⟩
          rw [zaj (zam h nm)]; exact s23 _ _ h
      . rintro σ' H4 ⟨ns,rfl,s4,q4⟩; refine ⟨_,rfl,m,rfl,⟨_,SqL.of q4⟩,za9 (K := K) (a := m) (xs := ns.map V.int) (zcb o kd t m H4) ⟨⟨_,rfl⟩,rfl⟩ (fun j σ H5 _ q => by obtain ⟨_,rfl⟩ := q; exact SqL.of q4) ?_ ?_⟩
        . rintro j y σ H5 hj ⟨⟨v,rfl⟩,rfl⟩; obtain ⟨z,hz,rfl⟩ := List.mem_map.mp (List.mem_of_getElem? hj); exact ⟨_,rfl,_,rfl,_,rfl,zaE ⟨⟨_,rfl⟩,rfl⟩⟩
        . rintro σ H5 ⟨⟨v,rfl⟩,rfl⟩; exact ⟨_,_,_,rfl,s4⟩
    . rintro σ H2 ⟨v2,v3,v4,rfl,s2⟩; exact k _ s2
inductive zh5 (K : Fg) (vs : List V) (H : Hp) (Q : VK) (E_ : XK) : Prop
  | mk (p l : Addr) (k : Str) (xs : List V) (cs : List Cl) : (vs = [.ref p,.str k,.ref l]) -> ((k = "row" \/ k = "number")) -> (SqL K H l xs) -> (Calls K H k xs cs) -> (xs.length <= 60) -> (((∃ (g : Addr) (gs : List Int),H p = some (.tup [.str "order",.ref g]) /\ H g = some (.lst (gs.map V.int)) /\ gs.length <= 60 /\ ∀ H',Same H H' -> Q (.bl (zgz cs gs && zdU k cs gs)) H') \/ ∃ (D : Addr) (ws : List V) (rs : List Row),H p = some (.tup [.str "none",.ref D]) /\ H D = some (.lst ws) /\ Rows K H k ws rs /\ ziQ cs.length rs /\ ∀ H',Same H H' -> Q (.bl (zc2 cs k rs)) H')) -> zh5 K vs H Q E_
theorem zdW (F : Fun K "_law_told_right" "_law_told_right" zbB f fd) (B : Bl mg) (g__law_are_ends : FnX P w K mg base "_law_are_ends" 2 (zof K)) (g__law_are_numbers : FnX P w K mg base "_law_are_numbers" 2 (zjJ K)) (g__law_holds : FnX P w K mg base "_law_holds" 2 (zb0 K)) (g__law_shows : FnX P w K mg base "_law_shows" 3 (zfY K)) :
    FnOk P w K mg base CX0 4 f fd ["_law_found","_law_kind","_law_calls"] (zh5 K) := by
  refine F.ok zdT (fun vs H Q E h => ?_) (fun cdv A outer s H vs Q E hr h => ?_)
  . obtain ⟨p,l,k,xs,cs,rfl,_⟩ := h; rfl
  . obtain ⟨p,l,kd,xs,cs,rfl,hk,hS,hC,hlen,hcase⟩ := h
    refine ⟨_,(zac (zaD (PW.pt (zcN (zbd (za6 (zas zbA rfl B.isinstance_ PyProof.Rows.boot_isinstance (zaa (pv 0) (zaa (zbj (v := .ty "tuple") rfl B.tuple_ PyProof.Rows.boot_tuple rfl) zad))))) (zcN (zan zdx (zas (zau K) rfl B.len_ PySem.boot_len (zaa (pv 0) zad)) zae (zat _)) (zcw (zbd (za6 (zas zbA rfl B.isinstance_ PyProof.Rows.boot_isinstance (zaa (zak (zai K) (pv 0) zae (fun _ _ => rfl)) (zaa (zbj (v := .ty "str") rfl B.str_ PyProof.Rows.boot_str rfl) zad)))))))))
    (zaf (zao zaY)) zaq)
    (zac (zaD (zan zaV (zak (zai K) (pv 0) zae (fun _ _ => rfl)) zaA (zat _))
    (zaf (zao (zfM (zay g__law_are_numbers zaF hr rfl (zaa (zak (zai K) (pv 0) zae (fun _ _ => rfl)) zad)) (zd3 (zay g__law_holds zaF hr rfl (zaa (pv 1) (zaa (pv 2) (zaa (zak (zai K) (pv 0) zae (fun _ _ => rfl)) zad)))))))) zaq)
    (zac (zaD (PW.pt (zcN (zan zdx (zak (zai K) (pv 0) zae (fun _ _ => rfl)) zaA (zat _)) (zcw (zbd (za6 (zay g__law_are_ends zaF hr rfl (zaa (zak (zai K) (pv 0) zae (fun _ _ => rfl)) (zaa (pv 1) zad))))))))
    (zaf (zao zaY)) zaq)
    (zaf (zao (zay g__law_shows zaF hr rfl (zaa (pv 1) (zaa (pv 2) (zaa (zak (zai K) (pv 0) zae (fun _ _ => rfl)) zad))))))))),?_⟩
    rcases hcase with ⟨g,gs,hp,hg,hgl,k⟩ | ⟨D,ws,rs,hp,hD,hR,hsm,k⟩
    . refine ⟨_,rfl,_,_,.type "tuple",true,rfl,.inr (.inl ⟨rfl,p,_,rfl,SqT.of hp⟩),.inl ⟨_,rfl,rfl⟩,_,rfl,zaE ?_⟩; refine ⟨_,rfl,p,_,rfl,.inr (SqT.of hp),rfl,_,rfl,zaE ?_⟩; refine ⟨_,rfl,p,_,0,_,rfl,rfl,SqT.of hp,at0,_,_,.type "str",true,rfl,.inl (TyOf.str _),.inl ⟨_,rfl,zi1⟩,_,rfl,zaE ?_⟩; refine ⟨_,rfl,p,_,0,_,rfl,rfl,SqT.of hp,at0,rfl,_,rfl,zaR ?_⟩; refine ⟨_,rfl,p,_,1,_,rfl,rfl,SqT.of hp,at1,g,gs,rfl,SqL.of hg,_,rfl,zaR ?_⟩; exact ⟨_,rfl,_,rfl,_,rfl,p,_,1,_,rfl,rfl,SqT.of hp,at1,kd,l,g,xs,cs,gs,rfl,hk,hS,hC,SqL.of hg,by omega,by omega,fun H9 s9 => k _ s9⟩
    . refine ⟨_,rfl,_,_,.type "tuple",true,rfl,.inr (.inl ⟨rfl,p,_,rfl,SqT.of hp⟩),.inl ⟨_,rfl,rfl⟩,_,rfl,zaE ?_⟩; refine ⟨_,rfl,p,_,rfl,.inr (SqT.of hp),rfl,_,rfl,zaE ?_⟩; refine ⟨_,rfl,p,_,0,_,rfl,rfl,SqT.of hp,at0,_,_,.type "str",true,rfl,.inl (TyOf.str _),.inl ⟨_,rfl,zi1⟩,_,rfl,zaE ?_⟩; refine ⟨_,rfl,p,_,0,_,rfl,rfl,SqT.of hp,at0,rfl,_,rfl,zaE ?_⟩; refine ⟨_,rfl,p,_,0,_,rfl,rfl,SqT.of hp,at0,rfl,_,rfl,zaE ?_⟩; refine ⟨_,rfl,p,_,1,_,rfl,rfl,SqT.of hp,at1,_,rfl,D,kd,cs.length,ws,rs,rfl,hk,SqL.of hD,hR,hsm,fun H2 s2 => ⟨_,rfl,zaE ?_⟩⟩; exact ⟨_,rfl,_,rfl,_,rfl,p,_,1,_,rfl,rfl,SqT.of (s2 _ _ hp),at1,kd,l,D,xs,ws,cs,rs,rfl,hk,s2.seq hS,hC.keep s2,hlen,SqL.of (s2 _ _ hD),hR.keep s2,hsm,fun H3 s3 => k _ (s2.trans s3)⟩
def zk2 (os : List Int) (lo hi : Option Int) : List Int := (os.drop (HT.sIx os.length 0 lo)).take (HT.sIx os.length os.length hi - HT.sIx os.length 0 lo)
theorem zlz (os : List Int) (lo hi : Option Int) : zc9 (os.map V.int) lo hi = (zk2 os lo hi).map V.int := by
  unfold zc9 zk2; rw [List.length_map,List.map_take,List.map_drop]
def Sep (cs : List Cl) : Prop := ∀ i j : Int,i ∈ zaz 0 cs.length -> j ∈ zaz 0 cs.length -> i ≠ j -> (zah cs i).e < (zah cs j).b \/ (zah cs j).e < (zah cs i).b
theorem zg5 {n : Nat} {gs : List Int} {i : Int} (h : i ∈ zal n gs) : i ∈ zaz 0 n := (List.mem_filter.mp h).1
theorem zml {l : List Int} (hn : l.Nodup) (h : ∀ i ∈ l,∀ j ∈ l,i = j) : l.length <= 1 := by
  match l,hn,h with
  | [],_,_ => exact Nat.zero_le _
  | [_],_,_ => exact Nat.le_refl _
  | a :: b :: r,hn,h =>
    have := h a (by simp) b (by simp)
    rw [this] at hn; simp at hn
theorem Sep.free {cs : List Cl} (h : Sep cs) (hb : ∀ c ∈ cs,c.b < c.e) (gs : List Int) : (zax cs gs).length <= 1 := by
  refine zml ((zd7 _ _).filter _) fun i hi j hj => ?_
  by_cases e : i = j
  . exact e
  . exfalso; have h1 : (zah cs i).b <= (zah cs j).e := zeo hi (zbk hj); have h2 : (zah cs j).b <= (zah cs i).e := zeo hj (zbk hi)
    rcases h i j (zg5 (zbk hi)) (zg5 (zbk hj)) e with h3 | h3 <;> omega
theorem Sep.thin {cs : List Cl} (h : Sep cs) (hb : ∀ c ∈ cs,c.b < c.e) (k : Str) : zlU cs k := fun gs t _ => by
  unfold zaT; rw [List.length_map]; exact Nat.le_trans (List.length_filter_le _ _) (h.free hb gs)
theorem Sep.weigh {cs : List Cl} (h : Sep cs) (hb : ∀ c ∈ cs,c.b < c.e) : zit cs fun gs => (zal cs.length gs).length + 1 := by
  intro gs; have hf := h.free hb gs; show ((zax cs gs).map fun i => (zal cs.length (gs ++ [i])).length + 1).sum + 1 <= (zal cs.length gs).length + 1
  cases hq : zax cs gs with
  | nil => simp
  | cons i r =>
    rw [hq] at hf; have hr : r = [] := List.length_eq_zero_iff.mp (by rw [List.length_cons] at hf; omega)
    subst hr; have := (zdA (zbk (cs := cs) (gs := gs) (i := i) (by rw [hq]; simp))).length_eq
    rw [List.length_cons] at this; simp; omega
theorem Sep.one {cs : List Cl} (h : Sep cs) {gs os : List Int} (hg : gs.Perm (zaz 0 cs.length)) (ho : os.Perm (zaz 0 cs.length)) (tg : (gs.map (zah cs)).Pairwise tOk) (to : (os.map (zah cs)).Pairwise tOk) (hb : ∀ i ∈ zaz 0 cs.length,(zah cs i).b < (zah cs i).e) : gs = os := by
  have str : ∀ {l : List Int},l.Perm (zaz 0 cs.length) -> (l.map (zah cs)).Pairwise tOk -> l.Pairwise fun i j => (zah cs i).b < (zah cs j).b := fun {l} hp ht => by
    have hn : l.Nodup := hp.nodup_iff.mpr (zb9 _); rw [List.pairwise_map] at ht; have hc := List.Pairwise.and ht (List.nodup_iff_pairwise_ne.mp hn); refine List.Pairwise.imp_of_mem (fun {i j} hi hj hq => ?_) hc; have h1 : (zah cs i).b <= (zah cs j).e := hq.1; have bi := hb i (hp.mem_iff.mp hi); have bj := hb j (hp.mem_iff.mp hj)
    rcases h i j (hp.mem_iff.mp hi) (hp.mem_iff.mp hj) hq.2 with h3 | h3 <;> omega
  refine List.Perm.eq_of_pairwise (le := fun i j => (zah cs i).b < (zah cs j).b ) (fun x y _ _ h1 h2 => by omega) (str hg tg) (str ho to) (hg.trans ho.symm)
def place (up : Bool) (n : Nat) (i : Nat) : Int := if up then (i : Int) else (n : Int) - 1 - i
def moved (up : Bool) (n : Nat) (i : Nat) (c : Cl) : Cl := ⟨3 * place up n i,3 * place up n i + 1,c.d,c.a⟩
def zbx (up : Bool) (cs : List Cl) : Prop := ∀ i : Nat,i < cs.length -> (zah cs (i : Int)).b = 3 * place up cs.length i /\ (zah cs (i : Int)).e = 3 * place up cs.length i + 1
def zaG (up : Bool) (n : Nat) : List Int := if up then zaz 0 n else (zaz 0 n).reverse
theorem zcc {up : Bool} {cs : List Cl} (h : zbx up cs) {i : Int} (hi : i ∈ zaz 0 cs.length) : (zah cs i).b = 3 * place up cs.length i.toNat /\ (zah cs i).e = 3 * place up cs.length i.toNat + 1 /\ i.toNat < cs.length /\ ((i.toNat : Nat) : Int) = i := by
  have := mem_iota.mp hi; have e : ((i.toNat : Nat) : Int) = i := by omega
  have h1 := h i.toNat (by omega)
  rw [e] at h1; exact ⟨h1.1,h1.2,by omega,e⟩
theorem zgJ {up : Bool} {cs : List Cl} (h : zbx up cs) : Sep cs := fun i j hi hj hne => by
  obtain ⟨a1,a2,a3,a4⟩ := zcc h hi; obtain ⟨b1,b2,b3,b4⟩ := zcc h hj; rw [a1,a2,b1,b2]; unfold place; cases up
  . simp only [Bool.false_eq_true,if_false]; omega
  . simp only [if_true]; omega
theorem zcP (up : Bool) (n : Nat) : (zaG up n).Perm (zaz 0 n) := by
  unfold zaG; cases up
  . exact List.reverse_perm _
  . exact .refl _
theorem zgj {up : Bool} {cs : List Cl} (h : zbx up cs) : ((zaG up cs.length).map (zah cs)).Pairwise tOk := by
  have hlt : (zaz 0 cs.length).Pairwise (· < ·) := by
    unfold zaz; exact List.Pairwise.map _ (fun a b h => by omega) List.pairwise_lt_range
  rw [List.pairwise_map]; unfold zaG
  cases up with
  | true =>
    rw [if_pos rfl]; refine List.Pairwise.imp_of_mem (fun {i j} hi hj hij => ?_) hlt; obtain ⟨a1,a2,a3,a4⟩ := zcc h hi; obtain ⟨b1,b2,b3,b4⟩ := zcc h hj; show (zah cs i).b <= (zah cs j).e; rw [a1,b2]; unfold place; simp only [if_true]; omega
  | false =>
    rw [if_neg fnt,List.pairwise_reverse]; refine List.Pairwise.imp_of_mem (fun {i j} hi hj hij => ?_) hlt; obtain ⟨a1,a2,a3,a4⟩ := zcc h hi; obtain ⟨b1,b2,b3,b4⟩ := zcc h hj; show (zah cs j).b <= (zah cs i).e; rw [b1,a2]; unfold place; simp only [Bool.false_eq_true,if_false]; omega
theorem zkZ {cs : List Cl} {os : List Int} (h : (os.map (zah cs)).Pairwise tOk) : zg1 cs os = true := by
  unfold zg1; rw [List.all_eq_true]; intro i hi; have hil := List.mem_range.mp hi; simp only [Bool.not_eq_true',List.any_eq_false,decide_eq_true_eq]; intro f hf; rw [mem_take] at hf; obtain ⟨q,hq,hqi,rfl⟩ := hf; have hp := List.pairwise_iff_getElem.mp h q i (by rw [List.length_map]; exact hq) (by rw [List.length_map]; exact hil) hqi
  rw [List.getElem_map,List.getElem_map] at hp; have hp' : (zah cs os[q]).b <= (zah cs os[i]).e := hp; rw [zdz hil]; omega
theorem zmp {up : Bool} {cs : List Cl} (h : zbx up cs) (k : Str) : (zgz cs (zaG up cs.length) && zdU k cs (zaG up cs.length)) = zdU k cs (zaG up cs.length) := by
  rw [<- zkn,zkZ (zgj h),show zir cs.length (zaG up cs.length) = true from List.isPerm_iff.mpr (zcP up _),Bool.true_and,Bool.true_and]
theorem zih {up : Bool} {cs : List Cl} (h : zbx up cs) : ∀ i ∈ zaz 0 cs.length,(zah cs i).b < (zah cs i).e := fun i hi => by
  obtain ⟨a1,a2,_⟩ := zcc h hi; omega
theorem zkB {up : Bool} {cs : List Cl} {k : Str} {gs : List Int} {t : Th} (h : zbx up cs) (hr : Reach cs k gs t) (hn : gs.length = cs.length) : gs = zaG up cs.length /\ zdU k cs (zaG up cs.length) = true := by
  have e : gs = zaG up cs.length := (zgJ h).one (hr.order hn) (zcP up _) hr.tok.1 (zgj h) (zih h); exact ⟨e,by rw [<- e]; exact (zmk hr hn).2.2⟩
theorem zjx {up : Bool} {cs : List Cl} {k : Str} (h : zbx up cs) (hno : ¬ zbe cs [] (t0 k)) : zdU k cs (zaG up cs.length) = false := by
  cases e : zdU k cs (zaG up cs.length) with
  | false => rfl
  | true =>
    exfalso; refine hno ⟨zaG up cs.length,zlk _ [] (t0 k) (by rw [ziG]; exact zcP up _) (zgj h) (fun i hi => zih h i ((zcP up _).mem_iff.mp hi)) (of_decide_eq_true e)⟩
theorem zhx (up : Bool) (n : Nat) : (zaG up n).length = n := by
  rw [(zcP up n).length_eq]; simp [zaz]
theorem zoo {up : Bool} {n : Nat} {i : Int} (h : i ∈ zaG up n) : 0 <= i /\ i < n := mem_iota.mp ((zcP up n).mem_iff.mp h)
inductive zio (K : Fg) (Pt : Addr) (vs : List V) (H : Hp) (Q : VK) (E_ : XK) : Prop
  | mk (a : Addr) (ns : List Int) : (vs = [.ref a]) -> (SqL K H a (ns.map V.int)) -> (ns.length <= 63) -> (LamTab Pt zco zcg H) -> (∀ H',Q (.bl true) H') -> zio K Pt vs H Q E_
theorem zpv (a b : Int) (x : Int) (h0 : 0 <= x) (h1 : x < 2) : atI [V.int a,.int b] x = some (.int (if x = 1 then b else a)) := by
  have : x = 0 \/ x = 1 := by omega
  rcases this with rfl | rfl
  . exact at0
  . exact at1
def csF (up : Bool) (n : Nat) (c4 : List Cl) (i : Nat) : List Cl := (List.range i).map fun j => moved up n j (c4.getD j cl0)
theorem zlW (up : Bool) (n : Nat) (c4 : List Cl) (i : Nat) : csF up n c4 (i + 1) = csF up n c4 i ++ [moved up n i (c4.getD i cl0)] := by
  unfold csF; rw [List.range_succ,List.map_append]
  rfl
theorem zhJ (up : Bool) (n : Nat) (c4 : List Cl) (i : Nat) : (csF up n c4 i).length = i := by
  unfold csF; rw [List.length_map,List.length_range]
theorem zkq (up : Bool) (c4 : List Cl) : zbx up (csF up c4.length c4 c4.length) := fun i hi => by
  rw [zhJ] at hi ⊢
  have e : zah (csF up c4.length c4 c4.length) (i : Int) = moved up c4.length i (c4.getD i cl0) := by
    unfold zah csF; rw [show ((i : Int)).toNat = i by omega,List.getD_eq_getElem?_getD,List.getElem?_map,List.getElem?_range hi]
    rfl
  rw [e]; exact ⟨rfl,rfl⟩
theorem zkI {up : Bool} {cs : List Cl} {z : Nat} {c : Cl} (h : zbx up cs) (hz : z < cs.length) (hb : c.b = (zah cs (z : Int)).b) (he : c.e = (zah cs (z : Int)).e) : zbx up (cs.set z c) := fun i hi => by
  rw [List.length_set] at hi ⊢; have h1 := h i hi
  have e : (zah (cs.set z c) (i : Int)).b = (zah cs (i : Int)).b /\ (zah (cs.set z c) (i : Int)).e = (zah cs (i : Int)).e := by
    by_cases q : z = i
    . subst q
      have e1 : zah (cs.set z c) (z : Int) = c := by
        unfold zah; rw [show ((z : Int)).toNat = z by omega,List.getD_eq_getElem?_getD,List.getElem?_set_self hz]
        rfl
      rw [e1]; exact ⟨hb,he⟩
    . have e1 : zah (cs.set z c) (i : Int) = zah cs (i : Int) := by
        unfold zah; rw [show ((i : Int)).toNat = i by omega,List.getD_eq_getElem?_getD,List.getD_eq_getElem?_getD,List.getElem?_set_ne q]
      rw [e1]; exact ⟨rfl,rfl⟩
  rw [e.1,e.2]; exact h1
inductive zh9 (a : Addr) (kd : Str) (g4 c : Addr) (H : Hp) (v4 : List V) (K : W.Frag) (c4 : List Cl) (up : Bool) (i : Nat) (σ : St) (H6 : Hp) : Prop
  | mk (w4 w5 : Option V) (us : List V) : (σ = [some (.ref a),some (.str kd),some (.ref g4),some (.ref c),w4,w5,none,none,none,none,none,none,none,none,none]) -> (Same H H6) -> (H6 g4 = some (.lst v4)) -> (Calls K H6 kd v4 c4) -> (H6 c = some (.lst us)) -> (Calls K H6 kd us (csF up c4.length c4 i)) -> zh9 a kd g4 c H v4 K c4 up i σ H6
def zl1 (H6) (up : Bool) (cs : List Cl) (D : Addr) (i : Nat) (ys : List V) (H7 : Hp) := Same H6 H7 /\ H7 D = some (.lst ys) /\ ys.length = i /\ ∀ (j : Nat) v,ys[j]? = some v -> ∃ t,v = .ref t /\ H7 t = some (.tup [.int (3 * place up cs.length j),.int (j : Int)])
inductive ziS (a : Addr) (kd : Str) (g4 c : Addr) (w5 : Option V) (l2 og pg : Addr) (H : Hp) (up : Bool) (cs : List Cl) (K : W.Frag) (σ' : St) (H12 : Hp) : Prop
  | mk (x4 x9 x10 x11 x12 : Option V) (us' : List V) (cs' : List Cl) : (σ' = [some (.ref a),some (.str kd),some (.ref g4),some (.ref c),x4,w5,some (.ref l2),some (.ref og),some (.ref pg),x9,x10,x11,x12,none,none]) -> (Same H H12) -> (H12 c = some (.lst us')) -> (H12 og = some (.lst ((zaG up cs.length).map V.int))) -> (Calls K H12 kd us' cs') -> (cs'.length = cs.length) -> (zbx up cs') -> ziS a kd g4 c w5 l2 og pg H up cs K σ' H12
inductive zh3 (a : Addr) (kd : Str) (g4 c : Addr) (w5 : Option V) (l2 og pg : Addr) (H : Hp) (up : Bool) (cs : List Cl) (pl : List (Option Int)) (K : W.Frag) (i : Nat) (σ' : St) (H12 : Hp) : Prop
  | mk (x4 x9 x10 x11 x12 : Option V) (us' : List V) (cs' : List Cl) : (σ' = [some (.ref a),some (.str kd),some (.ref g4),some (.ref c),x4,w5,some (.ref l2),some (.ref og),some (.ref pg),x9,x10,x11,x12,none,none]) -> (Same H H12) -> (H12 c = some (.lst us')) -> (H12 og = some (.lst ((zaG up cs.length).map V.int))) -> (H12 pg = some (.lst (pl.map aV))) -> (Calls K H12 kd us' cs') -> (cs'.length = cs.length) -> (zbx up cs') -> zh3 a kd g4 c w5 l2 og pg H up cs pl K i σ' H12
def zkp {Pt : Addr} {cdv : Value} {A : Around} {outer : List Env} {s : Shared} {H : Hp} {E : XK} (B : Bl mg) (hr : Room 7 (A.deeper (PyProof.Rows.envOfC "law" (zag zbp) s.heap.objs.size f cdv))) (g__law_at : FnX P w K mg base "_law_at" 1 (zh4 K)) (g__law_holds : FnX P w K mg base "_law_holds" 2 (zb0 K)) (g__law_kept : FnX P w K mg base "_law_kept" 2 (zdo K)) (g__law_spoilt : FnX P w K mg base "_law_spoilt" 1 (zbP K)) (g__law_told_right : FnX P w K mg base "_law_told_right" 4 (zh5 K)) (g_answers : FnX P w K mg base "answers" 5 (ze5 K)) (g_order_of : FnX P w K mg base "order_of" 6 (ze8 P w K Pt)) : { t : TS // PSs (zcp CX0 P w K mg base zc1 "law" (zag zbp) f cdv A outer s H E).nox ((zaI zbp).drop 12) t } := ⟨_,(zac (zaD (PW.pt (zcN (zbd (za6 (zay g__law_told_right zaF hr rfl (zaa (pv 14) (zaa (pv 1) (zaa (pv 3) zad)))))) (zcw (zan zdx (zak (zai K) (pv 14) zae (fun _ _ => rfl)) (pv 13) (zat _)))))
    (zaf (zao zaY)) zaq)
    (zaf (zao (znV (zbg zaV (pv 13) zaA (zat _)) (zd3 (zbg (zhk hr.units) (zak (zai K) (pv 14) zae (fun _ _ => rfl)) (pv 7) (zat _)))))))⟩
def zl4 {Pt : Addr} {cdv : Value} {A : Around} {outer : List Env} {s : Shared} {H : Hp} {E : XK} (B : Bl mg) (hr : Room 7 (A.deeper (PyProof.Rows.envOfC "law" (zag zbp) s.heap.objs.size f cdv))) (g__law_at : FnX P w K mg base "_law_at" 1 (zh4 K)) (g__law_holds : FnX P w K mg base "_law_holds" 2 (zb0 K)) (g__law_kept : FnX P w K mg base "_law_kept" 2 (zdo K)) (g__law_spoilt : FnX P w K mg base "_law_spoilt" 1 (zbP K)) (g__law_told_right : FnX P w K mg base "_law_told_right" 4 (zh5 K)) (g_answers : FnX P w K mg base "answers" 5 (ze5 K)) (g_order_of : FnX P w K mg base "order_of" 6 (ze8 P w K Pt)) : { t : TS // PSs (zcp CX0 P w K mg base zc1 "law" (zag zbp) f cdv A outer s H E).nox ((zaI zbp).drop 9) t } := ⟨_,(zac (zdE (zaD (zan znT (zav zaO (zav zaO (zav za4 (zay g__law_at zaF hr rfl (zaa (pv 0) (zaa zae zad))) zae) zae) zae) zae (zat _))
    (zaf (zaZ PassesOwn.never rfl (zbl rfl B.range_ (zaa (zas (zau K) rfl B.len_ PySem.boot_len (zaa (pv 7) zad)) zad)) (zaC (i := 4) sc_law.nd rfl (by first | exact .inl rfl | exact .inr rfl))
    (zac (zci (zak (zap K) (pv 3) (zak (zap K) (pv 7) (pv 4) (fun _ _ => rfl)) (fun _ _ => rfl)) (zeG rfl (zaU (zaC (i := 9) sc_law.nd rfl (by first | exact .inl rfl | exact .inr rfl)) (zaU (zaC (i := 10) sc_law.nd rfl (by first | exact .inl rfl | exact .inr rfl)) (zaU (zaC (i := 11) sc_law.nd rfl (by first | exact .inl rfl | exact .inr rfl)) (zaU (zaC (i := 12) sc_law.nd rfl (by first | exact .inl rfl | exact .inr rfl)) zdF))))))
    (zaf (zci (zaJ (zaa (pv 9) (zaa (pv 10) (zaa (pv 11) (zaa (zak (zap K) (pv 8) (pv 4) (fun _ _ => rfl)) zad))))) (zeL (pv 3) (zak (zap K) (pv 7) (pv 4) (fun _ _ => rfl)) zf5)))))) zaq))
    (zac (zar (i := 13) sc_law.nd rfl (by first | exact .inl rfl | exact .inr rfl) (zak (zap K) (zaM (zaa zaA (zaa zaA zad))) (zaP zdB rfl B.int_ PyProof.Rows.boot_int (zaa (zay g__law_holds zaF hr rfl (zaa (pv 1) (zaa (pv 3) (zaa (pv 7) zad)))) zad)) (fun _ _ => rfl)))
    (zac (zar (i := 14) sc_law.nd rfl (by first | exact .inl rfl | exact .inr rfl) (zay g_order_of zaF hr rfl (zaa (pv 1) (zaa (zaP (zbc K) rfl B.list_ PyProof.Rows.boot_list (zaa (pv 3) zad)) zad))))
    (zkp B hr g__law_at g__law_holds g__law_kept g__law_spoilt g__law_told_right g_answers g_order_of).2)))⟩
def zlD {Pt : Addr} {cdv : Value} {A : Around} {outer : List Env} {s : Shared} {H : Hp} {E : XK} (B : Bl mg) (hr : Room 7 (A.deeper (PyProof.Rows.envOfC "law" (zag zbp) s.heap.objs.size f cdv))) (g__law_at : FnX P w K mg base "_law_at" 1 (zh4 K)) (g__law_holds : FnX P w K mg base "_law_holds" 2 (zb0 K)) (g__law_kept : FnX P w K mg base "_law_kept" 2 (zdo K)) (g__law_spoilt : FnX P w K mg base "_law_spoilt" 1 (zbP K)) (g__law_told_right : FnX P w K mg base "_law_told_right" 4 (zh5 K)) (g_answers : FnX P w K mg base "answers" 5 (ze5 K)) (g_order_of : FnX P w K mg base "order_of" 6 (ze8 P w K Pt)) : { t : TS // PSs (zcp CX0 P w K mg base zc1 "law" (zag zbp) f cdv A outer s H E).nox ((zaI zbp).drop 7) t } := ⟨_,(zac (zar (i := 8) sc_law.nd rfl (by first | exact .inl rfl | exact .inr rfl) (zay g_answers zaF hr rfl (zaa (pv 1) (zaa (ze9 (zcd (sc := zag zbp) (N0 := zc1) (ns := ["_law_calls"]) (idx := [3]) (by decide +kernel)) rfl (zaK K (pv 7)) (fun _ _ _ _ => zcZ) (fun _ _ _ _ => (zak (zai K) (zak (zap K) (pv 1) (pv 0) (fun _ _ => rfl)) zae (fun _ _ => rfl)))) zad))))
    (zac (zaD (PW.pt (zcN (zbd (za6 (zas zbA rfl B.isinstance_ PyProof.Rows.boot_isinstance (zaa (pv 8) (zaa (zbj (v := .ty "list") rfl B.list_ PyProof.Rows.boot_list rfl) zad))))) (zcw (zan zdx (zas (zau K) rfl B.len_ PySem.boot_len (zaa (pv 8) zad)) (zas (zau K) rfl B.len_ PySem.boot_len (zaa (pv 3) zad)) (zat _)))))
    (zaf (zao zaY)) zaq)
    (zl4 B hr g__law_at g__law_holds g__law_kept g__law_spoilt g__law_told_right g_answers g_order_of).2))⟩
def zmK {Pt : Addr} {cdv : Value} {A : Around} {outer : List Env} {s : Shared} {H : Hp} {E : XK} (B : Bl mg) (hr : Room 7 (A.deeper (PyProof.Rows.envOfC "law" (zag zbp) s.heap.objs.size f cdv))) (g__law_at : FnX P w K mg base "_law_at" 1 (zh4 K)) (g__law_holds : FnX P w K mg base "_law_holds" 2 (zb0 K)) (g__law_kept : FnX P w K mg base "_law_kept" 2 (zdo K)) (g__law_spoilt : FnX P w K mg base "_law_spoilt" 1 (zbP K)) (g__law_told_right : FnX P w K mg base "_law_told_right" 4 (zh5 K)) (g_answers : FnX P w K mg base "answers" 5 (ze5 K)) (g_order_of : FnX P w K mg base "order_of" 6 (ze8 P w K Pt)) : { t : TS // PSs (zcp CX0 P w K mg base zc1 "law" (zag zbp) f cdv A outer s H E).nox ((zaI zbp).drop 5) t } := ⟨_,(zac (zar (i := 6) sc_law.nd rfl (by first | exact .inl rfl | exact .inr rfl) (zas zhh rfl B.sorted_ PyProof.Rows.boot_sorted (zaa (ze9 (zcd (sc := zag zbp) (N0 := zc1) (ns := ["_law_calls"]) (idx := [3]) (by decide +kernel)) rfl (zbl rfl B.range_ (zaa (zas (zau K) rfl B.len_ PySem.boot_len (zaa (pv 3) zad)) zad)) (fun _ _ _ _ => zcZ) (fun _ _ _ _ => (zaJ (zaa (zak (zai K) (zak (zap K) (pv 1) (pv 0) (fun _ _ => rfl)) zae (fun _ _ => rfl)) (zaa (pv 0) zad))))) zad)))
    (zac (zb7 (i := 7) (zcd (sc := zag zbp) (N0 := zc1) (ns := []) (idx := []) (by decide +kernel)) rfl sc_law.nd rfl (by first | exact .inl rfl | exact .inr rfl) (zaK K (pv 6)) (fun _ _ _ _ => zcZ) (fun _ _ _ _ => (zak (zai K) (pv 0) zae (fun _ _ => rfl))) rfl)
    (zlD B hr g__law_at g__law_holds g__law_kept g__law_spoilt g__law_told_right g_answers g_order_of).2))⟩
def zmd {Pt : Addr} {cdv : Value} {A : Around} {outer : List Env} {s : Shared} {H : Hp} {E : XK} (B : Bl mg) (hr : Room 7 (A.deeper (PyProof.Rows.envOfC "law" (zag zbp) s.heap.objs.size f cdv))) (g__law_at : FnX P w K mg base "_law_at" 1 (zh4 K)) (g__law_holds : FnX P w K mg base "_law_holds" 2 (zb0 K)) (g__law_kept : FnX P w K mg base "_law_kept" 2 (zdo K)) (g__law_spoilt : FnX P w K mg base "_law_spoilt" 1 (zbP K)) (g__law_told_right : FnX P w K mg base "_law_told_right" 4 (zh5 K)) (g_answers : FnX P w K mg base "answers" 5 (ze5 K)) (g_order_of : FnX P w K mg base "order_of" 6 (ze8 P w K Pt)) : { t : TS // PSs (zcp CX0 P w K mg base zc1 "law" (zag zbp) f cdv A outer s H E).nox ((zaI zbp).drop 3) t } := ⟨_,(zac (zar (i := 3) sc_law.nd rfl (by first | exact .inl rfl | exact .inr rfl) (zaM zad))
    (zac (zaZ PassesOwn.never rfl (zbl rfl B.range_ (zaa (zas (zau K) rfl B.len_ PySem.boot_len (zaa (pv 2) zad)) zad)) (zaC (i := 4) sc_law.nd rfl (by first | exact .inl rfl | exact .inr rfl))
    (zac (zar (i := 5) sc_law.nd rfl (by first | exact .inl rfl | exact .inr rfl) (zak (zap K) (zaM (zaa (zav zdt (zav zdt (zas (zau K) rfl B.len_ PySem.boot_len (zaa (pv 2) zad)) zae) (pv 4)) (zaa (pv 4) zad))) (zav zaO (zav zaO (zav za4 (zay g__law_at zaF hr rfl (zaa (pv 0) (zaa zae zad))) zae) zae) zae) (fun _ _ => rfl)))
    (zaf (zaS (zck K PySem.F.plainAttrs_list PySem.F.slot_list_append PySem.F.type_list_append zb4 (pv 3) (zaa (zaJ (zaa (zav za4 zae (pv 5)) (zaa (zav zbD (zav za4 zae (pv 5)) zae) (zaa (zak (zai K) (zak (zap K) (pv 2) (pv 4) (fun _ _ => rfl)) zae (fun _ _ => rfl)) (zaa (zak (zai K) (zak (zap K) (pv 2) (pv 4) (fun _ _ => rfl)) zae (fun _ _ => rfl)) zad))))) zad))))))
    (zmK B hr g__law_at g__law_holds g__law_kept g__law_spoilt g__law_told_right g_answers g_order_of).2))⟩
theorem zoI {Pt : Addr} (F : Fun K "law" "law" zbp f fd) (B : Bl mg) (g__law_at : FnX P w K mg base "_law_at" 1 (zh4 K)) (g__law_holds : FnX P w K mg base "_law_holds" 2 (zb0 K)) (g__law_kept : FnX P w K mg base "_law_kept" 2 (zdo K)) (g__law_spoilt : FnX P w K mg base "_law_spoilt" 1 (zbP K))
    (g__law_told_right : FnX P w K mg base "_law_told_right" 4 (zh5 K)) (g_answers : FnX P w K mg base "answers" 5 (ze5 K)) (g_order_of : FnX P w K mg base "order_of" 6 (ze8 P w K Pt)) :
    FnOk P w K mg base CX0 8 f fd ["_law_script"] (zio K Pt) := by
  refine F.ok sc_law (fun vs H Q E h => ?_) (fun cdv A outer s H vs Q E hr h => ?_)
  . obtain ⟨a,ns,rfl,_⟩ := h; rfl
  . obtain ⟨a,ns,rfl,hS,hlen,hT,k⟩ := h; have hsz : sizeLine = 16777216 := sizeLine_eq
    refine ⟨_,(zac (zar (i := 1) sc_law.nd rfl (by first | exact .inl rfl | exact .inr rfl) (zak (zap K) (zaM (zaa zaA (zaa zaA zad))) (zav zaO (zav zaO (zav za4 (zay g__law_at zaF hr rfl (zaa (pv 0) (zaa zae zad))) zae) zae) zae) (fun _ _ => rfl)))
    (zac (zar (i := 2) sc_law.nd rfl (by first | exact .inl rfl | exact .inr rfl) (zay g__law_kept zaF hr rfl (zaa (zex (zij K) (pv 0) (zen zae) (zen zae)) (zaa (pv 1) (zaa zaA (zaa zae zad))))))
    (zac (zar (i := 2) sc_law.nd rfl (by first | exact .inl rfl | exact .inr rfl) (zay g__law_spoilt zaF hr rfl (zaa (pv 2) (zaa (zay g__law_at zaF hr rfl (zaa (pv 0) (zaa zae zad))) zad))))
    (zmd B hr g__law_at g__law_holds g__law_kept g__law_spoilt g__law_told_right g_answers g_order_of).2))),?_⟩
    refine ⟨nlb rfl,fun p0 hp0 => ?_⟩; have s0 : Same H (upd H p0 (.lst [.str "row",.str "number"])) := Same.upd hp0
    obtain ⟨kd,hk,hkd⟩ : ∃ kd : Str,(kd = "row" \/ kd = "number") /\ atI [V.str "row",.str "number"] (ns.getD (0 : Int).toNat 0 * 48271 % 1091 % 2) = some (.str kd) := by
      have := md2 (ns.getD (0 : Int).toNat 0 * 48271 % 1091)
      rcases this with e | e <;> rw [e]
      . exact ⟨_,.inl rfl,at0⟩
      . exact ⟨_,.inr rfl,at1⟩
    refine ⟨_,rfl,a,ns,0,rfl,s0.seq hS,by decide,_,_,rfl,rfl,.inr ⟨by decide,by decide⟩,_,_,rfl,rfl,(by show (0 : Int) < _; first | decide | omega),_,_,rfl,rfl,(by show (0 : Int) < _; first | decide | omega),p0,_,_,_,rfl,rfl,SqL.of zab,hkd,?_⟩
    generalize upd H p0 (.lst [.str "row",.str "number"]) = H0 at s0 ⊢; refine ⟨_,rfl,2,rfl,32,rfl,a,_,rfl,s0.seq hS,fun p2 hp2 => ?_⟩; have s2 : Same H0 (upd H0 p2 (.lst (zc9 (ns.map V.int) (some 2) (some 32)))) := Same.upd hp2; have q2 : (upd H0 p2 (.lst (zc9 (ns.map V.int) (some 2) (some 32)))) p2 = some (.lst ((zk2 ns (some 2) (some 32)).map V.int)) := by rw [zab,zlz]
    have hcl : (zk2 ns (some 2) (some 32)).length <= 30 := by
      unfold zk2; rw [show (some (2 : Int)) = some (((2 : Nat)) : Int) from rfl,show (some (32 : Int)) = some (((32 : Nat)) : Int) from rfl,HT.sIx_nat,HT.sIx_nat,List.length_take,List.length_drop]; refine Nat.le_trans (Nat.min_le_left _ _) (Nat.sub_le_of_le_add ?_)
      rcases Nat.le_total 2 ns.length with h | h
      . rw [Nat.min_eq_left h]; exact Nat.min_le_left _ _
      . rw [Nat.min_eq_right h]; exact Nat.le_trans (Nat.min_le_right _ _) (Nat.le_add_left _ _)
    generalize upd H0 p2 (.lst (zc9 (ns.map V.int) (some 2) (some 32))) = H2 at s2 q2 ⊢; have s02 := s0.trans s2; refine ⟨_,rfl,p2,zk2 ns (some 2) (some 32),kd,60,rfl,SqL.of q2,by omega,hk,by decide,fun H3 g3 v3 c3 s3 hg3 hC3 hl3 => ?_⟩
    have s03 := s02.trans s3; refine ⟨_,rfl,_,rfl,a,ns,1,rfl,s03.seq hS,by decide,g3,_,kd,v3,c3,rfl,SqL.of hg3,hC3,by omega,fun H4 g4 v4 c4 s4 hg4 hC4 hl4 => ?_⟩
    have s04 := s03.trans s4; have hvc : v4.length = c4.length := hC4.len; have hv30 : v4.length <= 30 := by omega
    refine ⟨nlb rfl,fun c hc => ?_⟩; have s5 : Same H4 (upd H4 c (.lst [])) := Same.upd hc; have q5 : (upd H4 c (.lst [])) c = some (.lst []) := zab; have nc : H c = none := za8 s04 hc; have ngc : g4 ≠ c := fun z => by rw [z,hc] at hg4; cases hg4
    generalize upd H4 c (.lst []) = H5 at s5 q5 ⊢; have s05 := s04.trans s5; obtain ⟨up,hup⟩ : ∃ up : Bool,up = decide (ns.getD (0 : Int).toNat 0 * 48271 % 1093 % 2 = 1) := ⟨_,rfl⟩
    refine ⟨_,rfl,g4,v4,rfl,.inl (SqL.of (s5 _ _ hg4)),(v4.length : Int),rfl,by omega,by omega,zcJ (lo := 0) (zh9 a kd g4 c H v4 K c4 up)
      ⟨none,none,[],rfl,s05,s5 _ _ hg4,hC4.keep s5,q5,Calls.nil⟩ ?_ ?_⟩
    . rintro i σ H6 hi ⟨w4,w5,us,rfl,s6,g6,C6,q6,U6⟩; have hi' : i < v4.length := by omega
      refine ⟨_,rfl,g4,v4,rfl,.inl (SqL.of g6),_,_,rfl,rfl,_,rfl,_,_,rfl,rfl,_,rfl,nlb rfl,fun p hp => ?_⟩; have hpl := zpv ((v4.length : Int) - 1 - (0 + (i : Int))) (0 + (i : Int)) (ns.getD (0 : Int).toNat 0 * 48271 % 1093 % 2) (by omega) (by omega)
      have epl : (if ns.getD (0 : Int).toNat 0 * 48271 % 1093 % 2 = 1 then (0 + (i : Int)) else ((v4.length : Int) - 1 - (0 + (i : Int)))) = place up c4.length i := by
        rw [hup]; unfold place
        by_cases e : ns.getD (0 : Int).toNat 0 * 48271 % 1093 % 2 = 1
        . rw [if_pos e,decide_eq_true e,if_pos rfl]; omega
        . rw [if_neg e,decide_eq_false e,if_neg fnt,hvc]; omega
      rw [epl] at hpl; have t1 := Same.upd (o := .lst [.int ((v4.length : Int) - 1 - (0 + (i : Int))),.int (0 + (i : Int))]) hp; refine ⟨_,rfl,a,ns,0,rfl,(s6.trans t1).seq hS,by decide,_,_,rfl,rfl,.inr ⟨by decide,by decide⟩,_,_,rfl,rfl,(by show (0 : Int) < _; first | decide | omega),_,_,rfl,rfl,(by show (0 : Int) < _; first | decide | omega),p,_,_,_,rfl,rfl,SqL.of zab,hpl,?_⟩
      generalize upd H6 p (.lst [.int ((v4.length : Int) - 1 - (0 + (i : Int))),.int (0 + (i : Int))]) = H7 at t1 ⊢; have s7 := s6.trans t1; have g7 := t1 _ _ g6; have q7 := t1 _ _ q6; obtain ⟨u,hu,⟨t,q,rfl,ht,hq⟩,hok⟩ := (C6.keep t1).num (i := 0 + (i : Int)) (by omega) (by rw [<- hvc]; omega)
      refine ⟨_,rfl,.inl ⟨rfl,_,SqL.of q7⟩,_,rfl,_,_,rfl,rfl,.inl ⟨by decide,by decide⟩,_,rfl,_,_,rfl,rfl,.inl ⟨by decide,by decide⟩,_,_,rfl,rfl,_,rfl,_,rfl,g4,_,_,_,rfl,rfl,SqL.of g7,hu,t,_,2,_,rfl,rfl,ht,at2,_,rfl,_,rfl,g4,_,_,_,rfl,rfl,SqL.of g7,hu,t,_,3,_,rfl,rfl,ht,at3,nlb rfl,fun t2 ht2 => ?_⟩
      have ecl : zah c4 (0 + (i : Int)) = c4.getD i cl0 := by
        unfold zah; rw [show (0 + (i : Int)).toNat = i by omega]
      rw [ecl] at ht hq hok; have ecl' : aV (zah c4 (0 + (i : Int))).a = aV (c4.getD i cl0).a := by rw [ecl]
      rw [ecl']; have t8 := Same.upd (o := .tup [.int (3 * place up c4.length i),.int (3 * place up c4.length i + 1),.ref q,aV (c4.getD i cl0).a]) ht2; have r8 := zab (H := H7) (a := t2) (o := .tup [.int (3 * place up c4.length i),.int (3 * place up c4.length i + 1),.ref q,aV (c4.getD i cl0).a]); generalize upd H7 t2 (.tup [.int (3 * place up c4.length i),.int (3 * place up c4.length i + 1),.ref q,aV (c4.getD i cl0).a]) = H8 at t8 r8 ⊢; have q8 := t8 _ _ q7; have hul : us.length = i := by rw [U6.len,zhJ]
      refine ⟨c,us,_,rfl,rfl,q8,by omega,?_⟩
      refine ⟨_,_,us ++ [.ref t2],rfl,fun b o h => ?_,?_,Calls.updL q8 ((C6.keep t1).keep t8),zab,?_⟩
      . rw [zaj (zam h nc)]; exact t8 _ _ (s7 _ _ h)
      . rw [zaj ngc]; exact t8 _ _ g7
      . rw [zlW]; refine (Calls.updL q8 ((U6.keep t1).keep t8)).snoc (c := moved up c4.length i (c4.getD i cl0)) (CallT.updL q8 ⟨t2,q,rfl,SqT.of r8,Same.tup t8 hq⟩) ⟨?_,hok.2⟩; show 3 * place up c4.length i < 3 * place up c4.length i + 1; omega
    rintro σ H6 ⟨w4,w5,us,rfl,s6,g6,C6,q6,U6⟩; rw [show ((v4.length : Int)).toNat = c4.length by omega] at U6
    have hT6 := zkq up c4; have hcn : (csF up c4.length c4 c4.length).length = c4.length := zhJ _ _ _ _; have hn30 : c4.length <= 30 := by omega
    generalize csF up c4.length c4 c4.length = cs at U6 hT6 hcn; generalize c4.length = n at hcn hn30; subst hcn; have hul : us.length = cs.length := U6.len
    refine ⟨_,rfl,c,us,rfl,.inl (SqL.of q6),(us.length : Int),rfl,by omega,by omega,zkX (lo := 0) (n := ((us.length : Int)).toNat) (zl1 H6 up cs)
      (by omega) (fun D hD => ⟨Same.upd hD,zab,rfl,fun j v hv => by simp at hv⟩) (fun D i ys H7 h => ⟨h.2.1,h.2.2.1⟩) ?_ ?_⟩
    . rintro D i ys H7 R hD hi ⟨s7,hD7,hyl,hys⟩ hR; obtain ⟨u,hu,⟨t,q,rfl,ht,hq⟩,hok⟩ := (U6.keep s7).num (i := 0 + (i : Int)) (by omega) (by omega)
      have hb := (hT6 i (by omega)).1
      refine ⟨_,rfl,_,rfl,c,_,_,_,rfl,rfl,SqL.of (s7 _ _ q6),hu,t,_,0,_,rfl,rfl,ht,at0,_,rfl,nlb rfl,fun p hp => ?_⟩; have hpD : D ≠ p := zam hD7 hp; refine hR _ _ (by rw [zaj hpD]; exact hD7) ⟨fun b o h => ?_,zab,by rw [List.length_append,hyl]; rfl,fun j v hv => ?_⟩
      . have hb := s7 _ _ h; rw [zaj (zam h hD),zaj (zam hb hp)]; exact hb
      . by_cases hj : j < ys.length
        . rw [List.getElem?_append_left hj] at hv; obtain ⟨t',rfl,ht'⟩ := hys j v hv; refine ⟨t',rfl,?_⟩; rw [zaj (za2 ht' hD7 (by intro z; cases z)),zaj (zam ht' hp)]
          exact ht'
        . have hj2 : j = ys.length := by
            have := (List.getElem?_eq_some_iff.mp hv).1; rw [List.length_append,List.length_singleton] at this; omega
          rw [hj2,List.getElem?_concat_length] at hv; cases hv; refine ⟨p,rfl,?_⟩; rw [zaj (Ne.symm hpD),zab,hj2,hyl]; rw [show (0 + (i : Int)) = (i : Int) by omega,hb]
    rintro D ys H7 hD ⟨s7,hD7,hyl,hys⟩; have hyn : ys.length = cs.length := by omega
    have hpv : ∀ j,j < cs.length -> zaH ((List.range cs.length).map fun j => (3 * place up cs.length j,(j : Int))) j = (3 * place up cs.length j,(j : Int)) := fun j hj => by
      unfold zaH; rw [List.getD_eq_getElem?_getD,List.getElem?_map,List.getElem?_range hj]
      rfl
    have hxl : ((List.range cs.length).map fun j => (3 * place up cs.length j,(j : Int))).length = cs.length := by rw [List.length_map,List.length_range]
    refine ⟨D,ys,(List.range cs.length).map fun j => (3 * place up cs.length j,(j : Int)),up,rfl,hD7,by omega,by omega,fun i v hv => ?_,fun i j hij hj => ?_,fun l2 hl2 => ?_⟩
    . have hi : i < cs.length := by
        have := (List.getElem?_eq_some_iff.mp hv).1; omega
      rw [hpv i hi]; exact hys i v hv
    . rw [hxl] at hj; rw [hpv i (by omega),hpv j hj]
      unfold place
      cases up <;> simp <;> omega
    obtain ⟨zs,hz1,hz2,hz3⟩ : ∃ zs : List (V × Int),zs.map (·.1) = (if up then ys else ys.reverse) /\ zs.map (·.2) = zaG up cs.length /\ ∀ z ∈ zs,∃ t x,z.1 = .ref t /\ H7 t = some (.tup [.int x,.int z.2]) := by
      obtain ⟨z0,e1,e2,e3⟩ : ∃ z0 : List (V × Int),z0.map (·.1) = ys /\ z0.map (·.2) = zaz 0 cs.length /\ ∀ z ∈ z0,∃ t x,z.1 = .ref t /\ H7 t = some (.tup [.int x,.int z.2]) := by
        refine ⟨(List.range ys.length).map fun j => (ys.getD j .non,(j : Int)),?_,?_,fun z hz => ?_⟩
        . rw [List.map_map]; exact zd2 ys .non
        . rw [List.map_map,hyn]; unfold zaz; refine List.map_congr_left fun j _ => ?_; show (j : Int) = 0 + (j : Int); omega
        . obtain ⟨j,hj,rfl⟩ := List.mem_map.mp hz; have hj' := List.mem_range.mp hj; obtain ⟨t,e,ht⟩ := hys j _ (List.getElem?_eq_getElem hj'); refine ⟨t,_,?_,ht⟩; show ys.getD j .non = _; rw [List.getD_eq_getElem?_getD,List.getElem?_eq_getElem hj']; exact e
      cases up with
      | true => exact ⟨z0,e1,e2,e3⟩
      | false =>
        refine ⟨z0.reverse,?_,?_,fun z hz => e3 z (List.mem_reverse.mp hz)⟩
        . rw [List.map_reverse,e1]
          rfl
        . rw [List.map_reverse,e2]
          rfl
    rw [<- hz1]
    have hzl : zs.length = cs.length := by
      have := congrArg List.length hz2; rw [List.length_map,zhx] at this; exact this
    have s8 : Same H7 (upd H7 l2 (.lst (zs.map (·.1)))) := Same.upd hl2; have q8 : (upd H7 l2 (.lst (zs.map (·.1)))) l2 = some (.lst (zs.map (·.1))) := zab; generalize upd H7 l2 (.lst (zs.map (·.1))) = H8 at s8 q8 ⊢; have s68 := s7.trans s8; refine ⟨_,rfl,l2,rfl,⟨_,SqL.of q8⟩,zcM (zs := zs) (fun _ => true) (fun z => .int z.2) (SqL.of q8) (by omega) ?_ ?_ ?_⟩
    . intro z hz D ys R hD hR; exact hR
    . intro z hz _ D3 ys R hD3 hR; obtain ⟨t,x,e,ht⟩ := hz3 z hz; exact ⟨_,rfl,t,_,1,_,e,rfl,SqT.of ((s8.trans (Same.upd (o := .lst ys) hD3)) _ _ ht),at1,hR⟩
    intro og hog
    have eor : ((zs.filter fun _ => true).map fun z => V.int z.2) = (zaG up cs.length).map V.int := by
      rw [List.filter_eq_self.mpr fun _ _ => rfl,<- hz2,List.map_map]
      rfl
    rw [eor]; have s9 : Same H8 (upd H8 og (.lst ((zaG up cs.length).map V.int))) := Same.upd hog; have q9 : (upd H8 og (.lst ((zaG up cs.length).map V.int))) og = some (.lst ((zaG up cs.length).map V.int)) := zab; generalize upd H8 og (.lst ((zaG up cs.length).map V.int)) = H9 at s9 q9 ⊢; have s69 := s68.trans s9; have U9 := U6.keep s69; have c9 := s69 _ _ q6; have hol : (zaG up cs.length).length = cs.length := zhx _ _; have hin : ∀ i : Int,i ∈ zaG up cs.length -> 0 <= i /\ i < cs.length := fun i hi => zoo hi; obtain ⟨qf,hqf⟩ := U9.refs; refine ⟨_,rfl,_,rfl,og,rfl,⟨_,SqL.of q9⟩,zfv (xs := (zaG up cs.length).map V.int) (fun _ => true) (fun v => match v with | .int i => .ref (qf i.toNat) | v => v) (SqL.of q9) (by rw [List.length_map]; omega) ?_ ?_ ?_⟩
    . intro x hx D ys R hD hR; exact hR
    . intro x hx _ D ys R hD hR; obtain ⟨i,hi,rfl⟩ := List.mem_map.mp hx; have hii := hin i hi; have s1 : Same H9 (upd H9 D (.lst ys)) := Same.upd hD; obtain ⟨t,ht,h1,_⟩ := U9.numQ hqf hii.1 hii.2; exact ⟨_,rfl,_,rfl,c,_,_,_,rfl,rfl,SqL.of (s1 _ _ c9),ht,t,_,2,_,rfl,rfl,Same.tup s1 h1,at2,hR⟩
    intro Dd hDd
    have e1 : (((zaG up cs.length).map V.int).filter fun _ => true).map (fun v => match v with | .int i => V.ref (qf i.toNat) | v => v) = (zaG up cs.length).map fun i => V.ref (qf i.toNat) := by
      rw [List.filter_eq_self.mpr fun _ _ => rfl,List.map_map]; rfl
    rw [e1]; have s10 : Same H9 (upd H9 Dd (.lst ((zaG up cs.length).map fun i => V.ref (qf i.toNat)))) := Same.upd hDd; have q10 : (upd H9 Dd (.lst ((zaG up cs.length).map fun i => V.ref (qf i.toNat)))) Dd = some (.lst ((zaG up cs.length).map fun i => V.ref (qf i.toNat))) := zab; generalize upd H9 Dd (.lst ((zaG up cs.length).map fun i => V.ref (qf i.toNat))) = H10 at s10 q10 ⊢
    have hD1 : znX K H10 kd ((zaG up cs.length).map fun i => V.ref (qf i.toNat)) ((zaG up cs.length).map fun i => (zah cs i).d) := by
      refine ⟨by simp,fun i v e => ?_⟩
      rw [List.getElem?_map] at e; obtain ⟨z,hz,rfl⟩ := Option.map_eq_some_iff.mp e; have hzz := hin z (List.mem_of_getElem? hz); obtain ⟨t,_,_,h3,h4⟩ := U9.numQ hqf hzz.1 hzz.2; exact ⟨_,_,rfl,by rw [List.getElem?_map,hz]; rfl,Same.tup s10 h3,h4.2.1,h4.2.2⟩
    refine ⟨kd,Dd,_,_,rfl,hk,SqL.of q10,hD1,by rw [List.length_map]; omega,fun H11 pg s11 hpg => ?_⟩
    generalize hpl : zdb (t0 kd) ((zaG up cs.length).map fun i => (zah cs i).d) = pl at hpg; have hpll : pl.length = cs.length := by rw [<- hpl,zev,List.length_map,hol]
    have s9b := s10.trans s11; have c11 := s9b _ _ c9; have o11 := s9b _ _ q9; have s0b := (s6.trans s69).trans s9b; have U11 := U9.keep s9b; refine ⟨_,rfl,_,_,.type "list",true,rfl,.inr (.inr ⟨rfl,pg,_,rfl,SqL.of hpg⟩),.inl ⟨_,rfl,rfl⟩,_,rfl,zaE ?_⟩; refine ⟨_,rfl,pg,_,rfl,.inl (SqL.of hpg),_,rfl,c,us,rfl,.inl (SqL.of c11),rfl,_,rfl,?_⟩; refine zda (by rw [zey,List.length_map,hpll,hul]; simp) ?_
    refine ⟨ziS a kd g4 c w5 l2 og pg H up cs K,?_,?_⟩
    . refine ⟨_,rfl,a,ns,1,rfl,s0b.seq hS,by decide,_,_,rfl,rfl,.inr ⟨by decide,by decide⟩,_,_,rfl,rfl,(by show (0 : Int) < _; first | decide | omega),_,_,rfl,rfl,(by show (0 : Int) < _; first | decide | omega),_,_,rfl,rfl,_,rfl,znE (fun _ => ?_) fun _ => ⟨_,_,_,_,_,us,cs,rfl,s0b,c11,o11,U11,rfl,hT6⟩⟩
      refine ⟨_,rfl,og,_,rfl,.inl (SqL.of o11),((zaG up cs.length).length : Int),by rw [List.length_map],by omega,by omega,zcJ (lo := 0) (zh3 a kd g4 c w5 l2 og pg H up cs pl K)
        ⟨_,_,_,_,_,us,cs,rfl,s0b,c11,o11,hpg,U11,rfl,hT6⟩ ?_ ?_⟩
      . rintro i σ' H12 hi ⟨x4,x9,x10,x11,x12,us',cs',rfl,s12,c12,o12,p12,U12,hcl',hT12⟩; have hio : i < (zaG up cs.length).length := by omega
        obtain ⟨z,hz⟩ : ∃ z,(zaG up cs.length)[i]? = some z := ⟨_,List.getElem?_eq_getElem hio⟩; have hzz := hin z (List.mem_of_getElem? hz)
        have hoa : atI ((zaG up cs.length).map V.int) (0 + (i : Int)) = some (.int z) := by
          rw [show (0 + (i : Int)) = ((i : Nat) : Int) by omega]
          exact zbO (by rw [List.getElem?_map,hz]; rfl)
        obtain ⟨pa,hpa⟩ : ∃ pa,pl[i]? = some pa := ⟨_,List.getElem?_eq_getElem (by omega)⟩
        have hpat : atI (pl.map aV) (0 + (i : Int)) = some (aV pa) := by
          rw [show (0 + (i : Int)) = ((i : Nat) : Int) by omega]
          exact zbO (by rw [List.getElem?_map,hpa]; rfl)
        obtain ⟨u,hu,⟨t,q,rfl,ht,hq⟩,hok⟩ := U12.num (i := z) hzz.1 (by omega)
        have hul' : us'.length = cs.length := by rw [U12.len,hcl']
        refine ⟨_,rfl,_,rfl,_,rfl,og,_,_,_,rfl,rfl,SqL.of o12,hoa,c,_,_,_,rfl,rfl,SqL.of c12,hu,t,_,rfl,ht,rfl,_,_,rfl,_,_,rfl,_,_,rfl,_,_,rfl,rfl,?_⟩; refine ⟨_,rfl,_,rfl,_,rfl,_,rfl,_,rfl,pg,_,_,_,rfl,rfl,SqL.of p12,hpat,nlb rfl,fun t2 ht2 => ?_⟩; have t13 := Same.upd (o := .tup [.int (zah cs' z).b,.int (zah cs' z).e,.ref q,aV pa]) ht2; have r13 := zab (H := H12) (a := t2) (o := .tup [.int (zah cs' z).b,.int (zah cs' z).e,.ref q,aV pa]); generalize upd H12 t2 (.tup [.int (zah cs' z).b,.int (zah cs' z).e,.ref q,aV pa]) = H13 at t13 r13 ⊢; have c13 := t13 _ _ c12
        have hix : ixN us'.length z = some z.toNat := by
          unfold ixN; rw [if_pos hzz.1,if_pos (by omega)]
        refine ⟨_,rfl,_,rfl,_,rfl,og,_,_,_,rfl,rfl,SqL.of (t13 _ _ o12),hoa,c,_,_,_,rfl,rfl,c13,hix,?_⟩
        have nco : og ≠ c \/ (zaG up cs.length = [] /\ us' = []) := by
          by_cases z' : og = c
          . exfalso; rw [z',c12] at o12; have e2 := HO.lst.inj (Option.some.inj o12)
            cases hus : us' with
            | nil => rw [hus] at hul'; simp at hul'; omega
            | cons v0 vr =>
              rw [hus] at e2 U12; obtain ⟨_,_,⟨t',_,e3,_⟩,_⟩ := U12.at_ 0 v0 rfl; subst e3
              cases ho : zaG up cs.length with
              | nil => rw [ho] at e2; cases e2
              | cons y yr => rw [ho] at e2; cases e2
          . exact .inl z'
        have npc : pg ≠ c := fun z' => by
          rw [z',c12] at p12; have e2 := HO.lst.inj (Option.some.inj p12)
          cases hus : us' with
          | nil => rw [hus] at hul'; simp at hul'; omega
          | cons v0 vr =>
            rw [hus] at e2 U12; obtain ⟨_,_,⟨t',_,e3,_⟩,_⟩ := U12.at_ 0 v0 rfl; subst e3
            cases ho : pl with
            | nil => rw [ho] at e2; cases e2
            | cons y yr =>
              rw [ho] at e2
              cases y <;> cases e2
        refine ⟨_,_,_,_,_,us'.set z.toNat (.ref t2),cs'.set z.toNat ⟨(zah cs' z).b,(zah cs' z).e,(zah cs' z).d,pa⟩,rfl,fun b o h => ?_,zab,?_,?_,?_,by rw [List.length_set]; exact hcl',?_⟩
        . rw [zaj (zam h nc)]; exact t13 _ _ (s12 _ _ h)
        . rcases nco with h | ⟨h,_⟩
          . rw [zaj h]; exact t13 _ _ o12
          . rw [h] at hz; simp at hz
        . rw [zaj npc]; exact t13 _ _ p12
        . refine (Calls.updL c13 (U12.keep t13)).set _ (CallT.updL c13 ⟨t2,q,rfl,SqT.of r13,Same.tup t13 hq⟩) ⟨hok.1,hok.2⟩
        . have ez : ((z.toNat : Nat) : Int) = z := by omega
          exact zkI hT12 (by omega) (by rw [ez]) (by rw [ez])
      . rintro σ' H12 ⟨x4,x9,x10,x11,x12,us',cs',rfl,s12,c12,o12,p12,U12,hcl',hT12⟩; exact ⟨_,_,_,_,_,us',cs',rfl,s12,c12,o12,U12,hcl',hT12⟩
    clear hpl hD1 hqf; rintro σ' H12 ⟨x4,x9,x10,x11,x12,us',cs',rfl,s12,c12,o12,U12,hcl',hT12⟩; have hul' : us'.length = cs.length := by rw [U12.len,hcl']
    rw [<- hcl'] at o12; have hn30' : cs'.length <= 30 := by omega
    have hulx : us'.length = cs'.length := U12.len; refine ⟨nlb rfl,fun p5 hp5 => ?_⟩; have s13 : Same H12 (upd H12 p5 (.lst [.str "none",.str "order"])) := Same.upd hp5; have q13 : (upd H12 p5 (.lst [.str "none",.str "order"])) p5 = some (.lst [.str "none",.str "order"]) := zab; generalize upd H12 p5 (.lst [.str "none",.str "order"]) = H13 at s13 q13 ⊢; refine ⟨_,rfl,_,rfl,_,rfl,kd,c,og,us',cs',zaG up cs'.length,rfl,hk,SqL.of (s13 _ _ c12),U12.keep s13,SqL.of (s13 _ _ o12),by omega,by rw [zhx]; omega,fun H14 s14 => ?_⟩
    rw [zmp hT12]
    obtain ⟨due,hdue,hdat⟩ : ∃ due : Str,due = (if zdU kd cs' (zaG up cs'.length) = true then "order" else "none") /\ atI [V.str "none",.str "order"] (if zdU kd cs' (zaG up cs'.length) = true then 1 else 0) = some (.str due) := by
      cases zdU kd cs' (zaG up cs'.length) with
      | true => exact ⟨_,rfl,at1⟩
      | false => exact ⟨_,rfl,at0⟩
    refine .inr ⟨_,rfl,p5,_,_,_,rfl,rfl,SqL.of (s14 _ _ q13),hdat,?_⟩; have s24 := s13.trans s14; have c14 := s24 _ _ c12; have o14 := s24 _ _ o12; have U14 := U12.keep s24; have lam14 := LamTab.keep (s12.trans s24) hT; refine ⟨_,rfl,_,rfl,c,us',rfl,.inl (SqL.of c14),fun l5 hl5 => ?_⟩; have s15 : Same H14 (upd H14 l5 (.lst us')) := Same.upd hl5; have q15 : (upd H14 l5 (.lst us')) l5 = some (.lst us') := zab; generalize upd H14 l5 (.lst us') = H15 at s15 q15 ⊢; have hbe : ∀ x ∈ cs',x.b < x.e := fun x hx => (U14.ok x hx).1; have hsep := zgJ hT12; refine ⟨kd,l5,us',cs',_,rfl,hk,SqL.of q15,U14.keep s15,by omega,hsep.weigh hbe,?_,hsep.thin hbe kd,LamTab.keep s15 lam14,fun H16 p g gs t m16 lam16 hp hg hre hfl => ?_,fun H16 p D5 ws rs m16 lam16 hp hD5 hR hsh hsm hno => ?_⟩
    . show (zal cs'.length []).length + 1 <= 90000; rw [ziG]; simp [zaz]; omega
    . obtain ⟨eg,ea⟩ := zkB hT12 hre hfl; rw [ea] at hdue; have hdue' : due = "order" := hdue; subst hdue'; have c16 := m16.lst (s15 _ _ c14); have o16 := m16.lst (s15 _ _ o14); refine ⟨_,rfl,_,rfl,_,rfl,p,c,kd,us',cs',rfl,hk,SqL.of c16,(U14.keep s15).mv m16,by omega,.inl ⟨g,gs,hp,hg,by omega,fun H17 s17 => ⟨_,rfl,?_⟩⟩⟩
      rw [eg,zmp hT12,ea]; refine zaE ?_; refine ⟨_,rfl,p,_,0,_,rfl,rfl,SqT.of (s17 _ _ hp),at0,_,rfl,rfl,_,rfl,zaE ?_⟩; refine ⟨_,rfl,rfl,false,rfl,zaE ?_⟩; refine ⟨_,rfl,p,_,1,_,rfl,rfl,SqT.of (s17 _ _ hp),at1,_,rfl,?_⟩; refine ⟨_,_,zcu (SqL.of (s17 _ _ hg)),zcu (SqL.of (s17 _ _ o16)),zbS _,zbS _,?_⟩; rw [zcU,eg,decide_eq_true rfl]; exact k _
    . have ea := zjx hT12 hno; rw [ea] at hdue; have hdue' : due = "none" := hdue; subst hdue'; have c16 := m16.lst (s15 _ _ c14); refine ⟨_,rfl,_,rfl,_,rfl,p,c,kd,us',cs',rfl,hk,SqL.of c16,(U14.keep s15).mv m16,by omega,.inr ⟨D5,ws,rs,hp,hD5,hR,hsm,fun H17 s17 => ⟨_,rfl,?_⟩⟩⟩
      rw [hsh]; refine zaE ?_; refine ⟨_,rfl,p,_,0,_,rfl,rfl,SqT.of (s17 _ _ hp),at0,_,rfl,rfl,_,rfl,zaE ?_⟩; exact ⟨_,rfl,rfl,true,rfl,zaR (k _)⟩
end
theorem tp_mk {P : Program} {w : World} {K : Fg} {h : Heap} {mg : Str -> Option Value} (X : K.In h) (G : h.Ns mainGlobals mg) {st pt r b n : Addr} {t1 t2 t3 ne : Nat} {its : List ((Str × Nat) × (Str × Nat) × Addr × Value)} {np : Nat}
    (aS : PySem.W.nsIn K mainGlobals "STARTS" = some (some (.ref st))) (aP : PySem.W.nsIn K mainGlobals "PARTS" = some (some (.ref pt))) (aN : PySem.W.nsIn K mainGlobals "NoKind" = some (some (.ref n))) (aB : PySem.W.nsIn K mainGlobals "BadCall" = some (some (.ref b)))
    (lS : K.lookup st = some ⟨.type "dict",none,.dict #[⟨PyData.keyHash w.params "row",.str "row" t1,.ref r⟩,⟨PyData.keyHash w.params "number",.str "number" t2,.int 0 t3⟩] ne,#[]⟩)
    (lr : K.lookup r = some ⟨.type "tuple",none,.seq #[] 0,#[]⟩) (hS : (st == sysModules) = false) (hP : (pt == sysModules) = false)
    (lP : K.lookup pt = some ⟨.type "dict",none,.dict (its.map fun x => (⟨reduceHash (Builtin.Tuple.tupleHashOf [PyData.keyHash w.params x.1.1,PyData.keyHash w.params x.2.1.1]),.ref x.2.2.1,x.2.2.2⟩ : DictEntry)).toArray np,#[]⟩)
    (hit : ∀ x ∈ its,K.lookup x.2.2.1 = some ⟨.type "tuple",none,.seq #[.str x.1.1 x.1.2,.str x.2.1.1 x.2.1.2] 0,#[]⟩)
    (hk : Paired (fun (p : List Key × V) (q : List Key × Addr × Value) => p.1 = q.1 /\ RelV p.2 q.2.2) zd5 (its.map fun x => ([(Sum.inr x.1.1 : Key),Sum.inr x.2.1.1],x.2.2.1,x.2.2.2))) (nd : (its.map fun x => (x.1.1,x.2.1.1)).Nodup)
    (xN : PySem.W.excIn K n [.type "ValueError",.type "Exception",.type "BaseException",.type "object"] "ValueError.__new__" = true) (xB : PySem.W.excIn K b [.type "ValueError",.type "Exception",.type "BaseException",.type "object"] "ValueError.__new__" = true)
    (e1 : PySem.W.exmOne K (.ref b) (.ref b) = some true) (e2 : PySem.W.exmOne K (.ref n) (.ref b) = some false) (e3 : PySem.W.exmOne K (.ref n) (.ref n) = some true) : Tp P w K mg st pt r b n where
  mST := PySem.W.mg_of X G aS
  mPT := PySem.W.mg_of X G aP
  tST := zjk (xs := [("row",t1,.ref r),("number",t2,.int 0 t3)]) lS hS (.cons ⟨rfl,rfl⟩ (.cons ⟨rfl,_,rfl⟩ .nil)) (by show (["row","number"] : List Str).Nodup; decide)
  tPT := zjE lP hit hP hk nd
  em := fun _ => .inr ⟨_,#[],0,lr,rfl,rfl,Nat.zero_le _,.nil⟩
  kN := ⟨PySem.W.mg_of X G aN,xN⟩
  kB := ⟨PySem.W.mg_of X G aB,xB⟩
  e1 := e1
  e2 := e2
  e3 := e3
theorem all_mk {l : PySem.W.OpenLaw} {w : World} {K : Fg} {h : Heap} {mg : Str -> Option Value} {fa c : Addr} (X : K.In h) (G : h.Ns mainGlobals mg) (hfa : mg "law" = some (.ref fa)) {st pt r b n : Addr} (T : Tp l.prog w K mg st pt r b n)
    {f0 f1 f2 f3 f4 f5 f6 f7 f8 f9 f10 f11 f12 f13 f14 f15 f16 f17 f18 f19 f20 f21 f22 f23 f24 f25 f26 f27 f28 f29 f30 f31 f32 f33 f34 f35 f36 : Addr} {d0 d1 d2 d3 d4 d5 d6 d7 d8 d9 d10 d11 d12 d13 d14 d15 d16 d17 d18 d19 d20 d21 d22 d23 d24 d25 d26 d27 d28 d29 d30 d31 d32 d33 d34 d35 d36 : FuncData}
    (a0 : FnAt K "check_kind" zcT f0 d0)
    (a1 : FnAt K "start" zhD f1 d1)
    (a2 : FnAt K "is_whole_number" zbF f2 d2)
    (a3 : FnAt K "has_parts" zdg f3 d3)
    (a4 : FnAt K "can_do" zfL f4 d4)
    (a5 : FnAt K "check_deed" zcR f5 d5)
    (a6 : FnAt K "do_row" zfI f6 d6)
    (a7 : FnAt K "do_number" zdl f7 d7)
    (a8 : FnAt K "do_deed" zeE f8 d8)
    (a9 : FnAt K "answers" zeB f9 d9)
    (a10 : FnAt K "check_times" zcx f10 d10)
    (a11 : FnAt K "free_calls" zbm f11 d11)
    (a12 : FnAt K "check_calls" zcz f12 d12)
    (a13 : FnAtC K "fitting_call" zaQ f13 d13 c)
    (a14 : FnAt K "can_come_out" zaX f14 d14)
    (a15 : FnAt K "ways_on" zeH f15 d15)
    (a16 : FnAt K "search_order" zcj f16 d16)
    (a17 : FnAt K "things_behind" zbV f17 d17)
    (a18 : FnAt K "next_level" zcS f18 d18)
    (a19 : FnAt K "dead_ends" zcs f19 d19)
    (a20 : FnAt K "order_of" zdX f20 d20)
    (a21 : FnAt K "_law_whole" zcV f21 d21)
    (a22 : FnAt K "_law_at" zeO f22 d22)
    (a23 : FnAt K "_law_done" zdw f23 d23)
    (a24 : FnAt K "_law_deed_of" zca f24 d24)
    (a25 : FnAt K "_law_kept" zbz f25 d25)
    (a26 : FnAt K "_law_spoilt" zcA f26 d26)
    (a27 : FnAt K "_law_keeps_time" zbC f27 d27)
    (a28 : FnAt K "_law_holds" zcY f28 d28)
    (a29 : FnAt K "_law_as_drawn" zbX f29 d29)
    (a30 : FnAt K "_law_as_told" zb8 f30 d30)
    (a31 : FnAt K "_law_is_end" zbv f31 d31)
    (a32 : FnAt K "_law_shows" zcX f32 d32)
    (a33 : FnAt K "_law_are_ends" zbY f33 d33)
    (a34 : FnAt K "_law_are_numbers" zby f34 d34)
    (a35 : FnAt K "_law_told_right" zbB f35 d35)
    (a36 : FnAt K "law" zbp f36 d36)
    (hCP : zjb K c = true)
    (z_any : PySem.W.nsIn K mainGlobals "any" = some none)
    (z_bool : PySem.W.nsIn K mainGlobals "bool" = some none)
    (z_enumerate : PySem.W.nsIn K mainGlobals "enumerate" = some none)
    (z_int : PySem.W.nsIn K mainGlobals "int" = some none)
    (z_isinstance : PySem.W.nsIn K mainGlobals "isinstance" = some none)
    (z_len : PySem.W.nsIn K mainGlobals "len" = some none)
    (z_list : PySem.W.nsIn K mainGlobals "list" = some none)
    (z_min : PySem.W.nsIn K mainGlobals "min" = some none)
    (z_range : PySem.W.nsIn K mainGlobals "range" = some none)
    (z_reversed : PySem.W.nsIn K mainGlobals "reversed" = some none)
    (z_sorted : PySem.W.nsIn K mainGlobals "sorted" = some none)
    (z_str : PySem.W.nsIn K mainGlobals "str" = some none)
    (z_tuple : PySem.W.nsIn K mainGlobals "tuple" = some none)
    : ∃ (fd : FuncData) (f c Pt : Addr) (o : Obj) (fl : FuncData),(∀ (s : Shared) (v : Value),BindsTo s fd ⟨[v],[]⟩ [("_law_script",v)]) /\ mg "fitting_call" = some (.ref f) /\ K.lookup f = some o /\ o.data = .func fl /\ fl.code = .ref c /\ PySem.W.codeHdIn K c Pt = true /\ K.lookup Pt = none /\ ∀ base : Heap,K.In base -> base.Ns mainGlobals mg -> BAt mg base -> FnOk l.prog w K mg base CX0 40 fa fd ["_law_script"] (zio K Pt) := by
  obtain ⟨Pt,hC,hPK⟩ := zl0 hCP; have e := hfa.symm.trans (PySem.W.mg_of X G a36.ns); cases e; have B : Bl mg := ⟨PySem.W.mg_none_of X G z_any,PySem.W.mg_none_of X G z_bool,PySem.W.mg_none_of X G z_enumerate,PySem.W.mg_none_of X G z_int,PySem.W.mg_none_of X G z_isinstance,PySem.W.mg_none_of X G z_len,PySem.W.mg_none_of X G z_list,PySem.W.mg_none_of X G z_min,PySem.W.mg_none_of X G z_range,PySem.W.mg_none_of X G z_reversed,PySem.W.mg_none_of X G z_sorted,PySem.W.mg_none_of X G z_str,PySem.W.mg_none_of X G z_tuple⟩; obtain ⟨oc,od,kV,doc,pm,an,ct,osl,e1,lk,hcd⟩ := a13.fn.ex; obtain ⟨oc2,od2,kV2,doc2,pm2,an2,cdv2,ct2,osl2,e2,lk2,hcd2⟩ := a36.fn.ex; refine ⟨d36,f13,c,Pt,_,d13,fun s v => by subst e2; exact .of_eq rfl,PySem.W.mg_of X G a13.ns,lk,rfl,by subst e1; rfl,hC,hPK,fun base _ _ hB => ?_⟩
  have g_check_kind := a0.gX X G (zgs (P := l.prog) (w := w) (base := base) a0.fn B T ) (bt1 fun _ _ _ _ _ _ _ => rfl); have g_start := a1.g X G (zmf (P := l.prog) (w := w) (base := base) a1.fn B T g_check_kind) (bt1 fun _ _ _ _ _ _ _ => rfl); have g_is_whole_number := a2.g X G (zd0 (P := l.prog) (w := w) (base := base) a2.fn B ) (bt1 fun _ _ _ _ _ _ _ => rfl); have g_has_parts := a3.g X G (zhr (P := l.prog) (w := w) (base := base) a3.fn B g_is_whole_number) (bt2 fun _ _ _ _ _ _ _ _ => rfl); have g_can_do := a4.g X G (zkV (P := l.prog) (w := w) (base := base) a4.fn B T g_has_parts) (bt2 fun _ _ _ _ _ _ _ _ => rfl); have g_check_deed := a5.gX X G (zgw (P := l.prog) (w := w) (base := base) a5.fn B T g_can_do g_check_kind) (bt2 fun _ _ _ _ _ _ _ _ => rfl); have g_do_row := a6.g X G (zkH (P := l.prog) (w := w) (base := base) a6.fn B ) (bt2 fun _ _ _ _ _ _ _ _ => rfl); have g_do_number := a7.g X G (zh0 (P := l.prog) (w := w) (base := base) a7.fn B ) (bt2 fun _ _ _ _ _ _ _ _ => rfl); have g_do_deed := a8.g X G (zjr (P := l.prog) (w := w) (base := base) a8.fn B g_do_number g_do_row) (bt3 fun _ _ _ _ _ _ _ _ _ => rfl); have g_answers := a9.g X G (zi5 (P := l.prog) (w := w) (base := base) a9.fn B T g_check_deed g_do_deed g_start) (bt2 fun _ _ _ _ _ _ _ _ => rfl); have g_check_times := a10.g X G (zfJ (P := l.prog) (w := w) (base := base) a10.fn B ) (bt1 fun _ _ _ _ _ _ _ => rfl); have g_free_calls := a11.g X G (zgA (P := l.prog) (w := w) (base := base) a11.fn B g_check_times) (bt2 fun _ _ _ _ _ _ _ _ => rfl); have g_check_calls := a12.g X G (zfU (P := l.prog) (w := w) (base := base) a12.fn B T g_check_deed g_check_kind g_check_times) (bt2 fun _ _ _ _ _ _ _ _ => rfl); have g_fitting_call := a13.g X G (zff (P := l.prog) (w := w) (base := base) a13.fn B hB hC ) (bt2 fun _ _ _ _ _ _ _ _ => rfl); have g_can_come_out := a14.g X G (zfl (P := l.prog) (w := w) (base := base) a14.fn B g_fitting_call) (bt3 fun _ _ _ _ _ _ _ _ _ => rfl); have g_ways_on := a15.g X G (zjy (P := l.prog) (w := w) (base := base) a15.fn B g_do_deed g_free_calls) (bt4 fun _ _ _ _ _ _ _ _ _ _ => rfl); have g_search_order := a16.g X G (zfi (P := l.prog) (w := w) (base := base) a16.fn B T g_can_come_out g_start g_ways_on) (bt2 fun _ _ _ _ _ _ _ _ => rfl); have g_things_behind := a17.g X G (zeU (P := l.prog) (w := w) (base := base) a17.fn B g_do_deed) (bt3 fun _ _ _ _ _ _ _ _ _ => rfl); have g_next_level := a18.g X G (zgB (P := l.prog) (w := w) (base := base) a18.fn B g_free_calls g_things_behind) (bt3 fun _ _ _ _ _ _ _ _ _ => rfl); have g_dead_ends := a19.g X G (zhu (P := l.prog) (w := w) (base := base) a19.fn B T g_next_level g_start) (bt2 fun _ _ _ _ _ _ _ _ => rfl)
  have g_order_of := a20.g X G (zii (P := l.prog) (w := w) (base := base) a20.fn B T g_check_calls g_dead_ends g_search_order) (bt2 fun _ _ _ _ _ _ _ _ => rfl); have g__law_whole := a21.g X G (zgv (P := l.prog) (w := w) (base := base) a21.fn B ) (bt1 fun _ _ _ _ _ _ _ => rfl); have g__law_at := a22.g X G (zjj (P := l.prog) (w := w) (base := base) a22.fn B ) (bt2 fun _ _ _ _ _ _ _ _ => rfl); have g__law_done := a23.g X G (zhi (P := l.prog) (w := w) (base := base) a23.fn B ) (bt3 fun _ _ _ _ _ _ _ _ _ => rfl); have g__law_deed_of := a24.g X G (zfe (P := l.prog) (w := w) (base := base) a24.fn B ) (bt3 fun _ _ _ _ _ _ _ _ _ => rfl); have g__law_kept := a25.g X G (zho (P := l.prog) (w := w) (base := base) a25.fn B g__law_deed_of g__law_done) (bt4 fun _ _ _ _ _ _ _ _ _ _ => rfl); have g__law_spoilt := a26.g X G (zfH (P := l.prog) (w := w) (base := base) a26.fn B ) (bt2 fun _ _ _ _ _ _ _ _ => rfl); have g__law_keeps_time := a27.g X G (zd4 (P := l.prog) (w := w) (base := base) a27.fn B ) (bt2 fun _ _ _ _ _ _ _ _ => rfl); have g__law_holds := a28.g X G (zgC (P := l.prog) (w := w) (base := base) a28.fn B g__law_done g__law_keeps_time) (bt3 fun _ _ _ _ _ _ _ _ _ => rfl); have g__law_as_drawn := a29.g X G (ze3 (P := l.prog) (w := w) (base := base) a29.fn B ) (bt2 fun _ _ _ _ _ _ _ _ => rfl); have g__law_as_told := a30.g X G (zfh (P := l.prog) (w := w) (base := base) a30.fn B ) (bt2 fun _ _ _ _ _ _ _ _ => rfl); have g__law_is_end := a31.g X G (zfw (P := l.prog) (w := w) (base := base) a31.fn B g__law_as_drawn g__law_as_told g__law_done) (bt4 fun _ _ _ _ _ _ _ _ _ _ => rfl); have g__law_shows := a32.g X G (zgy (P := l.prog) (w := w) (base := base) a32.fn B g__law_is_end) (bt3 fun _ _ _ _ _ _ _ _ _ => rfl); have g__law_are_ends := a33.g X G (zeJ (P := l.prog) (w := w) (base := base) a33.fn B g__law_whole) (bt2 fun _ _ _ _ _ _ _ _ => rfl); have g__law_are_numbers := a34.g X G (zdK (P := l.prog) (w := w) (base := base) a34.fn B g__law_whole) (bt1 fun _ _ _ _ _ _ _ => rfl); have g__law_told_right := a35.g X G (zdW (P := l.prog) (w := w) (base := base) a35.fn B g__law_are_ends g__law_are_numbers g__law_holds g__law_shows) (bt3 fun _ _ _ _ _ _ _ _ _ => rfl); exact (zoI a36.fn B  g__law_at g__law_holds g__law_kept g__law_spoilt g__law_told_right g_answers g_order_of).mono (by decide)
theorem walk {l : PySem.W.OpenLaw} {q : Program} {loose : List Str} {XP : (Str -> Option Value) -> Heap -> Prop} {YP : World -> Heap -> Prop} {d : DefRec} {K : Params -> PySem.W.Frag} (hn : l.most = some 63) (hdf : d.params.defaults = [])
    (hY : ∀ (w : World) (h : Heap),YP w h -> (K w.params).In h)
    (hrec : (PyProof.Rows.recsOf q).any (fun dl => dl.name == "fitting_call") = true)
    (F : ∀ (w : World) (mg : Str -> Option Value) (fa : Addr) (h : Heap),(K w.params).In h -> h.Ns mainGlobals mg -> mg d.name = some (.ref fa) →
      ∃ (fd : FuncData) (f c Pt : Addr) (o : Obj) (fl : FuncData),(∀ (s : Shared) (v : Value),BindsTo s fd ⟨[v],[]⟩ [("_law_script",v)]) /\ mg "fitting_call" = some (.ref f) /\ (K w.params).lookup f = some o /\ o.data = .func fl /\ fl.code = .ref c /\ PySem.W.codeHdIn (K w.params) c Pt = true /\ (K w.params).lookup Pt = none /\ ∀ base : Heap,(K w.params).In base -> base.Ns mainGlobals mg -> BAt mg base -> FnOk l.prog w (K w.params) mg base CX0 40 fa fd ["_law_script"] (zio (K w.params) Pt)) :
    PySem.W.WalkO q loose XP YP l.row.toRowW d [] (fun f vs => PySem.call f vs) :=
  L2.walk_ofP (n := 63) (k := 40) (x := "_law_script") (lam := "fitting_call") (CX := fun _ => CX0) (sp := fun w Pt => zio (K w.params) Pt) hn (by decide) hdf ⟨rfl,by decide,by decide⟩ hY (by obtain ⟨dl,h1,h2⟩ := List.any_eq_true.mp hrec; exact ⟨dl,h1,by simpa using h2⟩) F (fun _ _ _ a ns hl hP hS => ⟨a,ns,rfl,hS,hl,.inl hP,fun _ => rfl⟩) fun _ _ _ _ _ z => z
end My
open PySem PySem.W PyProof.Rows
set_option maxRecDepth 100000 in
set_option maxHeartbeats 0 in
theorem PySem.Challenge.cw_callorder_k10_whole_one_after_the_other_holds : PySem.Challenge.rw_callorder_k10_whole_one_after_the_other.Holds := by
  w_on; o_law
  refine holds_open (q := HD.q0) (loose := HD.loose0) (Xt := HD.Xt0) (XP := XL HD.q0 []) (Yf := Hook.obs HD.hk) (Ya := Hook.val HD.hk) (YP := Hook.says HD.hk) HD.left0 (Hook.of HD.hk) (Hook.keeps HD.hk) (fun s e => xl_of s (Bool.and_eq_true_iff.mp e).1) XL.keeps (by rfl) (by rfl) (by rfl) (fun s e => recFacts_of (Bool.and_eq_true_iff.mp e).2) (by rfl) (by first | assumption | decide +kernel) (by decide +kernel) ⟨rfl,rfl,rfl,rfl,rfl,by decide +kernel⟩ ?hw ?hc
  (case hw => w_witness2)
  k_fill
  refine My.walk (l := PySem.Challenge.rw_callorder_k10_whole_one_after_the_other) rfl rfl (fun w h Y => PySem.W.kIn_of Y) ?rec ?F
  case rec => kernel_rfl
  case F =>
    intro w mg fa h KX G hmg
    have T := My.tp_mk (P := PySem.Challenge.rw_callorder_k10_whole_one_after_the_other.prog) (w := w) KX G (st := 52) (pt := 54) (r := 53) (its := [(("row",247),("put",248),55,.int 3 249),(("row",250),("take",251),56,.int 2 252),(("row",253),("look",254),57,.int 2 255),(("number",256),("set",257),58,.int 3 258),(("number",259),("add",260),59,.int 3 261),(("number",262),("look",263),60,.int 2 264)])
      rfl rfl rfl rfl rfl rfl (by decide) (by decide) rfl
      (fun x hx => by
        simp only [List.mem_cons,List.not_mem_nil,or_false] at hx
        rcases hx with rfl | rfl | rfl | rfl | rfl | rfl <;> rfl)
      (.cons ⟨rfl,_,rfl⟩ (.cons ⟨rfl,_,rfl⟩ (.cons ⟨rfl,_,rfl⟩ (.cons ⟨rfl,_,rfl⟩ (.cons ⟨rfl,_,rfl⟩ (.cons ⟨rfl,_,rfl⟩ .nil)))))) (by decide) (by kernel_rfl) (by kernel_rfl) (by kernel_rfl) (by kernel_rfl) (by kernel_rfl)
    refine' My.all_mk KX G hmg T ?a0 ?a1 ?a2 ?a3 ?a4 ?a5 ?a6 ?a7 ?a8 ?a9 ?a10 ?a11 ?a12 ?a13 ?a14 ?a15 ?a16 ?a17 ?a18 ?a19 ?a20 ?a21 ?a22 ?a23 ?a24 ?a25 ?a26 ?a27 ?a28 ?a29 ?a30 ?a31 ?a32 ?a33 ?a34 ?a35 ?a36 ?hCP ?z_any ?z_bool ?z_enumerate ?z_int ?z_isinstance ?z_len ?z_list ?z_min ?z_range ?z_reversed ?z_sorted ?z_str ?z_tuple
    (case a0 => exact L2.fnAt rfl rfl rfl rfl)
    (case a1 => exact L2.fnAt rfl rfl rfl rfl)
    (case a2 => exact L2.fnAt rfl rfl rfl rfl)
    (case a3 => exact L2.fnAt rfl rfl rfl rfl)
    (case a4 => exact L2.fnAt rfl rfl rfl rfl)
    (case a5 => exact L2.fnAt rfl rfl rfl rfl)
    (case a6 => exact L2.fnAt rfl rfl rfl rfl)
    (case a7 => exact L2.fnAt rfl rfl rfl rfl)
    (case a8 => exact L2.fnAt rfl rfl rfl rfl)
    (case a9 => exact L2.fnAt rfl rfl rfl rfl)
    (case a10 => exact L2.fnAt rfl rfl rfl rfl)
    (case a11 => exact L2.fnAt rfl rfl rfl rfl)
    (case a12 => exact L2.fnAt rfl rfl rfl rfl)
    (case a13 => exact L2.fnAtC rfl rfl rfl rfl)
    (case a14 => exact L2.fnAt rfl rfl rfl rfl)
    (case a15 => exact L2.fnAt rfl rfl rfl rfl)
    (case a16 => exact L2.fnAt rfl rfl rfl rfl)
    (case a17 => exact L2.fnAt rfl rfl rfl rfl)
    (case a18 => exact L2.fnAt rfl rfl rfl rfl)
    (case a19 => exact L2.fnAt rfl rfl rfl rfl)
    (case a20 => exact L2.fnAt rfl rfl rfl rfl)
    (case a21 => exact L2.fnAt rfl rfl rfl rfl)
    (case a22 => exact L2.fnAt rfl rfl rfl rfl)
    (case a23 => exact L2.fnAt rfl rfl rfl rfl)
    (case a24 => exact L2.fnAt rfl rfl rfl rfl)
    (case a25 => exact L2.fnAt rfl rfl rfl rfl)
    (case a26 => exact L2.fnAt rfl rfl rfl rfl)
    (case a27 => exact L2.fnAt rfl rfl rfl rfl)
    (case a28 => exact L2.fnAt rfl rfl rfl rfl)
    (case a29 => exact L2.fnAt rfl rfl rfl rfl)
    (case a30 => exact L2.fnAt rfl rfl rfl rfl)
    (case a31 => exact L2.fnAt rfl rfl rfl rfl)
    (case a32 => exact L2.fnAt rfl rfl rfl rfl)
    (case a33 => exact L2.fnAt rfl rfl rfl rfl)
    (case a34 => exact L2.fnAt rfl rfl rfl rfl)
    (case a35 => exact L2.fnAt rfl rfl rfl rfl)
    (case a36 => exact L2.fnAt rfl rfl rfl rfl)
    (case hCP => kernel_rfl)
    (case z_any => exact rfl)
    (case z_bool => exact rfl)
    (case z_enumerate => exact rfl)
    (case z_int => exact rfl)
    (case z_isinstance => exact rfl)
    (case z_len => exact rfl)
    (case z_list => exact rfl)
    (case z_min => exact rfl)
    (case z_range => exact rfl)
    (case z_reversed => exact rfl)
    (case z_sorted => exact rfl)
    (case z_str => exact rfl)
    (case z_tuple => exact rfl)
