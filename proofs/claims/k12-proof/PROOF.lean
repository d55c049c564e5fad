import PyProof.Rows.All
import Wide.All
import OpenK.AllK
import Wide.FinOn
import Lean
import PyProof.EqAt
import PyProof.EqKinds
import PyProof.TupleCall
import KE.KLam
import KE.KNestM
import KE.KMinKey
import PyProof.StrWalks
import PyProof.EnumMake
import PyProof.Rows.StrNews
import PyProof.ReprReads
import PyProof.StrLawsIdx
import PyProof.StrBlockG
import Open.Tops
import KE.KIntText
import PyProof.StrLawsTight
import PyProof.Rows.StrItems
import PySem.Challenge.RW_callorder_k12_calls_on_lines
set_option Elab.async false
set_option linter.all false
set_option maxRecDepth 100000
theorem nlb {a b : Nat} (h : Nat.ble a b = true) : a <= b := Nat.le_of_ble_eq_true h
theorem fnt : ¬ false = true := Bool.false_ne_true
abbrev Fg := PySem.W.Frag
namespace L2
open PySem PySem.Spec PyProof.Rows
abbrev Key := Sum Int Str
def zep : Key -> Value -> Bool
  | .inl k,v => Value.isInt k v
  | .inr x,v => Value.isStrOf x v
def zkr (w : World) : Key -> Int
  | .inl k => hashInt k
  | .inr x => hashStr w x
theorem zaG : ∀ {k : Key} {v : Value},zep k v = true -> (∃ i t,k = Sum.inl i /\ v = Value.int i t) \/ (∃ x t,k = Sum.inr x /\ v = Value.str x t)
  | .inl i,v,h => by
    obtain ⟨t,e⟩ := Value.isInt_shape (k := i) (v := v) h; exact .inl ⟨i,t,rfl,e⟩
  | .inr x,v,h => by
    obtain ⟨t,e⟩ := Value.isStrOf_shape (x := x) (v := v) h; exact .inr ⟨x,t,rfl,e⟩
theorem zgq (i : Int) (t : Tok) : zep (.inl i) (.int i t) = true := by simp [zep,Value.isInt]
theorem zcS (x : Str) (t : Tok) : zep (.inr x) (.str x t) = true := by simp [zep,Value.isStrOf]
theorem zjf (a b : Int) : decide ((Sum.inl a : Key) = Sum.inl b) = (a == b) := by
  by_cases e : a = b
  . subst e; simp
  . have h : ¬ (Sum.inl a : Key) = Sum.inl b := fun q => e (Sum.inl.inj q); rw [decide_eq_false h]; exact (beq_eq_false_iff_ne.mpr e).symm
theorem zja (a b : Str) : decide ((Sum.inr a : Key) = Sum.inr b) = decide (a = b) := by
  by_cases e : a = b
  . subst e; simp
  . have h : ¬ (Sum.inr a : Key) = Sum.inr b := fun q => e (Sum.inr.inj q); rw [decide_eq_false h,decide_eq_false e]
theorem zi2 (a : Int) (b : Str) : decide ((Sum.inl a : Key) = Sum.inr b) = false := decide_eq_false (fun q => nomatch q)
theorem ziQ (a : Str) (b : Int) : decide ((Sum.inr a : Key) = Sum.inl b) = false := decide_eq_false (fun q => nomatch q)
def zbi (prog : Program) (w : World) : PySem.KeyKind prog w Key where
  is := zep
  hash := zkr w
  inj := fun v a b ha hb => by
    rcases zaG ha with ⟨i,t,rfl,rfl⟩ | ⟨x,t,rfl,rfl⟩
    . rcases zaG hb with ⟨j,u,rfl,e⟩ | ⟨y,u,rfl,e⟩
      . injection e with e1 _; rw [e1]
      . exact nomatch e
    . rcases zaG hb with ⟨j,u,rfl,e⟩ | ⟨y,u,rfl,e⟩
      . exact nomatch e
      . injection e with e1 _; rw [e1]
  byValue := fun k v h => by
    rcases zaG h with ⟨i,t,rfl,rfl⟩ | ⟨x,t,rfl,rfl⟩ <;> rfl
  pyHash := fun hv h => by
    rcases zaG hv with ⟨i,t,rfl,rfl⟩ | ⟨x,t,rfl,rfl⟩
    . exact wpAny_pyHash_int h
    . exact wpAny_pyHash_str h
  eqBool := fun hu hv h => by
    rcases zaG hu with ⟨i,t,rfl,rfl⟩ | ⟨x,t,rfl,rfl⟩
    . rcases zaG hv with ⟨j,u,rfl,rfl⟩ | ⟨y,u,rfl,rfl⟩
      . rw [zjf] at h; exact wpAny_eqBool_int h
      . rw [zi2] at h; exact SeqAt.EqAt.int_str i t y u _ _ _ _ h
    . rcases zaG hv with ⟨j,u,rfl,rfl⟩ | ⟨y,u,rfl,rfl⟩
      . rw [ziQ] at h; exact SeqAt.EqAt.str_int x t j u _ _ _ _ h
      . rw [zja] at h; exact wpAny_eqBool_str h
  «strs» := fun k x t v h => by
    rcases zaG h with ⟨i,u,rfl,e⟩ | ⟨y,u,rfl,e⟩
    . exact nomatch e
    . injection e with e1 _
      subst e1
      cases v <;> rfl
theorem zfg (prog : Program) (w : World) (i : Int) (t : Tok) : (zbi prog w).is (.inl i) (.int i t) = true := zgq i t
theorem zfo (prog : Program) (w : World) (x : Str) (t : Tok) : (zbi prog w).is (.inr x) (.str x t) = true := zcS x t
inductive V where
  | non | bl (b : Bool) | int (i : Int) | str (x : Str) | byt (b : Array UInt8) | flt (b : UInt64) | ref (a : Addr) | ty (n : String)
  deriving DecidableEq
def RelV : V -> Value -> Prop
  | .non,u => u = Value.none
  | .bl b,u => u = Value.bool b
  | .int i,u => ∃ t,u = Value.int i t
  | .str x,u => ∃ t,u = Value.str x t
  | .byt b,u => ∃ t,u = Value.bytes b t
  | .flt b,u => ∃ t,u = Value.float b t
  | .ref a,u => u = Value.ref a
  | .ty n,u => u = Value.type n
abbrev Vals : List V -> List Value -> Prop := Paired RelV
theorem Vals.length {xs : List V} {us : List Value} (r : Vals xs us) : xs.length = us.length := Paired.length r
theorem Vals.get : ∀ {xs : List V} {us : List Value} {i : Nat} {x : V},Vals xs us -> xs[i]? = some x -> ∃ u,us[i]? = some u /\ RelV x u
  | _,_,_,_,.nil,e => by simp at e
  | _,_,0,_,.cons r _,e => by simp at e; subst e; exact ⟨_,rfl,r⟩
  | _,_,i + 1,x,.cons _ t,e => by
    obtain ⟨u,h1,h2⟩ := Vals.get (i := i) (x := x) t (by simpa using e)
    exact ⟨u,by simpa using h1,h2⟩
theorem Vals.append : ∀ {xs ys : List V} {us ws : List Value},Vals xs us -> Vals ys ws -> Vals (xs ++ ys) (us ++ ws)
  | _,_,_,_,.nil,s => s
  | _,_,_,_,.cons r t,s => .cons r (Vals.append t s)
theorem Vals.take : ∀ {xs : List V} {us : List Value} (n : Nat),Vals xs us -> Vals (xs.take n) (us.take n)
  | _,_,0,_ => .nil
  | _,_,_ + 1,.nil => .nil
  | _,_,n + 1,.cons r t => .cons r (Vals.take n t)
theorem Vals.drop : ∀ {xs : List V} {us : List Value} (n : Nat),Vals xs us -> Vals (xs.drop n) (us.drop n)
  | _,_,0,r => r
  | _,_,_ + 1,.nil => .nil
  | _,_,n + 1,.cons _ t => Vals.drop n t
def RelO : Option V -> Option Value -> Prop
  | some v,some u => RelV v u
  | none,none => True
  | _,_ => False
def KV {κ : Type} : List (κ × V) -> List (κ × Value) -> Prop := Paired fun (p : κ × V) (q : κ × Value) => p.1 = q.1 /\ RelV p.2 q.2
def kV : Key -> V
  | .inl i => .int i
  | .inr x => .str x
inductive HO where
  /-- a list -/
  | lst (xs : List V)
  /-- a tuple (never changes) -/
  | tup (xs : List V)
  /-- a dict whose keys are ints and texts; one whose keys are tuples of ints and texts (the empty one is both) -/
  | dK (kvs : List (Key × V)) | dT (kvs : List (List Key × V))
  /-- a set of ints: its members,its size -/
  | set (S : Int -> Bool) (n : Nat)
  /-- an instance of the class at C,its dict at dx,its attributes -/
  | ins (C dx : Addr) (fs : List (Str × V))
  /-- the dict of the instance at x -/
  | own (x : Addr)
  /-- the dict of an exception -/
  | xd (fs : List (Str × V))
  /-- a bound method,f of x -/
  | met (f x : Addr)
  /-- a range object lo,lo + 1,.. below hi -/
  | rng (lo hi : Int)
  /-- a thing that is known to the object (the script; a dict while a loop walks it): read,never written while it is so -/
  | frz (o : Obj) (u : HO)
  /-- a code object's table -/
  | tbl (ps : Array Value)
  /-- any other thing,by what is true of its one object (a def of one's own: SetO a S n := HO.ext fun h => ..) -/
  | ext (φ : Heap -> Prop)
abbrev Hp := Addr -> Option HO
def upd (H : Hp) (a : Addr) (o : HO) : Hp := fun b => if b = a then some o else H b
theorem zab {H : Hp} {a : Addr} {o : HO} : upd H a o a = some o := by unfold upd; rw [if_pos rfl]
theorem zax {H : Hp} {a b : Addr} {o : HO} (h : b ≠ a) : upd H a o b = H b := by unfold upd; rw [if_neg h]
theorem zf7 {H : Hp} {a : Addr} {o u : HO} : upd (upd H a o) a u = upd H a u := by
  funext b; unfold upd; split <;> rfl
theorem zaX {H : Hp} {a b : Addr} {o : HO} (h : H a = some o) (h' : H b = none) : a ≠ b := by
  intro e; subst e; rw [h] at h'; cases h'
section
variable (P : Program) (w : World)
def ObjOk (H : Hp) (h : Heap) (a : Addr) : HO -> Prop
  | .lst xs => xs.length <= sizeLine /\ ∃ (its : List Value) (n : Nat),Vals xs its /\ h.get? a = some { cls := .type "list",data := .seq its.toArray n }
  | .tup xs => xs.length <= sizeLine /\ ∃ its : List Value,Vals xs its /\ IsTup h a its.toArray
  | .dK kvs => kvs.length <= sizeLine /\ (a == sysModules) = false /\ ∃ vs,KV kvs vs /\ h.DictOf (zbi P w) a vs
  | .dT kvs => kvs.length <= sizeLine /\ (a == sysModules) = false /\ ∃ xs : List (List Key × Addr × Value),
      Paired (fun (p : List Key × V) (q : List Key × Addr × Value) => p.1 = q.1 /\ H q.2.1 = some (.tup (p.1.map kV)) /\ RelV p.2 q.2.2) kvs xs ∧
      ∃ o es ep,h.get? a = some o /\ o.ExactDict /\ o.data = .dict es ep /\ es.toList = xs.map (entryOfKey (tupleKind (zbi P w))) /\ (xs.map (·.1)).Nodup
  | .set S n => h.SetOf (intKind P w) a S n
  | .ins C dx fs => H dx = some (.own a) /\ fs.length <= 1000 /\ dx ≠ a /\ h.get? a = some (PySem.W.instObj C dx) ∧
      ∃ mA,h.Ns1 dx mA /\ (∀ f,RelO (fs.lookup f) (mA f)) /\ PySem.Within mA (fs.map (·.1))
  | .own _ => ∃ o,h.get? a = some o
  | .xd fs => ∃ mA,h.Ns1 a mA /\ ∀ f,RelO (fs.lookup f) (mA f)
  | .rng lo hi => ∃ t u v,h.get? a = some { cls := .type "range",data := .fields #[.int lo t,.int hi u,.int 1 v] }
  | .frz o u => h.get? a = some o /\ ObjOk H h a u
  | .tbl ps => h.get? a = some { cls := .none,data := .fields ps }
  | .met f x => h.get? a = some (PySem.W.methodObj (.ref f) (.ref x))
  | .ext φ => φ h /\ (∃ o,h.get? a = some o) /\ ∀ h1 h2 : Heap,φ h1 -> (∀ o,h1.get? a = some o -> h2.get? a = some o) -> φ h2
def HOk (H : Hp) (h : Heap) : Prop := ∀ a o,H a = some o -> ObjOk P w H h a o
end
section
variable {P : Program} {w : World} {H H' : Hp} {h h' : Heap} {a : Addr} {o : HO}
theorem ObjOk.lt (x : ObjOk P w H h a o) : a < h.objs.size := by
  cases o with
  | lst xs => obtain ⟨_,_,_,_,e⟩ := x; exact Heap.lt_size e
  | tup xs => obtain ⟨_,_,_,p⟩ := x; exact p.lt
  | dK kvs => obtain ⟨_,_,_,_,o,_,_,e,_⟩ := x; exact Heap.lt_size e
  | dT kvs => obtain ⟨_,_,_,_,o,_,_,e,_⟩ := x; exact Heap.lt_size e
  | set S n => obtain ⟨o,_,_,_,e,_⟩ := x; exact Heap.lt_size e
  | ins C dx fs => obtain ⟨_,_,_,e,_⟩ := x; exact Heap.lt_size e
  | own y => obtain ⟨_,e⟩ := x; exact Heap.lt_size e
  | xd fs => obtain ⟨_,⟨_,_,_,e,_⟩,_⟩ := x; exact Heap.lt_size e
  | rng lo hi => obtain ⟨_,_,_,e⟩ := x; exact Heap.lt_size e
  | frz ob u => obtain ⟨e,_⟩ := x; exact Heap.lt_size e
  | tbl ps => exact Heap.lt_size (show h.get? a = some _ from x)
  | met f y => exact Heap.lt_size (show h.get? a = some _ from x)
  | ext φ => obtain ⟨_,⟨_,e⟩,_⟩ := x; exact Heap.lt_size e
theorem Paired.mapP {α β : Type} {F G : α -> β -> Prop} : ∀ {l₁ : List α} {l₂ : List β},Paired F l₁ l₂ -> (∀ a b,F a b -> G a b) -> Paired G l₁ l₂
  | _,_,.nil,_ => .nil
  | _,_,.cons r t,f => .cons (f _ _ r) (Paired.mapP t f)
theorem ObjOk.stay (x : ObjOk P w H h a o) (k : ∀ b u,(b = a \/ H b = some (.own a)) -> h.get? b = some u -> h'.get? b = some u)
    (ho : ∀ b,H b = some (.own a) -> H' b = some (.own a)) (ht : ∀ b xs,H b = some (.tup xs) -> H' b = some (.tup xs)) : ObjOk P w H' h' a o := by
  induction o with
  | lst xs => obtain ⟨z,its,n,r,e⟩ := x; exact ⟨z,its,n,r,k _ _ (.inl rfl) e⟩
  | tup xs => obtain ⟨z,its,r,ob,e,c⟩ := x; exact ⟨z,its,r,ob,k _ _ (.inl rfl) e,c⟩
  | dK kvs => obtain ⟨z,y,vs,r,ob,es,ep,e,c⟩ := x; exact ⟨z,y,vs,r,ob,es,ep,k _ _ (.inl rfl) e,c⟩
  | dT kvs =>
    obtain ⟨z,y,xs,r,ob,es,ep,e,c⟩ := x; exact ⟨z,y,xs,Paired.mapP r fun p q z => ⟨z.1,ht _ _ z.2.1,z.2.2⟩,ob,es,ep,k _ _ (.inl rfl) e,c⟩
  | set S n => obtain ⟨ob,es,ep,t,e,c⟩ := x; exact ⟨ob,es,ep,t,k _ _ (.inl rfl) e,c⟩
  | ins C dx fs =>
    obtain ⟨d,z,ne,e,mA,⟨od,es,ep,e2,c⟩,r⟩ := x; exact ⟨ho _ d,z,ne,k _ _ (.inl rfl) e,mA,⟨od,es,ep,k _ _ (.inr d) e2,c⟩,r⟩
  | own y => obtain ⟨ob,e⟩ := x; exact ⟨ob,k _ _ (.inl rfl) e⟩
  | xd fs => obtain ⟨mA,⟨od,es,ep,e,c⟩,r⟩ := x; exact ⟨mA,⟨od,es,ep,k _ _ (.inl rfl) e,c⟩,r⟩
  | rng lo hi => obtain ⟨t,u,v,e⟩ := x; exact ⟨t,u,v,k _ _ (.inl rfl) e⟩
  | frz ob u ih => obtain ⟨e,q⟩ := x; exact ⟨k _ _ (.inl rfl) e,ih q⟩
  | tbl ps =>
    have e : h.get? a = some { cls := .none,data := .fields ps } := x; show h'.get? a = some { cls := .none,data := .fields ps }; exact k a _ (.inl rfl) e
  | met f y =>
    have e : h.get? a = some (PySem.W.methodObj (.ref f) (.ref y)) := x; show h'.get? a = some (PySem.W.methodObj (.ref f) (.ref y)); exact k a _ (.inl rfl) e
  | ext φ => obtain ⟨p,⟨o,e⟩,st⟩ := x; exact ⟨st _ _ p fun o q => k _ _ (.inl rfl) q,⟨o,k _ _ (.inl rfl) e⟩,st⟩
theorem HOk.lt (x : HOk P w H h) (e : H a = some o) : a < h.objs.size := (x a o e).lt
theorem HOk.fresh (x : HOk P w H h) (e : h.objs.size <= a) : H a = none := by
  cases q : H a with
  | none => rfl
  | some u => exact absurd (Nat.lt_of_lt_of_le (x.lt q) e) (Nat.lt_irrefl _)
theorem HOk.kept (x : HOk P w H h) (k : ∀ b u,h.get? b = some u -> h'.get? b = some u) : HOk P w H h' := fun a o e =>
  (x a o e).stay (fun b u _ q => k b u q) (fun _ q => q) fun _ _ q => q
theorem HOk.laid (x : HOk P w H h) (k : ∀ b u,h.get? b = some u -> h'.get? b = some u) (hp : h.objs.size <= a) (new : ObjOk P w (upd H a o) h' a o) : HOk P w (upd H a o) h' := fun b u e => by
  have hn := x.fresh hp
  by_cases hb : b = a
  . subst hb; rw [zab] at e; cases e; exact new
  . rw [zax hb] at e; exact (x b u e).stay (fun c v _ q => k c v q) (fun c q => by rw [zax (zaX q hn)]; exact q) fun c xs q => by rw [zax (zaX q hn)]; exact q
end
def Rd (H : Hp) (a : Addr) (u : HO) : Prop := H a = some u \/ ∃ o,H a = some (.frz o u)
theorem Rd.ok {P : Program} {w : World} {H : Hp} {h : Heap} {a : Addr} {u : HO} (r : Rd H a u) (x : HOk P w H h) : ObjOk P w H h a u := by
  rcases r with r | ⟨o,r⟩
  . exact x a u r
  . obtain ⟨_,q⟩ := x a _ r; exact q
def Mut : Option HO -> Prop
  | some (.lst _) => True
  | some (.dK _) => True
  | some (.dT _) => True
  | some (.set _ _) => True
  | some (.ins _ _ _) => True
  | some (.ext _) => True
  | _ => False
section
variable {P : Program} {w : World} {H : Hp} {h h' : Heap} {x e : Addr} {o' : HO}
theorem HOk.write (ok : HOk P w H h) (mu : Mut (H x)) (he : e = x \/ H e = some (.own x)) (k : ∀ b u,b ≠ e -> h.get? b = some u -> h'.get? b = some u) (heo : ∃ u,h'.get? e = some u)
    (new : ObjOk P w (upd H x o') h' x o') : HOk P w (upd H x o') h' := fun b u q => by
  have nown : ∀ c y,H c = some (.own y) -> c ≠ x := fun c y r z => by subst z; rw [r] at mu; exact mu
  have ntup : ∀ c xs,H c = some (.tup xs) -> c ≠ x := fun c xs r z => by subst z; rw [r] at mu; exact mu
  by_cases hb : b = x
  . subst hb; rw [zab] at q; cases q; exact new
  . rw [zax hb] at q
    by_cases hbe : b = e
    . have q' : H b = some (.own x) := by
        rcases he with z | z
        . exact absurd (hbe.trans z) hb
        . rw [hbe]; exact z
      rw [q] at q'; cases q'; obtain ⟨v,hv⟩ := heo; exact ⟨v,by rw [hbe]; exact hv⟩
    . refine (ok b u q).stay (fun c v hc r => k c v ?_ r) (fun c r => by rw [zax (nown c b r)]; exact r) fun c xs r => by rw [zax (ntup c xs r)]; exact r
      rcases hc with rfl | hc
      . exact hbe
      . rintro rfl
        rcases he with z | z
        . exact nown c b hc z
        . rw [hc] at z; cases z; exact hb rfl
end
structure Un (fs ex : List Addr) (H H' : Hp) (h h' : Heap) : Prop where
  keep : ∀ b o,h.get? b = some o -> H b = none -> b ∉ fs -> b ∉ ex -> h'.get? b = some o
  slot : ∀ b o,h.get? b = some o -> H b = none -> b ∈ fs -> b ∉ ex -> ∃ sl,h'.get? b = some { o with slots := sl }
  free : ∀ b o,h.get? b = some o -> H b = none -> b ∉ ex -> H' b = none
  there : ∀ b o,h.get? b = some o -> b ∉ ex -> ∃ o',h'.get? b = some o'
  tups : ∀ b xs,H b = some (.tup xs) -> H' b = some (.tup xs)
  frzs : ∀ b o u,H b = some (.frz o u) -> H' b = some (.frz o u)
  tbls : ∀ b ps,H b = some (.tbl ps) -> ∃ more,H' b = some (.tbl (ps ++ more))
section
variable {fs fs' ex ex' : List Addr} {H H1 H2 : Hp} {h h1 h2 h' : Heap} {a x e : Addr} {o : HO}
theorem Un.any (u : Un fs ex H H1 h h1) {b : Addr} {ob : Obj} (q : h.get? b = some ob) (n : H b = none) (hx : b ∉ ex) : ∃ sl,h1.get? b = some { ob with slots := sl } := by
  by_cases hb : b ∈ fs
  . exact u.slot b ob q n hb hx
  . exact ⟨ob.slots,u.keep b ob q n hb hx⟩
theorem Un.kept (k : ∀ b u,h.get? b = some u -> h'.get? b = some u) : Un fs ex H H h h' :=
  ⟨fun b ob q _ _ _ => k b ob q,fun b ob q _ _ _ => ⟨ob.slots,k b ob q⟩,fun _ _ _ n _ => n,fun b ob q _ => ⟨ob,k b ob q⟩,fun _ _ q => q,fun _ _ _ q => q,fun _ ps q => ⟨#[],by rw [q]; simp⟩⟩
theorem Un.refl : Un fs ex H H h h := Un.kept fun _ _ q => q
theorem Un.laid (k : ∀ b u,h.get? b = some u -> h'.get? b = some u) (hp : h.objs.size <= a) (hn : H a = none) : Un fs ex H (upd H a o) h h' where
  keep := fun b u q _ _ _ => k b u q
  slot := fun b u q _ _ _ => ⟨u.slots,k b u q⟩
  free := fun b u q n _ => by rw [zax (Nat.ne_of_lt (Nat.lt_of_lt_of_le (Heap.lt_size q) hp))]; exact n
  there := fun b u q _ => ⟨u,k b u q⟩
  tups := fun b xs q => by rw [zax (zaX q hn)]; exact q
  frzs := fun b u xs q => by rw [zax (zaX q hn)]; exact q
  tbls := fun b ps q => ⟨#[],by rw [zax (zaX q hn),q]; simp⟩
theorem Un.write (mu : Mut (H x)) (he : e = x \/ H e = some (.own x)) (k : ∀ b u,b ≠ e -> h.get? b = some u -> h'.get? b = some u) (heo : ∃ u,h'.get? e = some u) : Un fs ex H (upd H x o) h h' := by
  have hx : ∀ b,H b = none -> b ≠ x := fun b n z => by subst z; rw [n] at mu; exact mu
  have hb : ∀ b,H b = none -> b ≠ e := fun b n z => by
    subst z
    rcases he with r | r
    . exact hx b n r
    . rw [n] at r; cases r
  have hm : ∀ b u,H b = some u -> ¬ Mut (some u) -> b ≠ x := fun b u q nm z => by subst z; rw [q] at mu; exact nm mu
  refine ⟨fun b u q n _ _ => k b u (hb b n) q,fun b u q n _ _ => ⟨u.slots,k b u (hb b n) q⟩,fun b u q n _ => by rw [zax (hx b n)]; exact n,fun b u q _ => ?_,
    fun b xs q => by rw [zax (hm b _ q fun z => z)]; exact q,fun b u xs q => by rw [zax (hm b _ q fun z => z)]; exact q,fun b ps q => ⟨#[],by rw [zax (hm b _ q fun z => z),q]; simp⟩⟩
  by_cases hbe : b = e
  . subst hbe; exact heo
  . exact ⟨u,k b u hbe q⟩
end
def trk (h : Heap) (H : Hp) : List Addr := (List.range h.objs.size).filter fun a => (H a).isSome
def zeL (h : Heap) (H : Hp) : Heap := PySem.W.hideAll h (trk h H)
theorem zgt (h : Heap) (H : Hp) : (zeL h H).objs.size = h.objs.size := PySem.W.hideAll_size _ _
theorem zg4 {h : Heap} {H : Hp} {b : Addr} {o : Obj} (e : h.get? b = some o) (n : H b = none) : (zeL h H).get? b = some o :=
  PySem.W.hideAll_get _ e fun hm => by
    have q : (H b).isSome = true := (List.mem_filter.mp hm).2; rw [n] at q; simp at q
theorem zhO {h : Heap} {H : Hp} {b : Addr} {o : Obj} (e : (zeL h H).get? b = some o) : h.get? b = some o /\ H b = none := by
  have e' : h.get? b = some o := PySem.W.of_hideAll (trk h H) e; refine ⟨e',?_⟩
  cases q : H b with
  | none => rfl
  | some x =>
    have hm : b ∈ trk h H := List.mem_filter.mpr ⟨List.mem_range.mpr (Heap.lt_size e'),by simp [q]⟩
    have z : (zeL h H).get? b = none := PySem.W.hideAll_none (trk h H) hm; rw [z] at e; cases e
structure Mod (K : Fg) (mg : Str -> Option Value) (base : Heap) : Prop where
  kin : K.In base
  glob : base.Ns mainGlobals mg
  blt : ∃ mb,base.Ns builtinsNs mb /\ ∀ x : Str,x ≠ "__name__" -> mb x = bootBuiltins x
  nolimit : base.NoLimit
structure Cx where
  prog : Program
  w : World
  K : Fg
  mg : Str -> Option Value
  base : Heap
  A : Around
  N : List Str
  s₀ : Shared
  H₀ : Hp
  env : Env
  outer : List Env
  stack : List Env
  ex : List Addr
  fn : Str -> Bool
  calm : Bool
  pn : List (Addr × Obj)
  xe : Value -> Shared -> Prop
def frs (l : List Env) : List Addr := l.filterMap (·.frame)
abbrev Cx.fs (X : Cx) : List Addr := frs X.outer
def Vis (sc : Scope) (x : Str) : Prop := sc.names.lookup x = some .local \/ sc.names.lookup x = some .cell \/ sc.names.lookup x = some .free
def Loc (sc : Scope) (x : Str) : Prop := sc.names.lookup x = some .local \/ sc.names.lookup x = some .cell
def zkv (env : Env) (h : Heap) (m : Str -> Option Value) (x : Str) (u : Value) : Prop :=
  (env.kindOf x = some .local /\ m x = some u) \/ ((env.kindOf x = some .cell \/ env.kindOf x = some .free) /\ ∃ c,env.cells.lookup x = some c /\ h.IsCell c (some u))
structure Cx.Ok (X : Cx) : Prop where
  mod : Mod X.K X.mg X.base
  kind : X.env.scope.kind = .function
  glob : X.env.globals = mainGlobals
  blt : X.env.builtins = builtinsNs
  above : X.s₀.heap.objs.size <= X.env.locals
  inj : ∀ x y c,X.env.cells.lookup x = some c -> X.env.cells.lookup y = some c -> x = y
  has : ∀ x,(X.env.kindOf x = some .cell \/ X.env.kindOf x = some .free) -> ∃ c,X.env.cells.lookup x = some c
  cab : ∀ x c,X.fn x = true -> X.env.cells.lookup x = some c -> X.s₀.heap.objs.size <= c
  hd : X.calm = true -> X.A.handled = none
  frames : X.A.frames = some X.stack
  stk : X.stack = X.outer \/ (X.stack = X.env :: X.outer /\ X.env.frame = some X.env.locals)
  exf : ∀ b ∈ X.ex,b ≠ X.env.locals /\ ∀ x c,X.env.cells.lookup x = some c -> c ≠ b
  bs : ∀ b o,X.base.get? b = some o -> X.s₀.heap.get? b = some o /\ X.H₀ b = none
  bsz : X.base.objs.size <= X.s₀.heap.objs.size
  noex : ∀ b o,X.base.get? b = some o -> b ∉ X.ex
  exfs : ∀ b ∈ X.ex,b ∉ X.fs
  funs : X.s₀.heap.FunFrames X.base X.outer
  frf : ∀ b ∈ X.fs,X.H₀ b = none
structure Inv (X : Cx) (pins : List (Addr × Obj)) (σ : List (Option V)) (H : Hp) (s : Shared) : Prop where
  ok : X.Ok
  os : s.os = X.s₀.os
  bare : AllBare s.gens
  base : Un X.fs X.ex X.H₀ H X.s₀.heap s.heap
  loc : ∃ m,s.heap.Ns X.env.locals m /\ ∀ (i : Nat) (x : Str) (v : V),X.N[i]? = some x -> σ[i]? = some (some v) -> Vis X.env.scope x -> ∃ u,RelV v u /\ zkv X.env s.heap m x u
  cell : ∀ x c,X.env.cells.lookup x = some c -> ∃ v,s.heap.IsCell c v
  free : H X.env.locals = none
  freeC : ∀ x c,X.env.cells.lookup x = some c -> H c = none
  pin : ∀ p ∈ X.pn ++ pins,s.heap.get? p.1 = some p.2 /\ H p.1 = none /\ p.1 ≠ X.env.locals /\ p.1 ∉ X.fs /\ ∀ v,p.2.data ≠ .cell v
  hok : HOk X.prog X.w H s.heap
  len : σ.length = X.N.length
section
variable {X : Cx} {pins : List (Addr × Obj)} {σ : List (Option V)} {H H' : Hp} {s : Shared} {h' : Heap}
theorem Cx.Ok.nofr (ok : X.Ok) {b : Addr} {o : Obj} (e : X.base.get? b = some o) : b ∉ X.fs := fun hb => by
  have := (ok.funs.mem hb).1; rw [e] at this; cases this
theorem Inv.bs (I : Inv X pins σ H s) : ∀ b o,X.base.get? b = some o -> s.heap.get? b = some o /\ H b = none := fun b o e =>
  ⟨I.base.keep b o (I.ok.bs b o e).1 (I.ok.bs b o e).2 (I.ok.nofr e) (I.ok.noex b o e),I.base.free b o (I.ok.bs b o e).1 (I.ok.bs b o e).2 (I.ok.noex b o e)⟩
theorem Inv.bk (I : Inv X pins σ H s) : ∀ b o,X.base.get? b = some o -> s.heap.get? b = some o := fun b o e => (I.bs b o e).1
theorem Inv.mod (I : Inv X pins σ H s) : Mod X.K X.mg X.base := I.ok.mod
theorem Inv.kIn (I : Inv X pins σ H s) : X.K.In s.heap := I.ok.mod.kin.keeps I.bk
theorem Inv.fr (I : Inv X pins σ H s) : ∃ m,Fr X.base X.env.locals s.heap m :=
  let ⟨m,hn,_⟩ := I.loc
  ⟨m,hn,I.bk,Nat.le_trans I.ok.bsz I.ok.above⟩
theorem Inv.lt (I : Inv X pins σ H s) : X.env.locals < s.heap.objs.size := let ⟨_,hn,_⟩ := I.loc; hn.lt
theorem Inv.sz (I : Inv X pins σ H s) : X.s₀.heap.objs.size <= s.heap.objs.size := Nat.le_trans I.ok.above (Nat.le_of_lt I.lt)
theorem Inv.nofs (I : Inv X pins σ H s) {a : Addr} (h : s.heap.objs.size <= a) : a ∉ X.fs := fun hb => by
  obtain ⟨_,o,ho,_⟩ := I.ok.funs.mem hb; exact absurd (Nat.lt_of_lt_of_le (Heap.lt_size ho) (Nat.le_trans I.sz h)) (Nat.lt_irrefl _)
theorem Inv.cne (I : Inv X pins σ H s) : ∀ x c,X.env.cells.lookup x = some c -> c ≠ X.env.locals := fun x c e z => by
  obtain ⟨v,o,ho,hd⟩ := I.cell x c e; obtain ⟨m,⟨o',es,ep,ho',hd',_⟩,_⟩ := I.loc; rw [z,ho'] at ho; cases ho; rw [hd'] at hd; cases hd
theorem Inv.funs (I : Inv X pins σ H s) : s.heap.FunFrames X.base X.outer := by
  have all : ∀ (l : List Env),(∀ b ∈ frs l,b ∈ X.fs) -> X.s₀.heap.FunFrames X.base l -> s.heap.FunFrames X.base l := by
    intro l
    induction l with
    | nil => intro _ _; trivial
    | cons env r ih =>
      intro hs hl; obtain ⟨hk,⟨L,o,hf,hn,ho,hd⟩,hr⟩ := hl; have hL : L ∈ X.fs := hs L (by unfold frs; rw [List.filterMap_cons,hf]; exact List.mem_cons_self)
      obtain ⟨sl,e⟩ := I.base.slot L o ho (I.ok.frf L hL) hL fun z => I.ok.exfs L z hL; exact ⟨hk,⟨L,_,hf,hn,e,hd⟩,ih (fun b hb => hs b (by unfold frs; rw [List.filterMap_cons,hf]; exact List.mem_cons_of_mem _ hb)) hr⟩
  exact all X.outer (fun _ hb => hb) I.ok.funs
theorem Inv.stack (I : Inv X pins σ H s) : s.heap.FunFrames X.base X.stack := by
  rcases I.ok.stk with e | ⟨e,hf⟩
  . rw [e]; exact I.funs
  . rw [e]; obtain ⟨m,hn,_⟩ := I.loc; refine .cons (by rw [I.ok.kind]; decide) hf hn ?_ I.funs
    exact Heap.get?_none_of_le (Nat.le_trans I.ok.bsz I.ok.above)
theorem Inv.stkSub (I : Inv X pins σ H s) : ∀ b ∈ frs X.stack,b ∈ X.env.locals :: X.fs := fun b hb => by
  rcases I.ok.stk with e | ⟨e,hf⟩
  . rw [e] at hb; exact List.mem_cons_of_mem _ hb
  . rw [e] at hb; unfold frs at hb; rw [List.filterMap_cons,hf] at hb; exact hb
theorem Inv.stkFree (I : Inv X pins σ H s) : ∀ b ∈ frs X.stack,H b = none := fun b hb => by
  rcases List.mem_cons.mp (I.stkSub b hb) with e | hb
  . rw [e]; exact I.free
  . obtain ⟨_,o,ho,_⟩ := I.ok.funs.mem hb; exact I.base.free b o ho (I.ok.frf b hb) fun z => I.ok.exfs b z hb
theorem Inv.step {g' : Array GenState} {t' : Nat} {d' : Drawn} {ch : List Addr} (I : Inv X pins σ H s)
    (hch : ∀ b ∈ ch,(b ∈ X.ex \/ X.s₀.heap.objs.size <= b) /\ b ≠ X.env.locals /\ (∀ x c,X.env.cells.lookup x = some c -> c ≠ b) /\ ∀ p ∈ X.pn ++ pins,p.1 ≠ b)
    (keep : ∀ b o,b ≠ X.env.locals -> b ∉ X.fs -> b ∉ ch -> s.heap.get? b = some o -> H b = none -> h'.get? b = some o)
    (slot : ∀ b o,b ≠ X.env.locals -> b ∈ X.fs -> b ∉ ch -> s.heap.get? b = some o -> H b = none -> ∃ sl,h'.get? b = some { o with slots := sl }) (free : ∀ b o,b ∉ ch -> s.heap.get? b = some o -> H b = none -> H' b = none)
    (there : ∀ b o,b ∉ ch -> s.heap.get? b = some o -> ∃ o',h'.get? b = some o')
    (tups : ∀ b xs,H b = some (.tup xs) -> H' b = some (.tup xs)) (frzs : ∀ b o u,H b = some (.frz o u) -> H' b = some (.frz o u)) (tbls : ∀ b ps,H b = some (.tbl ps) -> ∃ more,H' b = some (.tbl (ps ++ more)))
    (ns : ∀ m,s.heap.Ns X.env.locals m -> h'.Ns X.env.locals m) (hok : HOk X.prog X.w H' h') (hg : AllBare g') :
    Inv X pins σ H' { s with heap := h',gens := g',drawn := d',toks := t' } := by
  have neL : ∀ b o,X.s₀.heap.get? b = some o -> b ≠ X.env.locals := fun b o e => Nat.ne_of_lt (Nat.lt_of_lt_of_le (Heap.lt_size e) I.ok.above)
  have neC : ∀ b o,X.s₀.heap.get? b = some o -> b ∉ X.ex -> b ∉ ch := fun b o e hx hb => by
    rcases (hch b hb).1 with z | z
    . exact hx z
    . exact absurd (Nat.lt_of_lt_of_le (Heap.lt_size e) z) (Nat.lt_irrefl _)
  have cellK : ∀ x c,X.env.cells.lookup x = some c -> ∀ v,s.heap.IsCell c v -> h'.IsCell c v := fun x c e v ⟨o,ho,hd⟩ => by
    have nch : c ∉ ch := fun z => (hch c z).2.2.1 x c e rfl
    by_cases hc : c ∈ X.fs
    . obtain ⟨sl,q⟩ := slot c o (I.cne x c e) hc nch ho (I.freeC x c e); exact ⟨_,q,hd⟩
    . exact ⟨o,keep c o (I.cne x c e) hc nch ho (I.freeC x c e),hd⟩
  refine ⟨I.ok,I.os,hg,⟨fun b o e n hb hx => ?_,fun b o e n hb hx => ?_,fun b o e n hx => ?_,fun b o e hx => ?_,fun b xs e => tups b xs (I.base.tups b xs e),fun b o xs e => frzs b o xs (I.base.frzs b o xs e),fun b ps e => ?_⟩,?_,fun x c e => ?_,?_,fun x c e => ?_,fun p hp => ?_,hok,I.len⟩
  . exact keep b o (neL b o e) hb (neC b o e hx) (I.base.keep b o e n hb hx) (I.base.free b o e n hx)
  . obtain ⟨sl,e1⟩ := I.base.slot b o e n hb hx; obtain ⟨sl',e2⟩ := slot b _ (neL b o e) hb (neC b o e hx) e1 (I.base.free b o e n hx); exact ⟨sl',e2⟩
  . obtain ⟨o',e1⟩ := I.base.there b o e hx; exact free b o' (neC b o e hx) e1 (I.base.free b o e n hx)
  . obtain ⟨o',e1⟩ := I.base.there b o e hx; exact there b o' (neC b o e hx) e1
  . obtain ⟨m1,e1⟩ := I.base.tbls b ps e; obtain ⟨m2,e2⟩ := tbls b _ e1; exact ⟨m1 ++ m2,by rw [e2,Array.append_assoc]⟩
  . obtain ⟨m,hn,hl⟩ := I.loc; refine ⟨m,ns m hn,fun i x v e1 e2 e3 => ?_⟩; obtain ⟨u,r,l⟩ := hl i x v e1 e2 e3; refine ⟨u,r,?_⟩
    rcases l with l | ⟨k,c,e,z⟩
    . exact .inl l
    . exact .inr ⟨k,c,e,cellK x c e _ z⟩
  . obtain ⟨v,z⟩ := I.cell x c e; exact ⟨v,cellK x c e v z⟩
  . obtain ⟨m,⟨o,_,_,ho,_⟩,_⟩ := I.loc; exact free _ o (fun z => (hch _ z).2.1 rfl) ho I.free
  . obtain ⟨v,o,ho,hd⟩ := I.cell x c e; exact free c o (fun z => (hch c z).2.2.1 x c e rfl) ho (I.freeC x c e)
  . obtain ⟨e,n,ne,nf,d⟩ := I.pin p hp; have nch : p.1 ∉ ch := fun z => (hch p.1 z).2.2.2 p hp rfl; exact ⟨keep p.1 p.2 ne nf nch e n,free p.1 p.2 nch e n,ne,nf,d⟩
theorem Inv.un {t' : Nat} (I : Inv X pins σ H s) (u : Un X.fs [] H H' s.heap h') (hok : HOk X.prog X.w H' h') : Inv X pins σ H' { s with heap := h',toks := t' } := by
  obtain ⟨m,⟨o,es,ep,ho,r⟩,_⟩ := id I.loc; obtain ⟨sl,hL⟩ := u.any ho I.free (by simp)
  exact I.step (g' := s.gens) (d' := s.drawn) (ch := []) (fun _ z => nomatch z) (fun b o _ hb _ e n => u.keep b o e n hb (by simp)) (fun b o _ hb _ e n => u.slot b o e n hb (by simp)) (fun b o _ e n => u.free b o e n (by simp)) (fun b o _ e => u.there b o e (by simp)) u.tups u.frzs u.tbls (fun m' hm => by
    obtain ⟨o',es',ep',ho',r'⟩ := hm; rw [ho] at ho'; cases ho'
    exact ⟨_,es',ep',hL,r'⟩) hok I.bare
theorem Inv.call {g' : Array GenState} {t' : Nat} {d' : Drawn} {ch : List Addr} (I : Inv X pins σ H s) (u : Un (frs X.stack) ch H H' s.heap h') (hok : HOk X.prog X.w H' h') (hg : AllBare g')
    (hch : ∀ b ∈ ch,(b ∈ X.ex \/ X.s₀.heap.objs.size <= b) /\ b ≠ X.env.locals /\ (∀ x c,X.env.cells.lookup x = some c -> c ≠ b) /\ ∀ p ∈ X.pn ++ pins,p.1 ≠ b) :
    Inv X pins σ H' { s with heap := h',gens := g',drawn := d',toks := t' } := by
  obtain ⟨m,⟨o,es,ep,ho,r⟩,_⟩ := id I.loc; obtain ⟨sl,hL⟩ := u.any ho I.free fun z => (hch _ z).2.1 rfl
  exact I.step (ch := ch) hch (fun b o hL hb hc e n => u.keep b o e n (fun z => (List.mem_cons.mp (I.stkSub b z)).elim hL hb) hc) (fun b o _ _ hc e n => u.any e n hc) (fun b o hc e n => u.free b o e n hc) (fun b o hc e => u.there b o e hc) u.tups u.frzs u.tbls (fun m' hm => by
    obtain ⟨o',es',ep',ho',r'⟩ := hm; rw [ho] at ho'; cases ho'
    exact ⟨_,es',ep',hL,r'⟩) hok hg
theorem Inv.turned {t' : Nat} {it : Addr} (I : Inv X pins σ H s) (k : ∀ b o,b ≠ it -> s.heap.get? b = some o -> h'.get? b = some o) (hn : H it = none) (hL : it ≠ X.env.locals)
    (h1 : it ∈ X.ex \/ X.s₀.heap.objs.size <= it) (h2 : ∀ x c,X.env.cells.lookup x = some c -> c ≠ it) (h3 : ∀ p ∈ X.pn ++ pins,p.1 ≠ it) : Inv X pins σ H { s with heap := h',toks := t' } := by
  have nit : ∀ b u,H b = some u -> b ≠ it := fun b u e z => by rw [z,hn] at e; cases e
  refine I.step (g' := s.gens) (d' := s.drawn) (ch := [it]) (fun b hb => ?_) (fun b o _ _ hc e _ => k b o (fun z => hc (by simp [z])) e) (fun b o _ _ hc e _ => ⟨o.slots,k b o (fun z => hc (by simp [z])) e⟩) (fun _ _ _ _ n => n)
    (fun b o hc e => ⟨o,k b o (fun z => hc (by simp [z])) e⟩) (fun _ _ e => e) (fun _ _ _ e => e) (fun b ps e => ⟨#[],by rw [e]; simp⟩) (fun m hm => ?_) (fun b u e => ?_) I.bare
  . have e : b = it := by simpa using hb
    subst e; exact ⟨h1,hL,h2,h3⟩
  . obtain ⟨o,es,ep,ho,r⟩ := hm; exact ⟨o,es,ep,k _ o (Ne.symm hL) ho,r⟩
  . refine (I.hok b u e).stay (fun c v hc q => k c v ?_ q) (fun _ q => q) fun _ _ q => q
    rcases hc with z | z
    . rw [z]; exact nit b u e
    . exact nit c _ z
theorem Inv.tok (I : Inv X pins σ H s) (t : Nat) : Inv X pins σ H { s with toks := t } := I.un (h' := s.heap) (t' := t) Un.refl I.hok
theorem Inv.kept {t' : Nat} (I : Inv X pins σ H s) (k : ∀ b u,s.heap.get? b = some u -> h'.get? b = some u) : Inv X pins σ H { s with heap := h',toks := t' } := I.un (Un.kept k) (I.hok.kept k)
theorem Inv.laid {a : Addr} {o : HO} {t' : Nat} (I : Inv X pins σ H s) (k : ∀ b u,s.heap.get? b = some u -> h'.get? b = some u) (hp : s.heap.objs.size <= a) (new : ObjOk X.prog X.w (upd H a o) h' a o) :
    Inv X pins σ (upd H a o) { s with heap := h',toks := t' } := I.un (Un.laid k hp (I.hok.fresh hp)) (I.hok.laid k hp new)
theorem Inv.write {x e : Addr} {o : HO} {t' : Nat} (I : Inv X pins σ H s) (mu : Mut (H x)) (he : e = x \/ H e = some (.own x)) (k : ∀ b u,b ≠ e -> s.heap.get? b = some u -> h'.get? b = some u) (heo : ∃ u,h'.get? e = some u)
    (new : ObjOk X.prog X.w (upd H x o) h' x o) : Inv X pins σ (upd H x o) { s with heap := h',toks := t' } := I.un (Un.write mu he k heo) (I.hok.write mu he k heo new)
theorem Inv.weak {σ' : List (Option V)} (I : Inv X pins σ H s) (hl : σ'.length = σ.length) (w : ∀ (i : Nat) v,σ'[i]? = some (some v) -> σ[i]? = some (some v)) : Inv X pins σ' H s :=
  ⟨I.ok,I.os,I.bare,I.base,let ⟨m,hn,hl'⟩ := I.loc; ⟨m,hn,fun i x v e1 e2 e3 => hl' i x v e1 (w i v e2) e3⟩,I.cell,I.free,I.freeC,I.pin,I.hok,hl.trans I.len⟩
theorem Inv.pins_of {pins' : List (Addr × Obj)} (I : Inv X pins σ H s) (h : ∀ p ∈ pins',s.heap.get? p.1 = some p.2 /\ H p.1 = none /\ p.1 ≠ X.env.locals /\ p.1 ∉ X.fs /\ ∀ v,p.2.data ≠ .cell v) : Inv X pins' σ H s :=
  ⟨I.ok,I.os,I.bare,I.base,I.loc,I.cell,I.free,I.freeC,fun p hp => (List.mem_append.mp hp).elim (fun z => I.pin p (List.mem_append_left _ z)) (h p),I.hok,I.len⟩
theorem zfc {N : List Str} (hN : N.Nodup) {i j : Nat} {x : Str} (a : N[i]? = some x) (b : N[j]? = some x) : i = j := by
  obtain ⟨h1,e1⟩ := List.getElem?_eq_some_iff.mp a; obtain ⟨h2,e2⟩ := List.getElem?_eq_some_iff.mp b; exact (List.getElem_inj hN).mp (e1.trans e2.symm)
theorem zd7 {M : Model} {A : Around} {E : Value -> Shared -> Prop} {i : Nat} {x : Str} {v : V} {u : Value} {Q : Unit -> Shared -> Prop} (I : Inv X pins σ H s) (hN : X.N.Nodup) (hi : X.N[i]? = some x) (hx : Loc X.env.scope x) (r : RelV v u)
    (h : ∀ s',Inv X pins (σ.set i (some v)) H s' -> (∃ a,Heap.SameBut a s.heap s'.heap /\ (a = X.env.locals \/ X.env.cells.lookup x = some a)) -> Q () s') (hf : X.fn x = true \/ X.env.scope.names.lookup x = some .local := by first | exact .inl rfl | exact .inr rfl | assumption) : wpAny M A (storeName X.env x u) Q E s := by
  obtain ⟨m,hn,hl⟩ := id I.loc; have hcls : (X.env.scope.kind == .class || (X.env.scope.kind == .module && X.env.locals != X.env.globals)) = false := by rw [I.ok.kind]; rfl
  have hiσ : i < σ.length := by rw [I.len]; exact (List.getElem?_eq_some_iff.mp hi).1
  have cne := I.cne
  have tracked : ∀ {a : Addr} {h' : Heap},(∃ o,s.heap.get? a = some o /\ H a = none) -> Heap.SameBut a s.heap h' -> HOk X.prog X.w H h' := fun {a h'} ha hs b ob e => by
    obtain ⟨_,_,hfree⟩ := ha; refine (I.hok b ob e).stay (fun c w' hc q => (hs.2 c ?_).trans q) (fun _ q => q) fun _ _ q => q; rintro rfl
    rcases hc with rfl | hc
    . rw [hfree] at e; cases e
    . rw [hfree] at hc; cases hc
  rcases hx with hk | hk
  . refine wpAny_storeName_local hk hn (fun h' hn' hs => ?_) hcls; obtain ⟨oL,_,_,hoL,_⟩ := id hn; refine h _ ⟨I.ok,I.os,I.bare,⟨fun b o e n hb hx => ?_,fun b o e n hb hx => ?_,I.base.free,fun b o e hx => ?_,I.base.tups,I.base.frzs,I.base.tbls⟩,⟨_,hn',fun j y v' e1 e2 e3 => ?_⟩,fun y c e => ?_,I.free,I.freeC,fun p hp => ?_,tracked ⟨oL,hoL,I.free⟩ hs,by simpa using I.len⟩ ⟨_,hs,.inl rfl⟩
    . exact (hs.2 b (Nat.ne_of_lt (Nat.lt_of_lt_of_le (Heap.lt_size e) I.ok.above))).trans (I.base.keep b o e n hb hx)
    . obtain ⟨sl,e1⟩ := I.base.slot b o e n hb hx; exact ⟨sl,(hs.2 b (Nat.ne_of_lt (Nat.lt_of_lt_of_le (Heap.lt_size e) I.ok.above))).trans e1⟩
    . obtain ⟨o',e1⟩ := I.base.there b o e hx; exact ⟨o',(hs.2 b (Nat.ne_of_lt (Nat.lt_of_lt_of_le (Heap.lt_size e) I.ok.above))).trans e1⟩
    . by_cases hj : j = i
      . subst hj; rw [hi] at e1; cases e1; rw [List.getElem?_set_self hiσ] at e2; cases e2; exact ⟨u,r,.inl ⟨hk,by simp⟩⟩
      . rw [List.getElem?_set_ne (Ne.symm hj)] at e2; obtain ⟨u',r',q⟩ := hl j y v' e1 e2 e3; refine ⟨u',r',?_⟩
        rcases q with ⟨k,e⟩ | ⟨k,c,e,z⟩
        . refine .inl ⟨k,?_⟩; have : y ≠ x := fun e => hj (zfc hN e1 (e ▸ hi)); simp [this,e]
        . exact .inr ⟨k,c,e,z.sameBut hs (cne y c e)⟩
    . obtain ⟨w',z⟩ := I.cell y c e; exact ⟨w',z.sameBut hs (cne y c e)⟩
    . obtain ⟨e,n,ne,nf,d⟩ := I.pin p hp; exact ⟨(hs.2 p.1 ne).trans e,n,ne,nf,d⟩
  . have hfn : X.fn x = true := by
      rcases hf with z | z
      . exact z
      . rw [z] at hk; cases hk
    obtain ⟨c,hc⟩ := I.ok.has x (.inl hk); obtain ⟨w',z⟩ := I.cell x c hc; refine wpAny_storeName_cell I.ok.kind hk hc z (fun h' hc' hs => ?_); obtain ⟨oc,hoc,hocd⟩ := id z; refine h { s with heap := h' } ⟨I.ok,I.os,I.bare,⟨fun b o e n hb hx => ?_,fun b o e n hb hx => ?_,I.base.free,fun b o e hx => ?_,I.base.tups,I.base.frzs,I.base.tbls⟩,⟨m,hn.sameBut hs (Ne.symm (cne x c hc)),fun j y v' e1 e2 e3 => ?_⟩,fun y c' e => ?_,I.free,I.freeC,fun p hp => ?_,tracked ⟨oc,hoc,I.freeC x c hc⟩ hs,by simpa using I.len⟩ ⟨c,hs,.inr hc⟩
    . exact (hs.2 b (Nat.ne_of_lt (Nat.lt_of_lt_of_le (Heap.lt_size e) (I.ok.cab x c hfn hc)))).trans (I.base.keep b o e n hb hx)
    . obtain ⟨sl,e1⟩ := I.base.slot b o e n hb hx; exact ⟨sl,(hs.2 b (Nat.ne_of_lt (Nat.lt_of_lt_of_le (Heap.lt_size e) (I.ok.cab x c hfn hc)))).trans e1⟩
    . obtain ⟨o',e1⟩ := I.base.there b o e hx; exact ⟨o',(hs.2 b (Nat.ne_of_lt (Nat.lt_of_lt_of_le (Heap.lt_size e) (I.ok.cab x c hfn hc)))).trans e1⟩
    . by_cases hj : j = i
      . subst hj; rw [hi] at e1; cases e1; rw [List.getElem?_set_self hiσ] at e2; cases e2; exact ⟨u,r,.inr ⟨.inl hk,c,hc,hc'⟩⟩
      . rw [List.getElem?_set_ne (Ne.symm hj)] at e2; obtain ⟨u',r',q⟩ := hl j y v' e1 e2 e3; refine ⟨u',r',?_⟩
        rcases q with q | ⟨k,c',e,z'⟩
        . exact .inl q
        . refine .inr ⟨k,c',e,z'.sameBut hs ?_⟩; rintro rfl; exact hj (zfc hN e1 (I.ok.inj _ _ _ e hc ▸ hi))
    . by_cases hcc : c' = c
      . subst hcc; exact ⟨_,hc'⟩
      . obtain ⟨w2,z2⟩ := I.cell y c' e; exact ⟨w2,z2.sameBut hs hcc⟩
    . obtain ⟨e,n,ne,nf,d⟩ := I.pin p hp; refine ⟨(hs.2 p.1 ?_).trans e,n,ne,nf,d⟩; intro q; rw [q,hoc] at e; have q' : oc = p.2 := Option.some.inj e; exact d w' (by rw [<- q']; exact hocd)
theorem zdB {M : Model} {A : Around} {E : Value -> Shared -> Prop} {i : Nat} {x : Str} {v : V} {u : Value} {Q : Unit -> Shared -> Prop} (I : Inv X pins σ H s) (hN : X.N.Nodup) (hi : X.N[i]? = some x) (hx : Loc X.env.scope x) (r : RelV v u)
    (h : ∀ s',Inv X pins (σ.set i (some v)) H s' -> Q () s') (hf : X.fn x = true \/ X.env.scope.names.lookup x = some .local := by first | exact .inl rfl | exact .inr rfl | assumption) : wpAny M A (storeName X.env x u) Q E s :=
  zd7 I hN hi hx r (fun s' I' _ => h s' I') hf
theorem Inv.call' {s' : Shared} {ch : List Addr} (I : Inv X pins σ H s) (ho : s'.os = s.os) (u : Un (frs X.stack) ch H H' s.heap s'.heap) (hok : HOk X.prog X.w H' s'.heap) (hg : AllBare s'.gens)
    (hch : ∀ b ∈ ch,(b ∈ X.ex \/ X.s₀.heap.objs.size <= b) /\ b ≠ X.env.locals /\ (∀ x c,X.env.cells.lookup x = some c -> c ≠ b) /\ ∀ p ∈ X.pn ++ pins,p.1 ≠ b) : Inv X pins σ H' s' := by
  obtain ⟨h',g',d',t',o'⟩ := s'; have e : o' = s.os := ho; subst e; exact I.call (g' := g') (t' := t') (d' := d') u hok hg hch
end
abbrev XK := Value -> Option Addr -> Hp -> Prop
abbrev St := List (Option V)
abbrev VK := V -> Hp -> Prop
abbrev TE := St -> Hp -> VK -> Prop
abbrev TT := St -> Hp -> (Bool -> Hp -> Prop) -> Prop
abbrev TA := St -> Hp -> (List V -> Hp -> Prop) -> Prop
structure zcB where
  nx : St -> Hp -> Prop
  rt : VK
  bk : St -> Hp -> Prop := fun _ _ => False
  ct : St -> Hp -> Prop := fun _ _ => False
abbrev TS := zcB -> St -> Hp -> Prop
def EP (X : Cx) (pins : List (Addr × Obj)) (σ : St) (Q : VK) (u : Value) (s' : Shared) : Prop := ∃ v H',Inv X pins σ H' s' /\ RelV v u /\ Q v H'
def TP (X : Cx) (pins : List (Addr × Obj)) (σ : St) (Q : Bool -> Hp -> Prop) (b : Bool) (s' : Shared) : Prop := ∃ H',Inv X pins σ H' s' /\ Q b H'
def AP (X : Cx) (pins : List (Addr × Obj)) (σ : St) (Q : List V -> Hp -> Prop) (us : List Value) (s' : Shared) : Prop := ∃ vs H',Inv X pins σ H' s' /\ Vals vs us /\ Q vs H'
def SP (X : Cx) (pins : List (Addr × Obj)) (D : zcB) (f : Flow) (s' : Shared) : Prop :=
  match f with
  | .next => ∃ σ' H',Inv X pins σ' H' s' /\ D.nx σ' H'
  | .brk => ∃ σ' H',Inv X pins σ' H' s' /\ D.bk σ' H'
  | .cont => ∃ σ' H',Inv X pins σ' H' s' /\ D.ct σ' H'
  | .ret u => ∃ v σ' H',Inv X pins σ' H' s' /\ RelV v u /\ D.rt v H'
def PE (X : Cx) (e : Expr) (t : TE) : Prop :=
  ∀ (pins : List (Addr × Obj)) (s : Shared) (σ : St) (H : Hp) (Q : VK),Inv X pins σ H s -> t σ H Q -> wpAny (model X.prog X.w) X.A (eval e X.env) (EP X pins σ Q) X.xe s
def PT (X : Cx) (e : Expr) (t : TT) : Prop :=
  ∀ (pins : List (Addr × Obj)) (s : Shared) (σ : St) (H : Hp) (Q : Bool -> Hp -> Prop),Inv X pins σ H s -> t σ H Q -> wpAny (model X.prog X.w) X.A (isTrue e X.env (eval e X.env)) (TP X pins σ Q) X.xe s
def PW (X : Cx) (e : Expr) (t : TT) : Prop :=
  ∀ (whole : Sem Value) (pins : List (Addr × Obj)) (s : Shared) (σ : St) (H : Hp) (Q : Bool -> Hp -> Prop),Inv X pins σ H s -> t σ H Q -> wpAny (model X.prog X.w) X.A (isTrue e X.env whole) (TP X pins σ Q) X.xe s
theorem PW.pt {X : Cx} {e : Expr} {t : TT} (h : PW X e t) : PT X e t := h _
def PA (X : Cx) (es : List Expr) (t : TA) : Prop :=
  ∀ (pos : Pos) (pins : List (Addr × Obj)) (s : Shared) (σ : St) (H : Hp) (Q : List V -> Hp -> Prop),Inv X pins σ H s -> t σ H Q -> wpAny (model X.prog X.w) X.A (spliced (backTo pos (starEach es X.env))) (AP X pins σ Q) X.xe s
def PS (X : Cx) (st : Stmt) (t : TS) : Prop :=
  ∀ (pins : List (Addr × Obj)) (s : Shared) (σ : St) (H : Hp) (D : zcB),Inv X pins σ H s -> t D σ H -> wpAny (model X.prog X.w) X.A (exec st X.env) (SP X pins D) X.xe s
def PSs (X : Cx) (st : List Stmt) (t : TS) : Prop :=
  ∀ (pins : List (Addr × Obj)) (s : Shared) (σ : St) (H : Hp) (D : zcB),Inv X pins σ H s -> t D σ H -> wpAny (model X.prog X.w) X.A (execs st X.env) (SP X pins D) X.xe s
theorem thn {α : Type} {t : Sem α} {Q Q' : α -> Shared -> Prop} {M : Model} {A : Around} {E : Value -> Shared -> Prop} {s : Shared} (h : wpAny M A t Q E s) (hQ : ∀ a s,Q a s -> Q' a s) : wpAny M A t Q' E s := wpAny_mono h hQ fun _ _ x => x
section
variable {X : Cx}
theorem bin {a b : Expr} {ta tb : TE} (ha : PE X a ta) (hb : PE X b tb) {pins : List (Addr × Obj)} {s : Shared} {σ : St} {H : Hp} {R : V -> V -> Hp -> Prop} (I : Inv X pins σ H s) (h : ta σ H fun x H1 => tb σ H1 fun y H2 => R x y H2)
    {α : Type} {Q : α -> Shared -> Prop} {f : Value -> Value -> Sem α}
    (hf : ∀ v u s2 x y H2,Inv X pins σ H2 s2 -> RelV x v -> RelV y u -> R x y H2 -> wpAny (model X.prog X.w) X.A (f v u) Q X.xe s2) :
    wpAny (model X.prog X.w) X.A (eval a X.env) (fun v s₁ => wpAny (model X.prog X.w) X.A (eval b X.env) (fun u s₂ => wpAny (model X.prog X.w) X.A (f v u) Q X.xe s₂) X.xe s₁) X.xe s := by
  refine thn (ha pins s σ H _ I h) fun v s1 ⟨x,H1,I1,r1,q1⟩ => ?_; refine thn (hb pins s1 σ H1 _ I1 q1) fun u s2 ⟨y,H2,I2,r2,q2⟩ => ?_; exact hf v u s2 x y H2 I2 r1 r2 q2
inductive QVar (o : Option (Option V)) (Q : V → Prop) : Prop
  | mk (v : V) (h : o = some (some v)) (k : Q v) : QVar o Q
def zjE (i : Nat) : TE := fun σ H Q => QVar σ[i]? (fun v => Q v H)
def tC (v : V) : TE := fun _ H Q => Q v H
theorem zje {i : Nat} {x : Str} {pos : Pos} (hN : X.N[i]? = some x) (hv : Vis X.env.scope x) (hd : (x == ("__debug__" : Str)) = false := by decide) (hcd : (x == ("__classdict__" : Str)) = false := by decide) : PE X (.Name x pos) (zjE i) := by
  intro pins s σ H Q I h; obtain ⟨v,e,h⟩ := h; obtain ⟨m,hn,hl⟩ := I.loc; obtain ⟨u,r,l⟩ := hl i x v hN e hv; have fin : EP X pins σ Q u s := ⟨v,H,I,r,h⟩
  rcases l with ⟨hk,hm⟩ | ⟨hk,c,hc,hcell⟩
  . exact wpAny_Name (wpAny_loadName_local I.ok.kind hk hn hm fin) hd
  . rcases hk with hk | hk
    . exact wpAny_Name (wpAny_loadName_cell I.ok.kind hk hc hcell fin) hd
    . exact wpAny_Name (wpAny_loadName_free I.ok.kind hk hc hcell fin hcd) hd
theorem zae {i j pos} : PE X (.Constant (.int i) j pos) (tC (.int i)) := fun _ _ _ H _ I h => wpAny_Constant_int ⟨.int i,H,I.tok _,⟨_,rfl⟩,h⟩
theorem zbw {b j pos} : PE X (.Constant (.bool b) j pos) (tC (.bl b)) := fun _ _ _ H _ I h => Constant_bool ⟨.bl b,H,I,rfl,h⟩
theorem zcs {j pos} : PE X (.Constant .none j pos) (tC .non) := fun _ _ _ H _ I h => Constant_none ⟨.non,H,I,rfl,h⟩
theorem zah {x j pos} : PE X (.Constant (.str x) j pos) (tC (.str x)) := fun _ _ _ H _ I h => Calls.Constant_str ⟨.str x,H,I.tok _,⟨_,rfl⟩,h⟩
def Gl (X : Cx) (x : Str) : Prop := X.env.kindOf x = some .globalImplicit
theorem zcK {E : Value -> Shared -> Prop} {pins : List (Addr × Obj)} {s : Shared} {σ : St} {H : Hp} {x : Str} {u : Value} {pos : Pos} {Q : Value -> Shared -> Prop} (I : Inv X pins σ H s) (hg : Gl X x) (hm : X.mg x = some u) (h : Q u s)
    (hd : (x == ("__debug__" : Str)) = false := by decide) : wpAny (model X.prog X.w) X.A (eval (.Name x pos) X.env) Q E s :=
  Calls.Name_function_global I.ok.kind hg (Calls.loadGlobal_global (by rw [I.ok.glob]; exact I.mod.glob.keeps I.bk) hm h) hd
theorem zdA {E : Value -> Shared -> Prop} {pins : List (Addr × Obj)} {s : Shared} {σ : St} {H : Hp} {x : Str} {u : Value} {pos : Pos} {Q : Value -> Shared -> Prop} (I : Inv X pins σ H s) (hg : Gl X x) (hm : X.mg x = none) (hv : bootBuiltins x = some u) (h : Q u s)
    (hn : x ≠ "__name__" := by decide) (hd : (x == ("__debug__" : Str)) = false := by decide) : wpAny (model X.prog X.w) X.A (eval (.Name x pos) X.env) Q E s := by
  obtain ⟨mb,h1,h2⟩ := I.mod.blt; exact Calls.Name_function_global I.ok.kind hg (Calls.loadGlobal_builtin (by rw [I.ok.glob]; exact I.mod.glob.keeps I.bk) hm (by rw [I.ok.blt]; exact h1.keeps I.bk) ((h2 x hn).trans hv) h) hd
theorem zbj {x : Str} {v : V} {u : Value} {pos : Pos} (hg : Gl X x) (hm : X.mg x = some u) (r : RelV v u) (hd : (x == ("__debug__" : Str)) = false := by decide) : PE X (.Name x pos) (tC v) :=
  fun _ _ _ H _ I h => zcK I hg hm ⟨v,H,I,r,h⟩ hd
theorem za1 {x : Str} {v : V} {u : Value} {pos : Pos} (hg : Gl X x) (hm : X.mg x = none) (hv : bootBuiltins x = some u) (r : RelV v u) (hn : x ≠ "__name__" := by decide) (hd : (x == ("__debug__" : Str)) = false := by decide) : PE X (.Name x pos) (tC v) :=
  fun _ _ _ H _ I h => zdA I hg hm hv ⟨v,H,I,r,h⟩ hn hd
variable {a b : Expr} {ta tb : TE} {pos : Pos}
def PC (X : Cx) (op : CmpOp) (a b : Expr) (t : TE) : Prop :=
  ∀ (pins : List (Addr × Obj)) (s : Shared) (σ : St) (H : Hp) (Q : VK),Inv X pins σ H s -> t σ H Q →
    wpAny (model X.prog X.w) X.A (eval a X.env) (fun v s₁ => wpAny (model X.prog X.w) X.A (eval b X.env) (fun u s₂ => wpAny (model X.prog X.w) X.A (compareOp op v u) (EP X pins σ Q) X.xe s₂) X.xe s₁) X.xe s
inductive QBl (x : V) (Q : Bool → Prop) : Prop
  | mk (c : Bool) (h : x = .bl c) (k : Q c) : QBl x Q
def tB (t : TE) : TT := fun σ H Q => t σ H fun x H1 => QBl x (fun c => Q c H1)
theorem zi4 {op : CmpOp} {t : TE} (h : PC X op a b t) (h1 : behindInMarks op b = false := by first | exact nobehind _ (by decide) (by decide) | rfl) : PE X (.Compare a [op] [b] pos) t := fun pins s σ H Q I hw => wpAny_Compare1 (h pins s σ H Q I hw) h1
theorem pt_cmp {op : CmpOp} {t : TE} (h : PC X op a b t) (h1 : behindInMarks op b = false := by first | exact nobehind _ (by decide) (by decide) | rfl) : PT X (.Compare a [op] [b] pos) (tB t) := by
  intro pins s σ H Q I hw; refine wpAny_isTrue_Compare1 (thn (h pins s σ H _ I hw) fun v s1 h1 => thn h1 fun u s2 h2 => thn h2 fun c s3 ⟨x,H1,I1,r1,q1⟩ => ?_) h1; obtain ⟨d,rfl,q⟩ := q1; cases r1; exact wpAny_truthy_bool ⟨H1,I1,q⟩
theorem zaQ {e : Expr} {t : TE} (h : PE X e t) (he : ∀ whole,isTrue e X.env whole = (do let v <- whole; standAt e.pos; holding [v] (truthy v)) := by intro _; rfl) : PT X e (tB t) := by
  intro pins s σ H Q I hw; refine isTrue_plain (thn (h pins s σ H _ I hw) fun v s1 ⟨x,H1,I1,r1,q1⟩ => ?_) (he _); obtain ⟨d,rfl,q⟩ := q1; cases r1; exact wpAny_truthy_bool ⟨H1,I1,q⟩
variable {tA tB' : TT} {rest : List Expr}
def tOr (t u : TT) : TT := fun σ H Q => t σ H fun c H1 => if c = true then Q true H1 else u σ H1 Q
def zkf (t : TT) : TT := fun σ H Q => t σ H fun c H1 => Q (!c) H1
theorem zcx (ha : PT X a tA) : PW X (.BoolOp .Or [a] pos) tA := by
  intro wh pins s σ H Q I h; refine isTrue_or (thn (ha pins s σ H Q I h) fun c s1 e => ?_)
  cases c with
  | false => exact isTrue_or_nil e
  | true => exact e
theorem zc5 (ha : PT X a tA) (hb : PW X (.BoolOp .Or (b :: rest) pos) tB') : PW X (.BoolOp .Or (a :: b :: rest) pos) (tOr tA tB') := by
  intro wh pins s σ H Q I h; refine isTrue_or (thn (ha pins s σ H _ I h) fun c s1 ⟨H1,I1,q1⟩ => ?_)
  cases c with
  | true => exact ⟨H1,I1,q1⟩
  | false => exact hb wh pins s1 σ H1 Q I1 q1
theorem zaW (ha : PT X a tA) : PT X (.UnaryOp .Not a pos) (zkf tA) := by
  intro pins s σ H Q I h; exact isTrue_not (ha pins s σ H (fun c H1 => Q (!c) H1) I h)
def zjw (ta tb : TE) : TE := fun σ H Q => ta σ H fun x H1 => ∃ c,x = .bl c /\ if c = true then tb σ H1 Q else Q (.bl false) H1
def zkd (ta tb : TE) : TE := fun σ H Q => ta σ H fun x H1 => ∃ c,x = .bl c /\ if c = true then Q (.bl true) H1 else tb σ H1 Q
def zjV (ta : TE) : TE := fun σ H Q => ta σ H fun x H1 => ∃ c,x = .bl c /\ Q (.bl (!c)) H1
theorem zbO {op} {t : TE} (h : PE X a t) : PE X (.BoolOp op [a] pos) t := fun pins s σ H Q I hw => BoolOp_one (h pins s σ H Q I hw)
theorem zct (ha : PE X a ta) (hb : PE X (.BoolOp .And (b :: rest) pos) tb) : PE X (.BoolOp .And (a :: b :: rest) pos) (zjw ta tb) := by
  intro pins s σ H Q I h; refine BoolOp_and (thn (ha pins s σ H _ I h) fun v s1 ⟨x,H1,I1,r1,q1⟩ => ?_); obtain ⟨c,rfl,q1⟩ := q1; cases r1; refine wpAny_truthy_bool ?_
  cases c with
  | true => exact hb pins s1 σ H1 Q I1 q1
  | false => exact ⟨.bl false,H1,I1,rfl,q1⟩
theorem ziy (ha : PE X a ta) (hb : PE X (.BoolOp .Or (b :: rest) pos) tb) : PE X (.BoolOp .Or (a :: b :: rest) pos) (zkd ta tb) := by
  intro pins s σ H Q I h; refine BoolOp_or (thn (ha pins s σ H _ I h) fun v s1 ⟨x,H1,I1,r1,q1⟩ => ?_); obtain ⟨c,rfl,q1⟩ := q1; cases r1; refine wpAny_truthy_bool ?_
  cases c with
  | false => exact hb pins s1 σ H1 Q I1 q1
  | true => exact ⟨.bl true,H1,I1,rfl,q1⟩
theorem zhr (ha : PE X a ta) : PE X (.UnaryOp .Not a pos) (zjV ta) := by
  intro pins s σ H Q I h; refine UnaryOp_ (thn (ha pins s σ H _ I h) fun v s1 ⟨x,H1,I1,r1,q1⟩ => ?_); obtain ⟨c,rfl,q1⟩ := q1; cases r1; exact not_of (wpAny_truthy_bool ⟨.bl (!c),H1,I1,rfl,q1⟩)
def tIf (t : TT) (ta tb : TE) : TE := fun σ H Q => t σ H fun c H1 => if c = true then ta σ H1 Q else tb σ H1 Q
theorem zdt {c : Expr} (hc : PT X c tA) (ha : PE X a ta) (hb : PE X b tb) : PE X (.IfExp c a b pos) (tIf tA ta tb) := by
  intro pins s σ H Q I h; refine wpAny_IfExp (thn (hc pins s σ H _ I h) fun d s1 ⟨H1,I1,q1⟩ => ?_)
  cases d with
  | true => exact ha pins s1 σ H1 Q I1 q1
  | false => exact hb pins s1 σ H1 Q I1 q1
end
def SqL (K : Fg) (H : Hp) (a : Addr) (xs : List V) : Prop :=
  Rd H a (.lst xs) ∨
    ∃ (o : Obj) (its : Array Value) (n : Nat),K.lookup a = some o /\ o.cls = .type "list" /\ o.dict = none /\ o.data = .seq its n /\ its.size <= sizeLine /\ Vals xs its.toList
def SqT (K : Fg) (H : Hp) (a : Addr) (xs : List V) : Prop :=
  Rd H a (.tup xs) ∨
    ∃ (o : Obj) (its : Array Value) (n : Nat),K.lookup a = some o /\ o.cls = .type "tuple" /\ o.data = .seq its n /\ its.size <= sizeLine /\ Vals xs its.toList
def zkL : Value -> Option V
  | .none => some .non
  | .bool b => some (.bl b)
  | .int i _ => some (.int i)
  | .str x _ => some (.str x)
  | .bytes b _ => some (.byt b)
  | .float b _ => some (.flt b)
  | .ref a => some (.ref a)
  | .type n => some (.ty n)
  | _ => none
theorem RelV.abs {x : V} {u : Value} (r : RelV x u) : zkL u = some x := by
  cases x with
  | non => cases r; rfl
  | bl _ => cases r; rfl
  | int _ => obtain ⟨t,rfl⟩ := r; rfl
  | str _ => obtain ⟨t,rfl⟩ := r; rfl
  | byt _ => obtain ⟨t,rfl⟩ := r; rfl
  | flt _ => obtain ⟨t,rfl⟩ := r; rfl
  | ref _ => cases r; rfl
  | ty _ => cases r; rfl
theorem RelV.inj {x y : V} {u : Value} (r : RelV x u) (q : RelV y u) : x = y := Option.some.inj (r.abs.symm.trans q.abs)
theorem Vals.inj : ∀ {xs ys : List V} {us : List Value},Vals xs us -> Vals ys us -> xs = ys
  | _,_,_,.nil,.nil => rfl
  | _,_,_,.cons r t,.cons r' t' => by rw [r.inj r',Vals.inj t t']
section
variable {X : Cx} {pins : List (Addr × Obj)} {σ : St} {H : Hp} {s : Shared} {a : Addr} {xs ys : List V}
theorem SqL.of {K : Fg} (h : H a = some (.lst xs)) : SqL K H a xs := .inl (.inl h)
theorem SqT.of {K : Fg} (h : H a = some (.tup xs)) : SqT K H a xs := .inl (.inl h)
theorem Inv.list (I : Inv X pins σ H s) (h : SqL X.K H a xs) : ∃ its : List Value,Vals xs its /\ PlainL s.heap a its.toArray /\ xs.length <= sizeLine := by
  rcases h with h | ⟨o,its,n,hk,hc,hd,hs,hz,r⟩
  . obtain ⟨z,its,n,r,e⟩ := h.ok I.hok; exact ⟨its,r,⟨_,n,e,rfl,rfl,rfl⟩,z⟩
  . refine ⟨its.toList,r,⟨o,n,I.kIn a o hk,hc,hd,by simpa using hs⟩,?_⟩
    have e := r.length; simp only [Array.length_toList] at e; omega
theorem Inv.tuple (I : Inv X pins σ H s) (h : SqT X.K H a xs) : ∃ its : List Value,Vals xs its /\ IsTup s.heap a its.toArray /\ xs.length <= sizeLine := by
  rcases h with h | ⟨o,its,n,hk,hc,hs,hz,r⟩
  . obtain ⟨z,its,r,p⟩ := h.ok I.hok; exact ⟨its,r,p,z⟩
  . refine ⟨its.toList,r,⟨o,I.kIn a o hk,hc,n,by simpa using hs⟩,?_⟩
    have e := r.length; simp only [Array.length_toList] at e; omega
theorem Inv.list_inj (I : Inv X pins σ H s) (h : SqL X.K H a xs) (h' : SqL X.K H a ys) : xs = ys := by
  obtain ⟨its,r,⟨o,n,e,_,_,d⟩,_⟩ := I.list h; obtain ⟨its',r',⟨o',n',e',_,_,d'⟩,_⟩ := I.list h'; rw [e] at e'; cases e'; rw [d] at d'; injection d' with d1 _
  have : its = its' := by simpa using congrArg Array.toList d1
  subst this; exact r.inj r'
theorem Inv.tuple_inj (I : Inv X pins σ H s) (h : SqT X.K H a xs) (h' : SqT X.K H a ys) : xs = ys := by
  obtain ⟨its,r,⟨o,e,_,n,d⟩,_⟩ := I.tuple h; obtain ⟨its',r',⟨o',e',_,n',d'⟩,_⟩ := I.tuple h'; rw [e] at e'; cases e'; rw [d] at d'; injection d' with d1 _
  have : its = its' := by simpa using congrArg Array.toList d1
  subst this; exact r.inj r'
end
abbrev Cx.wish (X : Cx) (E : Value -> Shared -> Prop) : Cx := { X with xe := E }
abbrev Cx.nox (X : Cx) : Cx := X.wish fun _ _ => False
theorem Cx.Ok.wish {X : Cx} (ok : X.Ok) (E : Value -> Shared -> Prop) : (X.wish E).Ok :=
  ⟨ok.mod,ok.kind,ok.glob,ok.blt,ok.above,ok.inj,ok.has,ok.cab,ok.hd,ok.frames,ok.stk,ok.exf,ok.bs,ok.bsz,ok.noex,ok.exfs,ok.funs,ok.frf⟩
theorem Cx.Ok.unwish {X : Cx} {E : Value -> Shared -> Prop} (ok : (X.wish E).Ok) : X.Ok :=
  ⟨ok.mod,ok.kind,ok.glob,ok.blt,ok.above,ok.inj,ok.has,ok.cab,ok.hd,ok.frames,ok.stk,ok.exf,ok.bs,ok.bsz,ok.noex,ok.exfs,ok.funs,ok.frf⟩
section
variable {X : Cx} {pins : List (Addr × Obj)} {σ : St} {H : Hp} {s : Shared} {E : Value -> Shared -> Prop}
theorem Inv.wish (I : Inv X pins σ H s) (E : Value -> Shared -> Prop) : Inv (X.wish E) pins σ H s := ⟨I.ok.wish E,I.os,I.bare,I.base,I.loc,I.cell,I.free,I.freeC,I.pin,I.hok,I.len⟩
theorem Inv.unwish (I : Inv (X.wish E) pins σ H s) : Inv X pins σ H s := ⟨I.ok.unwish,I.os,I.bare,I.base,I.loc,I.cell,I.free,I.freeC,I.pin,I.hok,I.len⟩
theorem SP.unwish {D : zcB} {f : Flow} {s' : Shared} (h : SP (X.wish E) pins D f s') : SP X pins D f s' := by
  cases f with
  | next => obtain ⟨σ',H',I,q⟩ := h; exact ⟨σ',H',I.unwish,q⟩
  | brk => obtain ⟨σ',H',I,q⟩ := h; exact ⟨σ',H',I.unwish,q⟩
  | cont => obtain ⟨σ',H',I,q⟩ := h; exact ⟨σ',H',I.unwish,q⟩
  | ret u => obtain ⟨v,σ',H',I,r,q⟩ := h; exact ⟨v,σ',H',I.unwish,r,q⟩
theorem PSs.nox {st : List Stmt} {t : TS} (h : PSs X.nox st t) : PSs X st t := fun pins s σ H D I hw =>
  wpAny_mono (h pins s σ H D (I.wish _) hw) (fun _ _ q => q.unwish) fun _ _ z => False.elim z
end
section
variable {X : Cx} {st : Stmt} {rest : List Stmt} {t u : TS} {e : Expr} {te : TE} {pos : Pos}
def zjD : TS := fun D σ H => D.nx σ H
def zku (t u : TS) : TS := fun D σ H => t { D with nx := u D } σ H
theorem zaB : PSs X [] zjD := fun _ _ σ H _ I h => wpAny_execs_nil ⟨σ,H,I,h⟩
theorem zad (h1 : PS X st t) (h2 : PSs X rest u) : PSs X (st :: rest) (zku t u) := by
  intro pins s σ H D I h; refine wpAny_execs_cons (thn (h1 pins s σ H { D with nx := u D } I h) fun f s1 q => ?_)
  cases f with
  | next =>
    obtain ⟨σ',H',I',q⟩ := q; exact h2 pins s1 σ' H' D I' q
  | ret v => exact q
  | brk => exact q
  | cont => exact q
theorem zag (h1 : PS X st t) : PSs X [st] t := by
  intro pins s σ H D I h; refine wpAny_execs_cons (thn (h1 pins s σ H D I h) fun f s1 q => ?_)
  cases f with
  | next => exact wpAny_execs_nil q
  | ret v => exact q
  | brk => exact q
  | cont => exact q
theorem Inv.quiet {pins : List (Addr × Obj)} {σ : St} {H : Hp} {s : Shared} (I : Inv X pins σ H s) : interactive X.env = false := by simp [interactive,I.ok.kind]
def zjR (te : TE) : TS := fun D σ H => te σ H fun _ H1 => D.nx σ H1
theorem zdp (he : PE X e te) (hs : swapsWith e none pos.line X.env = pure false := by rfl) : PS X (.Expr e pos) (zjR te) := by
  intro pins s σ H D I h; exact wpAny_Expr_any (thn (he pins s σ H _ I h) fun v s1 ⟨x,H1,I1,r1,q1⟩ => ⟨σ,H1,I1,q1⟩) I.quiet hs
def zkw (te : TE) : TS := fun D σ H => te σ H D.rt
theorem zaq (he : PE X e te) : PS X (.Return (some e) pos) (zkw te) := by
  intro pins s σ H D I h; exact wpAny_Return_some (thn (he pins s σ H _ I h) fun v s1 ⟨x,H1,I1,r1,q1⟩ => ⟨x,σ,H1,I1,r1,q1⟩)
def zki (c : TT) (t u : TS) : TS := fun D σ H => c σ H fun b H1 => if b = true then t D σ H1 else u D σ H1
theorem zaY {c : Expr} {a b : List Stmt} {tc : TT} (hc : PT X c tc) (ha : PSs X a t) (hb : PSs X b u) : PS X (.If c a b pos) (zki tc t u) := by
  intro pins s σ H D I h; refine wpAny_If (thn (hc pins s σ H _ I h) fun d s1 ⟨H1,I1,q1⟩ => ?_)
  cases d with
  | true => exact ha pins s1 σ H1 D I1 q1
  | false => exact hb pins s1 σ H1 D I1 q1
def zjb : TS := fun _ _ _ => False
theorem zdD : PS X st zjb := fun _ _ _ _ _ _ h => h.elim
end
abbrev TG := V -> St -> Hp -> (St -> Hp -> Prop) -> Prop
def PG (X : Cx) (target : Expr) (t : TG) : Prop :=
  ∀ (pins : List (Addr × Obj)) (s : Shared) (σ : St) (H : Hp) (v : V) (u : Value) (Q : St -> Hp -> Prop),Inv X pins σ H s -> RelV v u -> t v σ H Q →
    wpAny (model X.prog X.w) X.A (assign target X.env u) (fun _ s' => ∃ σ' H',Inv X pins σ' H' s' /\ Q σ' H') X.xe s
section
variable {X : Cx} {pos : Pos}
def zbG (i : Nat) : TG := fun v σ H Q => Q (σ.set i (some v)) H
theorem zbK {i : Nat} {x : Str} (hN : X.N.Nodup) (hi : X.N[i]? = some x) (hx : Loc X.env.scope x) (hf : X.fn x = true \/ X.env.scope.names.lookup x = some .local := by first | exact .inl rfl | exact .inr rfl | assumption) : PG X (.Name x pos) (zbG i) := by
  intro pins s σ H v u Q I r h; exact wpAny_assign_Name (zdB I hN hi hx r (fun s' I' => ⟨_,H,I',h⟩) hf)
def zjC (te : TE) (g : TG) : TS := fun D σ H => te σ H fun x H1 => g x σ H1 D.nx
theorem zao {i : Nat} {x : Str} {e : Expr} {te : TE} {pos' : Pos} (hN : X.N.Nodup) (hi : X.N[i]? = some x) (hx : Loc X.env.scope x) (he : PE X e te) (hs : swapsWith e (some (.Name x pos')) pos.line X.env = pure false := by rfl) (hf : X.fn x = true \/ X.env.scope.names.lookup x = some .local := by first | exact .inl rfl | exact .inr rfl | assumption) :
    PS X (.Assign [.Name x pos'] e pos) (zjC te (zbG i)) := by
  intro pins s σ H D I h; refine wpAny_Assign_Name (thn (he pins s σ H _ I h) fun v s1 ⟨y,H1,I1,r1,q1⟩ => ?_) hs; exact zdB I1 hN hi hx r1 (fun s2 I2 => ⟨_,H1,I2,q1⟩) hf
end
structure It where
  go : Nat -> Hp -> Prop
  yld : Nat -> Hp -> V -> Hp -> Prop
  stop : Nat -> Hp -> Prop
def zch (X : Cx) (pins : List (Addr × Obj)) (H : Hp) (b : Addr) : Prop :=
  H b = none /\ b ≠ X.env.locals /\ b ∉ X.fs /\ (b ∈ X.ex \/ X.s₀.heap.objs.size <= b) /\ (∀ x c,X.env.cells.lookup x = some c -> c ≠ b) /\ ∀ p ∈ X.pn ++ pins,p.1 ≠ b
theorem Inv.fpOk {X : Cx} {pins : List (Addr × Obj)} {σ : St} {H H' : Hp} {s : Shared} {b : Addr} (I : Inv X pins σ H s) (hb : s.heap.objs.size <= b) (hn : H' b = none) : zch X pins H' b := by
  refine ⟨hn,Nat.ne_of_gt (Nat.lt_of_lt_of_le I.lt hb),I.nofs hb,.inr (Nat.le_trans I.sz hb),fun x c e z => ?_,fun p hp z => ?_⟩
  . obtain ⟨v,q⟩ := I.cell x c e; exact absurd (Nat.lt_of_lt_of_le q.lt (by rw [z]; exact hb)) (Nat.lt_irrefl _)
  . exact absurd (Nat.lt_of_lt_of_le (Heap.lt_size (I.pin p hp).1) (by rw [z]; exact hb)) (Nat.lt_irrefl _)
structure ze7 (P : Program) (w : World) (K : Fg) (tg : Expr) (J : It) (fp : List Addr) (it : Addr) (tn : Nat -> Heap -> Prop) : Prop where
  mem : it ∈ fp
  obj : ∀ i h,tn i h -> ∀ b ∈ fp,∃ o,h.get? b = some o /\ ∀ v,o.data ≠ .cell v
  keep : ∀ i h h',tn i h -> (∀ b ∈ fp,∀ o,h.get? b = some o -> h'.get? b = some o) -> tn i h'
  item : ∀ (X : Cx),X.prog = P -> X.w = w -> X.K = K -> X.calm = true -> ∀ (i : Nat) (pins : List (Addr × Obj)) (s : Shared) (σ : St) (H : Hp) (E : Value -> Shared -> Prop),Inv X pins σ H s -> (∀ b ∈ fp,zch X pins H b) -> tn i s.heap -> J.go i H →
    wpAny (model P w) X.A (pyNext (.ref it)) (fun r s1 => ∃ u,r = some u ∧
      wpAny (model P w) X.A (letOwnedTupleGo tg (.ref it) u) (fun _ s2 => ∃ x H',Inv X pins σ H' s2 /\ RelV x u /\ J.yld i H x H' /\ tn (i + 1) s2.heap /\ ∀ b ∈ fp,H' b = none) E s1) E s
  done : ∀ (X : Cx),X.prog = P -> X.w = w -> X.K = K -> X.calm = true -> ∀ (i : Nat) (pins : List (Addr × Obj)) (s : Shared) (σ : St) (H : Hp) (E : Value -> Shared -> Prop),Inv X pins σ H s -> (∀ b ∈ fp,zch X pins H b) -> tn i s.heap -> J.stop i H →
    wpAny (model P w) X.A (pyNext (.ref it)) (fun r s1 => r = none /\ Inv X pins σ H s1) E s
  self : ∀ (A : Around) (i : Nat) (s : Shared) (Q : Value -> Shared -> Prop) (E : Value -> Shared -> Prop),tn i s.heap -> Q (.ref it) s -> wpAny (model P w) A (pyIter (.ref it)) Q E s
abbrev TI := St -> Hp -> (It -> Hp -> Prop) -> Prop
def PIE (X : Cx) (pins : List (Addr × Obj)) (σ : St) (tg : Expr) (R : It -> Hp -> Prop) (itv : Value) (s2 : Shared) : Prop :=
  ∃ (it : Addr) (fp : List Addr) (tn : Nat -> Heap -> Prop) (J : It) (H' : Hp),itv = .ref it /\ Inv X pins σ H' s2 /\ ze7 X.prog X.w X.K tg J fp it tn /\ tn 0 s2.heap /\ (∀ b ∈ fp,zch X pins H' b) /\ R J H'
def PI (X : Cx) (tg iter : Expr) (wi : TI) : Prop :=
  ∀ (pins : List (Addr × Obj)) (s : Shared) (σ : St) (H : Hp) (R : It -> Hp -> Prop),Inv X pins σ H s -> wi σ H R →
    wpAny (model X.prog X.w) X.A (eval iter X.env) (fun v s1 => wpAny (model X.prog X.w) X.A (pyIter v) (PIE X pins σ tg R) X.xe s1) X.xe s
theorem zfp {M : Model} {A : Around} {E : Value -> Shared -> Prop} {s : Shared} {tg : Expr} {it : Addr} {u : Value} {o : Obj} {n : String} {vs : Array Value} {Q : Unit -> Shared -> Prop} (ho : s.heap.get? it = some o) (hc : o.cls = .type n) (hd : o.data = .fields vs)
    (hn : ["enumerate","zip","dict_itemiterator","dict_reverseitemiterator","odict_iterator","itertools.zip_longest","itertools.pairwise"].contains n = false) (hQ : Q () s) : wpAny M A (letOwnedTupleGo tg (.ref it) u) Q E s := by
  unfold letOwnedTupleGo
  cases tg <;> first
    | exact wpAny_pure hQ
    | (cases u <;> first
        | exact wpAny_pure hQ
        | (refine wpAny_bind (wpAny_load ho ?_)
           rw [hc,hd]; show wpAny M A (if (["enumerate","zip","dict_itemiterator","dict_reverseitemiterator","odict_iterator","itertools.zip_longest","itertools.pairwise"].contains n && vs[0]? == some (rawInt _)) = true then _ else _) Q E s; rw [if_neg (by intro h; rw [hn,Bool.false_and] at h; cases h)]
           exact wpAny_pure hQ))
def Itl (K : Fg) (a : Addr) : It :=
  ⟨fun i H => ∃ xs x,SqL K H a xs /\ xs[i]? = some x,fun i H x H' => H' = H /\ ∀ xs,SqL K H a xs -> xs[i]? = some x,fun i H => ∃ xs,SqL K H a xs /\ xs.length <= i⟩
def Itt (K : Fg) (a : Addr) : It :=
  ⟨fun i H => ∃ xs x,SqT K H a xs /\ xs[i]? = some x,fun i H x H' => H' = H /\ ∀ xs,SqT K H a xs -> xs[i]? = some x,fun i H => ∃ xs,SqT K H a xs /\ xs.length <= i⟩
def Itr (lo : Int) (n : Nat) : It := ⟨fun i _ => i < n,fun i H x H' => H' = H /\ x = .int (lo + i),fun i _ => n <= i⟩
theorem zgn {P : Program} {w : World} {K : Fg} {tg : Expr} (a it : Addr) : ze7 P w K tg (Itl K a) [it] it (fun i h => h.IsListIter it a i) where
  mem := by simp
  obj := fun i h st b hb => by
    have e : b = it := by simpa using hb
    subst e; obtain ⟨o,e,c,d⟩ := st; exact ⟨o,e,fun v z => by rw [d] at z; cases z⟩
  keep := fun i h h' st k => st.at fun o e => k it (by simp) o e
  item := by
    intro X hP hw hK hc i pins s σ H E I hf st hg; subst hP hw hK; obtain ⟨xs,x,hq,hx⟩ := hg; obtain ⟨its,rv,p,hz⟩ := I.list hq; obtain ⟨u,hu,ru⟩ := rv.get hx; obtain ⟨f0,f1,f2,f3,f4,f5⟩ := hf it (by simp)
    refine wpAny_pyNext_list_item st p.isList (x := u) (by simpa using hu) fun h' st' sb => ?_
    have I1 : Inv X pins σ H { s with heap := h' } := I.turned (t' := s.toks) (fun b o hb e => (sb.2 b hb).trans e) f0 f1 f3 f4 f5
    obtain ⟨o,e,c,d⟩ := id st'; exact ⟨u,rfl,zfp (s := { s with heap := h' }) e c d (by decide) ⟨x,H,I1,ru,⟨rfl,fun ys hy => by rw [I.list_inj hy hq]; exact hx⟩,st',fun b hb => (hf b hb).1⟩⟩
  done := by
    intro X hP hw hK hc i pins s σ H E I hf st hg; subst hP hw hK; obtain ⟨xs,hq,hx⟩ := hg; obtain ⟨its,rv,p,hz⟩ := I.list hq; obtain ⟨f0,f1,f2,f3,f4,f5⟩ := hf it (by simp)
    have hl := rv.length; exact wpAny_pyNext_list_end (I.ok.hd hc) st p.isList (by simp; omega) fun h' eb => ⟨rfl,I.turned (t' := s.toks) (fun b o hb e => eb b o hb e) f0 f1 f3 f4 f5⟩
  self := fun _ _ _ _ _ st h => wpAny_pyIter_listiter st h
theorem zfF {P : Program} {w : World} {K : Fg} {tg : Expr} (a it : Addr) : ze7 P w K tg (Itt K a) [it] it (fun i h => h.IsTupleIter it a i) where
  mem := by simp
  obj := fun i h st b hb => by
    have e : b = it := by simpa using hb
    subst e; obtain ⟨o,e,c,d⟩ := st; exact ⟨o,e,fun v z => by rw [d] at z; cases z⟩
  keep := fun i h h' st k => st.at fun o e => k it (by simp) o e
  item := by
    intro X hP hw hK hc i pins s σ H E I hf st hg; subst hP hw hK; obtain ⟨xs,x,hq,hx⟩ := hg; obtain ⟨its,rv,p,hz⟩ := I.tuple hq; obtain ⟨u,hu,ru⟩ := rv.get hx; obtain ⟨f0,f1,f2,f3,f4,f5⟩ := hf it (by simp)
    refine wpAny_pyNext_tuple_item st (show s.heap.IsTuple a its.toArray from p) (x := u) (by simpa using hu) fun h' st' sb => ?_
    have I1 : Inv X pins σ H { s with heap := h' } := I.turned (t' := s.toks) (fun b o hb e => (sb.2 b hb).trans e) f0 f1 f3 f4 f5
    obtain ⟨o,e,c,d⟩ := id st'; exact ⟨u,rfl,zfp (s := { s with heap := h' }) e c d (by decide) ⟨x,H,I1,ru,⟨rfl,fun ys hy => by rw [I.tuple_inj hy hq]; exact hx⟩,st',fun b hb => (hf b hb).1⟩⟩
  done := by
    intro X hP hw hK hc i pins s σ H E I hf st hg; subst hP hw hK; obtain ⟨xs,hq,hx⟩ := hg; obtain ⟨its,rv,p,hz⟩ := I.tuple hq; obtain ⟨f0,f1,f2,f3,f4,f5⟩ := hf it (by simp)
    have hl := rv.length; exact wpAny_pyNext_tuple_end (I.ok.hd hc) st (show s.heap.IsTuple a its.toArray from p) (by simp; omega) fun h' eb => ⟨rfl,I.turned (t' := s.toks) (fun b o hb e => eb b o hb e) f0 f1 f3 f4 f5⟩
  self := fun _ _ _ _ _ st h => wpAny_pyIter_tupleiter st h
theorem zfy {P : Program} {w : World} {K : Fg} {tg : Expr} (it : Addr) (lo : Int) (n : Nat) : ze7 P w K tg (Itr lo n) [it] it (fun i h => IsRangeIter h it (lo + (i : Nat) * 1) ((n : Int) - (i : Nat)) 1) where
  mem := by simp
  obj := fun i h st b hb => by
    have e : b = it := by simpa using hb
    subst e
    exact ⟨_,st,fun v z => by
      have z' : Data.fields _ = Data.cell v := z
      cases z'⟩
  keep := fun i h h' st k => k it (by simp) _ st
  item := by
    intro X hP hw hK hc i pins s σ H E I hf st hg; subst hP hw hK; obtain ⟨f0,f1,f2,f3,f4,f5⟩ := hf it (by simp)
    have W := Walks.range (prog := X.prog) (w := X.w) (I.ok.hd hc) it lo 1 n; refine W.item i s _ _ hg st fun v h' tk hv st' kk => ?_; obtain ⟨t,rfl⟩ := hv; have I1 : Inv X pins σ H { s with heap := h',toks := tk } := I.turned (fun b o hb e => kk b o (by simpa using hb) e) f0 f1 f3 f4 f5
    refine ⟨_,rfl,zfp (s := { s with heap := h',toks := tk }) (n := "range_iterator") st' rfl rfl (by decide) ⟨.int (lo + i),H,I1,⟨t,?_⟩,⟨rfl,rfl⟩,st',fun b hb => (hf b hb).1⟩⟩
    rw [Int.mul_one]
  done := by
    intro X hP hw hK hc i pins s σ H E I hf st hg; subst hP hw hK; obtain ⟨f0,f1,f2,f3,f4,f5⟩ := hf it (by simp)
    exact wpAny_pyNext_range_end (I.ok.hd hc) st (by have : n <= i := hg; omega) fun h' eb => ⟨rfl,I.turned (t' := s.toks) (fun b o hb e => eb b o hb e) f0 f1 f3 f4 f5⟩
  self := fun _ _ _ _ _ st h => wpAny_pyIter_rangeiter st h
section
variable {X : Cx} {tg : Expr}
def zjW (K : Fg) (tl : TE) : TI := fun σ H R => tl σ H fun x H1 => ∃ a,x = .ref a /\ (∃ xs,SqL K H1 a xs) /\ R (Itl K a) H1
def zkm (K : Fg) (tl : TE) : TI := fun σ H R => tl σ H fun x H1 => ∃ a,x = .ref a /\ (∃ xs,SqT K H1 a xs) /\ R (Itt K a) H1
theorem zcd {l : Expr} {tl : TE} (hl : PE X l tl) : PI X tg l (zjW X.K tl) := by
  intro pins s σ H R I h; refine thn (hl pins s σ H _ I h) fun v s1 ⟨x,H1,I1,r1,q1⟩ => ?_; obtain ⟨a,e,⟨xs,hq⟩,q⟩ := q1; subst e; cases r1; obtain ⟨its,rv,p,hz⟩ := I1.list hq; refine wpAny_pyIter_list p.isList ?_; refine ⟨s1.heap.objs.size,[s1.heap.objs.size],_,_,H1,rfl,I1.kept (t' := s1.toks) fun b o e => Heap.get?_push_of_some _ e,zgn a _,⟨_,Heap.get?_push_size _ rfl,rfl,rfl⟩,fun b hb => ?_,q⟩; have e : b = s1.heap.objs.size := by simpa using hb
  subst e; exact I1.fpOk (Nat.le_refl _) (I1.hok.fresh (Nat.le_refl _))
theorem zhx {l : Expr} {tl : TE} (hl : PE X l tl) : PI X tg l (zkm X.K tl) := by
  intro pins s σ H R I h; refine thn (hl pins s σ H _ I h) fun v s1 ⟨x,H1,I1,r1,q1⟩ => ?_; obtain ⟨a,e,⟨xs,hq⟩,q⟩ := q1; subst e; cases r1; obtain ⟨its,rv,p,hz⟩ := I1.tuple hq; refine wpAny_pyIter_tuple (show s1.heap.IsTuple a its.toArray from p) ?_; refine ⟨s1.heap.objs.size,[s1.heap.objs.size],_,_,H1,rfl,I1.kept (t' := s1.toks) fun b o e => Heap.get?_push_of_some _ e,zfF a _,⟨_,Heap.get?_push_size _ rfl,rfl,rfl⟩,fun b hb => ?_,q⟩; have e : b = s1.heap.objs.size := by simpa using hb
  subst e; exact I1.fpOk (Nat.le_refl _) (I1.hok.fresh (Nat.le_refl _))
theorem zfd {pins : List (Addr × Obj)} {σ : St} {H : Hp} {s : Shared} {R : It -> Hp -> Prop} {E : Value -> Shared -> Prop} {lo hi : Int} {t u v : Tok} {tk : Nat} (I : Inv X pins σ H s) (h1 : -(2 ^ 62) <= lo) (h2 : lo < 2 ^ 62) (h3 : -(2 ^ 62) <= hi) (h4 : hi < 2 ^ 62)
    (q : R (Itr lo (hi - lo).toNat) H) : wpAny (model X.prog X.w) X.A (pyIter (.ref s.heap.objs.size)) (PIE X pins σ tg R) E { s with heap := s.heap.push { cls := .type "range",data := .fields #[.int lo t,.int hi u,.int 1 v] },toks := tk } := by
  refine wpAny_pyIter_range (IsRange.new ..) (small_one h1 h2 h3 h4) ?_; have I1 : Inv X pins σ H { s with heap := s.heap.push { cls := .type "range",data := .fields #[.int lo t,.int hi u,.int 1 v] },toks := tk } := I.kept fun b o e => Heap.get?_push_of_some _ e
  refine ⟨(s.heap.push { cls := .type "range",data := .fields #[.int lo t,.int hi u,.int 1 v] }).objs.size,[(s.heap.push { cls := .type "range",data := .fields #[.int lo t,.int hi u,.int 1 v] }).objs.size],_,_,H,rfl,
    I1.kept (t' := tk) fun b o e => Heap.get?_push_of_some _ e,zfy _ lo (hi - lo).toNat,?_,fun b hb => ?_,q⟩
  . have e1 : lo + ((0 : Nat) : Int) * 1 = lo := by simp
    have e2 : (((hi - lo).toNat : Nat) : Int) - ((0 : Nat) : Int) = Builtin.Range.rangeSize lo hi 1 := by rw [rangeSize_one]; split <;> omega
    show IsRangeIter _ _ (lo + ((0 : Nat) : Int) * 1) ((((hi - lo).toNat : Nat) : Int) - ((0 : Nat) : Int)) 1; rw [e1,e2]; exact Heap.get?_push_size _ rfl
  . have e : b = (s.heap.push { cls := .type "range",data := .fields #[.int lo t,.int hi u,.int 1 v] }).objs.size := by simpa using hb
    subst e; exact I1.fpOk (Nat.le_refl _) (I1.hok.fresh (Nat.le_refl _))
def zjs (ta : TA) : TI := fun σ H R => ta σ H fun vs H1 => ∃ j : Int,vs = [.int j] /\ -(2 ^ 62) <= j /\ j < 2 ^ 62 /\ R (Itr 0 j.toNat) H1
def zkb (ta : TA) : TI := fun σ H R => ta σ H fun vs H1 => ∃ i j : Int,vs = [.int i,.int j] /\ (-(2 ^ 62) <= i /\ i < 2 ^ 62 /\ -(2 ^ 62) <= j /\ j < 2 ^ 62) /\ R (Itr i (j - i).toNat) H1
theorem zcW {a : Expr} {ta : TA} {p pos : Pos} (hg : Gl X "range") (hm : X.mg "range" = none) (ha : PA X [a] ta) (hs : starEach [a] X.env = [(false,eval a X.env)] := by rfl) : PI X tg (.Call (.Name "range" p) [a] [] pos) (zjs ta) := by
  intro pins s σ H R I h; refine Call_ (zdA I hg hm boot_range (PyProof.Rows.callWith_type1 (thn (ha pos pins s σ H _ I h) fun us s1 ⟨vs,H1,I1,r1,q1⟩ => ?_) hs rfl)); obtain ⟨j,e,q1,q2,q⟩ := q1; subst e
  cases r1 with
  | cons r rr =>
    cases rr; obtain ⟨t,rfl⟩ := r; exact call_range_1 (zfd I1 (by omega) (by omega) q1 q2 (by simpa using q))
theorem zgi {a b : Expr} {ta : TA} {p pos : Pos} (hg : Gl X "range") (hm : X.mg "range" = none) (ha : PA X [a,b] ta) (hs : starEach [a,b] X.env = [(false,eval a X.env),(false,eval b X.env)] := by rfl) (hs2 : starEach [b] X.env = [(false,eval b X.env)] := by rfl) :
    PI X tg (.Call (.Name "range" p) [a,b] [] pos) (zkb ta) := by
  intro pins s σ H R I h; refine Call_ (zdA I hg hm boot_range (PyProof.Rows.callWith_type1 (thn (ha pos pins s σ H _ I h) fun us s1 ⟨vs,H1,I1,r1,q1⟩ => ?_) (by rw [hs,hs2]) (by rw [hs2]; rfl)))
  obtain ⟨i,j,e,⟨q1,q2,q3,q4⟩,q⟩ := q1; subst e
  cases r1 with
  | cons r rr =>
    cases rr with
    | cons r' rr =>
      cases rr; obtain ⟨t,rfl⟩ := r; obtain ⟨t',rfl⟩ := r'; exact call_range_2 (zfd I1 q1 q2 q3 q4 q)
def zko (wi : TI) (g : TG) (tb : TS) : TS := fun D σ H => wi σ H fun J H1 => ∃ W : Nat -> Nat -> St -> Hp -> Prop,(∃ m,W 0 m σ H1) /\ ∀ i m σ H,W i m σ H →
  (J.stop i H /\ D.nx σ H) \/ (J.go i H /\ ∃ N : St -> Hp -> Prop,(∀ σ' H',N σ' H' -> ∃ m',m' < m /\ W (i + 1) m' σ' H') /\ ∀ x H',J.yld i H x H' -> g x σ H' fun σ2 H2 => tb { D with nx := N,ct := N,bk := D.nx } σ2 H2)
def zbz (fp : List Addr) (h : Heap) : List (Addr × Obj) := fp.filterMap fun b => (h.get? b).map fun o => (b,o)
theorem zaU {fp : List Addr} {h : Heap} {b : Addr} {o : Obj} (hb : b ∈ fp) (e : h.get? b = some o) : (b,o) ∈ zbz fp h := List.mem_filterMap.mpr ⟨b,hb,by rw [e]; rfl⟩
theorem zgx {fp : List Addr} {h : Heap} {p : Addr × Obj} (hp : p ∈ zbz fp h) : p.1 ∈ fp /\ h.get? p.1 = some p.2 := by
  obtain ⟨b,hb,e⟩ := List.mem_filterMap.mp hp
  cases q : h.get? b with
  | none => rw [q] at e; cases e
  | some o =>
    rw [q] at e; have e' : (b,o) = p := Option.some.inj e; subst e'; exact ⟨hb,q⟩
theorem Inv.pinned {pins : List (Addr × Obj)} {σ : St} {H : Hp} {s : Shared} {fp : List Addr} (I : Inv X pins σ H s) (hf : ∀ b ∈ fp,zch X pins H b) (ho : ∀ b ∈ fp,∃ o,s.heap.get? b = some o /\ ∀ v,o.data ≠ .cell v) : Inv X (pins ++ zbz fp s.heap) σ H s :=
  I.pins_of fun p hp => (List.mem_append.mp hp).elim (fun z => I.pin p (List.mem_append_right _ z)) fun z => by
    obtain ⟨hb,e⟩ := zgx z; obtain ⟨f0,f1,f2,_⟩ := hf p.1 hb; obtain ⟨o,e',d⟩ := ho p.1 hb; rw [e] at e'; cases e'; exact ⟨e,f0,f1,f2,d⟩
theorem Inv.unpinned {pins pl : List (Addr × Obj)} {σ : St} {H : Hp} {s : Shared} (I : Inv X (pins ++ pl) σ H s) : Inv X pins σ H s := I.pins_of fun p hp => I.pin p (List.mem_append_right _ (List.mem_append_left _ hp))
theorem zcX {iter : Expr} {body : List Stmt} {wi : TI} {g : TG} {tb : TS} {pos : Pos} (hp : PassesOwn (model X.prog X.w) X.A X.env X.xe) (hc : X.calm = true) (hi : PI X tg iter wi) (hg : PG X tg g) (hb : PSs X body tb)
    (hs : ∀ x,foldedSetIterable iter X.env x = pure x := by intro _; rfl) : PS X (.For tg iter body [] pos) (zko wi g tb) := by
  intro pins s σ H D I h; refine wpAny_For (thn (hi pins s σ H _ I h) fun v s1 h1 => thn h1 fun itv s2 h2 => ?_) hs; obtain ⟨it,fp,tn,J,H2,e,I2,T,st2,f2,W,⟨m0,w0⟩,turn⟩ := h2; subst e; have stat : ∀ {H' : Hp},(∀ b ∈ fp,H' b = none) -> ∀ b ∈ fp,zch X pins H' b := fun hn b hb => ⟨hn b hb,(f2 b hb).2⟩; refine codeAny_forLoop_any (fun n s' => ∃ i σ' H',Inv X pins σ' H' s' /\ tn i s'.heap /\ (∀ b ∈ fp,H' b = none) /\ W i n σ' H') ?_ m0 ⟨0,σ,H2,I2,st2,fun b hb => (f2 b hb).1,w0⟩; rintro n s3 ⟨i,σ3,H3,I3,st3,fr3,w3⟩
  rcases turn i n σ3 H3 w3 with ⟨stop,qn⟩ | ⟨go,N,hN,step⟩
  . refine wpAny_passesOwn hp (thn (T.done X rfl rfl rfl hc i pins s3 σ3 H3 X.xe I3 (stat fr3) st3 stop) fun r s4 ⟨hr,I4⟩ => ?_); subst hr; exact wpAny_execs_nil ⟨σ3,H3,I4,qn⟩
  . refine wpAny_passesOwn hp (thn (T.item X rfl rfl rfl hc i pins s3 σ3 H3 X.xe I3 (stat fr3) st3 go) fun r s4 ⟨u,hr,h4⟩ => ?_); subst hr; refine wpAny_passesOwn hp (thn h4 fun _ s5 ⟨x,H5,I5,r5,y5,st5,fr5⟩ => ?_); have I5' := I5.pinned (stat fr5) (T.obj _ _ st5); refine wpAny_passesOwn hp (thn (hg _ s5 σ3 H5 x u _ I5' r5 (step x H5 y5)) fun _ s6 ⟨σ6,H6,I6,q6⟩ => ?_); refine wpAny_passesOwn hp (thn (hb _ s6 σ6 H6 _ I6 q6) fun f s7 q7 => ?_)
    have again : ∀ {σ7 : St} {H7 : Hp},Inv X (pins ++ zbz fp s5.heap) σ7 H7 s7 -> N σ7 H7 -> ∃ m,m < n /\ ∃ i σ' H',Inv X pins σ' H' s7 /\ tn i s7.heap /\ (∀ b ∈ fp,H' b = none) /\ W i m σ' H' := fun {σ7 H7} I7 n7 => by
      obtain ⟨m',hm,w7⟩ := hN σ7 H7 n7; refine ⟨m',hm,i + 1,σ7,H7,I7.unpinned,T.keep _ _ _ st5 fun b hb o e => (I7.pin (b,o) (List.mem_append_right _ (List.mem_append_right _ (zaU hb e)))).1,fun b hb => ?_,w7⟩; obtain ⟨o,e,d⟩ := T.obj _ _ st5 b hb; exact (I7.pin (b,o) (List.mem_append_right _ (List.mem_append_right _ (zaU hb e)))).2.1
    cases f with
    | next => obtain ⟨σ7,H7,I7,n7⟩ := q7; exact again I7 n7
    | cont => obtain ⟨σ7,H7,I7,n7⟩ := q7; exact again I7 n7
    | brk => obtain ⟨σ7,H7,I7,q7⟩ := q7; exact ⟨σ7,H7,I7.unpinned,q7⟩
    | ret v => obtain ⟨x7,σ7,H7,I7,r7,q7⟩ := q7; exact ⟨x7,σ7,H7,I7.unpinned,r7,q7⟩
end
theorem zfk {K : Fg} {a : Addr} {xs : List V} {g : TG} {tb : TS} {D : zcB} {σ : St} {H : Hp} (Pv : Nat -> St -> Hp -> Prop) (h0 : Pv 0 σ H) (hl : ∀ i σ H,i <= xs.length -> Pv i σ H -> SqL K H a xs)
    (hs : ∀ i x σ H,xs[i]? = some x -> Pv i σ H -> g x σ H fun σ2 H2 => tb { D with nx := Pv (i + 1),ct := Pv (i + 1),bk := D.nx } σ2 H2) (hd : ∀ σ H,Pv xs.length σ H -> D.nx σ H) :
    ∃ W : Nat -> Nat -> St -> Hp -> Prop,(∃ m,W 0 m σ H) /\ ∀ i m σ H,W i m σ H →
      ((Itl K a).stop i H /\ D.nx σ H) \/ ((Itl K a).go i H /\ ∃ N : St -> Hp -> Prop,(∀ σ' H',N σ' H' -> ∃ m',m' < m /\ W (i + 1) m' σ' H') /\ ∀ x H',(Itl K a).yld i H x H' -> g x σ H' fun σ2 H2 => tb { D with nx := N,ct := N,bk := D.nx } σ2 H2) := by
  refine ⟨fun i m σ H => m = xs.length - i /\ i <= xs.length /\ Pv i σ H,⟨xs.length,by simp,Nat.zero_le _,h0⟩,?_⟩
  rintro i m σ H ⟨rfl,hi,p⟩; have q := hl i σ H hi p
  by_cases hlt : i < xs.length
  . refine .inr ⟨⟨xs,xs[i],q,by simp [hlt]⟩,Pv (i + 1),fun σ' H' p' => ⟨xs.length - (i + 1),by omega,rfl,hlt,p'⟩,fun x H' y => ?_⟩
    obtain ⟨e,y⟩ := y; subst e; exact hs i x σ _ (y xs q) p
  . have e : i = xs.length := by omega
    subst e; exact .inl ⟨⟨xs,q,Nat.le_refl _⟩,hd σ H p⟩
theorem ziq {K : Fg} {a : Addr} {xs : List V} {g : TG} {tb : TS} {D : zcB} {σ : St} {H : Hp} (Pv : Nat -> St -> Hp -> Prop) (h0 : Pv 0 σ H) (hl : ∀ i σ H,i <= xs.length -> Pv i σ H -> SqT K H a xs)
    (hs : ∀ i x σ H,xs[i]? = some x -> Pv i σ H -> g x σ H fun σ2 H2 => tb { D with nx := Pv (i + 1),ct := Pv (i + 1),bk := D.nx } σ2 H2) (hd : ∀ σ H,Pv xs.length σ H -> D.nx σ H) :
    ∃ W : Nat -> Nat -> St -> Hp -> Prop,(∃ m,W 0 m σ H) /\ ∀ i m σ H,W i m σ H →
      ((Itt K a).stop i H /\ D.nx σ H) \/ ((Itt K a).go i H /\ ∃ N : St -> Hp -> Prop,(∀ σ' H',N σ' H' -> ∃ m',m' < m /\ W (i + 1) m' σ' H') /\ ∀ x H',(Itt K a).yld i H x H' -> g x σ H' fun σ2 H2 => tb { D with nx := N,ct := N,bk := D.nx } σ2 H2) := by
  refine ⟨fun i m σ H => m = xs.length - i /\ i <= xs.length /\ Pv i σ H,⟨xs.length,by simp,Nat.zero_le _,h0⟩,?_⟩
  rintro i m σ H ⟨rfl,hi,p⟩; have q := hl i σ H hi p
  by_cases hlt : i < xs.length
  . refine .inr ⟨⟨xs,xs[i],q,by simp [hlt]⟩,Pv (i + 1),fun σ' H' p' => ⟨xs.length - (i + 1),by omega,rfl,hlt,p'⟩,fun x H' y => ?_⟩
    obtain ⟨e,y⟩ := y; subst e; exact hs i x σ _ (y xs q) p
  . have e : i = xs.length := by omega
    subst e; exact .inl ⟨⟨xs,q,Nat.le_refl _⟩,hd σ H p⟩
theorem zcP {lo : Int} {n : Nat} {g : TG} {tb : TS} {D : zcB} {σ : St} {H : Hp} (Pv : Nat -> St -> Hp -> Prop) (h0 : Pv 0 σ H)
    (hs : ∀ i σ H,i < n -> Pv i σ H -> g (.int (lo + i)) σ H fun σ2 H2 => tb { D with nx := Pv (i + 1),ct := Pv (i + 1),bk := D.nx } σ2 H2) (hd : ∀ σ H,Pv n σ H -> D.nx σ H) :
    ∃ W : Nat -> Nat -> St -> Hp -> Prop,(∃ m,W 0 m σ H) /\ ∀ i m σ H,W i m σ H →
      ((Itr lo n).stop i H /\ D.nx σ H) \/ ((Itr lo n).go i H /\ ∃ N : St -> Hp -> Prop,(∀ σ' H',N σ' H' -> ∃ m',m' < m /\ W (i + 1) m' σ' H') /\ ∀ x H',(Itr lo n).yld i H x H' -> g x σ H' fun σ2 H2 => tb { D with nx := N,ct := N,bk := D.nx } σ2 H2) := by
  refine ⟨fun i m σ H => m = n - i /\ i <= n /\ Pv i σ H,⟨n,by simp,Nat.zero_le _,h0⟩,?_⟩
  rintro i m σ H ⟨rfl,hi,p⟩
  by_cases hlt : i < n
  . refine .inr ⟨hlt,Pv (i + 1),fun σ' H' p' => ⟨n - (i + 1),by omega,rfl,hlt,p'⟩,fun x H' y => ?_⟩
    obtain ⟨e,y⟩ := y; subst e y; exact hs i σ _ hlt p
  . have e : i = n := by omega
    subst e; exact .inl ⟨Nat.le_refl _,hd σ H p⟩
abbrev R2 := V -> V -> Hp -> VK -> Prop
def OpR (X : Cx) (f : Value -> Value -> Sem Value) (r : R2) : Prop :=
  ∀ (pins : List (Addr × Obj)) (s : Shared) (σ : St) (H : Hp) (x y : V) (v u : Value) (Q : VK),Inv X pins σ H s -> RelV x v -> RelV y u -> r x y H Q →
    wpAny (model X.prog X.w) X.A (f v u) (EP X pins σ Q) X.xe s
def UnR (X : Cx) (f : Value -> Sem Value) (r : V -> Hp -> VK -> Prop) : Prop :=
  ∀ (pins : List (Addr × Obj)) (s : Shared) (σ : St) (H : Hp) (x : V) (v : Value) (Q : VK),Inv X pins σ H s -> RelV x v -> r x H Q →
    wpAny (model X.prog X.w) X.A (f v) (EP X pins σ Q) X.xe s
def CallR (X : Cx) (f : Value) (r : List V -> Hp -> VK -> Prop) : Prop :=
  ∀ (pins : List (Addr × Obj)) (s : Shared) (σ : St) (H : Hp) (xs : List V) (us : List Value) (Q : VK),Inv X pins σ H s -> Vals xs us -> r xs H Q →
    wpAny (model X.prog X.w) X.A (call f us) (EP X pins σ Q) X.xe s
def tOp (r : R2) (ta tb : TE) : TE := fun σ H Q => ta σ H fun x H1 => tb σ H1 fun y H2 => r x y H2 Q
def tUn (r : V -> Hp -> VK -> Prop) (ta : TE) : TE := fun σ H Q => ta σ H fun x H1 => r x H1 Q
inductive QInt (x y : V) (Q : Int → Int → Prop) : Prop
  | mk (i j : Int) (h1 : x = .int i) (h2 : y = .int j) (k : Q i j) : QInt x y Q
def rI (C : Int → Int → Prop) (g : Int → Int → V) : R2 := fun x y H Q => QInt x y (fun i j => C i j ∧ Q (g i j) H)
def rI0 (g : Int → Int → V) : R2 := fun x y H Q => QInt x y (fun i j => Q (g i j) H)
def rU (g : Int -> V) : V -> Hp -> VK -> Prop := fun x H Q => ∃ i,x = .int i /\ Q (g i) H
section
variable {X : Cx} {a b c : Expr} {ta tb tc : TE} {pos : Pos}
theorem zjn (ha : PE X a ta) (hb : PE X b tb) {pins : List (Addr × Obj)} {s : Shared} {σ : St} {H : Hp} {R : V -> V -> Hp -> Prop} (I : Inv X pins σ H s)
    (h : ta σ H fun x H1 => tb σ H1 fun y H2 => R x y H2) {Q : Value -> Shared -> Prop} {f : Value -> Value -> Sem Value}
    (hf : ∀ v u s2 x y H2,Inv X pins σ H2 s2 -> RelV x v -> RelV y u -> R x y H2 -> wpAny (model X.prog X.w) X.A (f v u) Q X.xe s2) :
    wpAny (model X.prog X.w) X.A (eval a X.env) (fun v s₁ => wpAny (model X.prog X.w) X.A (eval b X.env) (fun u s₂ => wpAny (model X.prog X.w) X.A (f v u) Q X.xe s₂) X.xe s₁) X.xe s := by
  refine thn (ha pins s σ H _ I h) fun v s1 ⟨x,H1,I1,r1,q1⟩ => ?_; refine thn (hb pins s1 σ H1 _ I1 q1) fun u s2 ⟨y,H2,I2,r2,q2⟩ => ?_; exact hf v u s2 x y H2 I2 r1 r2 q2
theorem zaj {op : Operator} {r : R2} (ho : OpR X (binaryOp op) r) (ha : PE X a ta) (hb : PE X b tb) : PE X (.BinOp a op b pos) (tOp r ta tb) := by
  intro pins s σ H Q I h; exact wpAny_BinOp (zjn ha hb I h fun v u s2 x y H2 I2 rx ry q => ho pins s2 σ H2 x y v u Q I2 rx ry q)
theorem zfU {op : UnaryOp} {r : V -> Hp -> VK -> Prop} (ho : UnR X (unaryOp op) r) (ha : PE X a ta) : PE X (.UnaryOp op a pos) (tUn r ta) := by
  intro pins s σ H Q I h; exact UnaryOp_ (thn (ha pins s σ H _ I h) fun v s1 ⟨x,H1,I1,r1,q1⟩ => ho pins s1 σ H1 x v Q I1 r1 q1)
theorem opI {f : Value -> Value -> Sem Value} {C : Int -> Int -> Prop} {g : Int -> Int -> Int}
    (rule : ∀ (i j : Int) (t u : Tok) (s : Shared) (Q : Value -> Shared -> Prop) (E : Value -> Shared -> Prop),C i j -> Q (.int (g i j) s.toks) { s with toks := s.toks + 1 } -> wpAny (model X.prog X.w) X.A (f (.int i t) (.int j u)) Q E s) :
    OpR X f (rI C fun i j => .int (g i j)) := by
  intro pins s σ H x y v u Q I rx ry h; obtain ⟨i,j,rfl,rfl,hc,q⟩ := h; obtain ⟨t,rfl⟩ := rx; obtain ⟨t',rfl⟩ := ry; exact rule i j t t' s _ _ hc ⟨.int (g i j),H,I.tok _,⟨_,rfl⟩,q⟩
theorem zjO {f : Value -> Value -> Sem Value} {g : Int -> Int -> Int}
    (rule : ∀ (i j : Int) (t u : Tok) (s : Shared) (Q : Value -> Shared -> Prop) (E : Value -> Shared -> Prop),Q (.int (g i j) s.toks) { s with toks := s.toks + 1 } -> wpAny (model X.prog X.w) X.A (f (.int i t) (.int j u)) Q E s) :
    OpR X f (rI0 fun i j => .int (g i j)) := by
  intro pins s σ H x y v u Q I rx ry h; obtain ⟨i,j,rfl,rfl,q⟩ := h; obtain ⟨t,rfl⟩ := rx; obtain ⟨t',rfl⟩ := ry; exact rule i j t t' s _ _ ⟨.int (g i j),H,I.tok _,⟨_,rfl⟩,q⟩
theorem zjT {f : Value -> Value -> Sem Value} {g : Int -> Int -> Bool}
    (rule : ∀ (i j : Int) (t u : Tok) (s : Shared) (Q : Value -> Shared -> Prop) (E : Value -> Shared -> Prop),Q (.bool (g i j)) s -> wpAny (model X.prog X.w) X.A (f (.int i t) (.int j u)) Q E s) :
    OpR X f (rI0 fun i j => .bl (g i j)) := by
  intro pins s σ H x y v u Q I rx ry h; obtain ⟨i,j,rfl,rfl,q⟩ := h; obtain ⟨t,rfl⟩ := rx; obtain ⟨t',rfl⟩ := ry; exact rule i j t t' s _ _ ⟨.bl (g i j),H,I,rfl,q⟩
def CMul (i j : Int) : Prop := (-(2 ^ 64) < i /\ i < 2 ^ 64) \/ (-(2 ^ 64) < j /\ j < 2 ^ 64)
theorem CMul.ok {i j : Int} (h : CMul i j) : IntMulOk i j := by
  rcases h with ⟨h1,h2⟩ | ⟨h1,h2⟩
  . exact .of_left (intBits_le_64 h1 h2)
  . exact .of_right (intBits_le_64 h1 h2)
theorem zeP : OpR X (binaryOp .Add) (rI0 fun i j => .int (i + j)) := zjO fun _ _ _ _ _ _ _ q => add_int q
theorem ziK : OpR X (binaryOp .Sub) (rI0 fun i j => .int (i - j)) := zjO fun _ _ _ _ _ _ _ q => sub_int q
theorem zbg : OpR X (binaryOp .Mult) (rI CMul fun i j => .int (i * j)) := opI fun _ _ _ _ _ _ _ hc q => mul_int q hc.ok
theorem zaH : OpR X (binaryOp .Mod) (rI (fun _ j => 0 < j) fun i j => .int (i % j)) := opI fun i j _ _ _ _ _ hc q => by
  have h1 : (0 : Int) < j := hc; exact mod_int' (by omega) (by rw [Int.fmod_eq_emod_of_nonneg i (by omega)]; exact q)
theorem unI {f : Value -> Sem Value} {g : Int -> Int}
    (rule : ∀ (i : Int) (t : Tok) (s : Shared) (Q : Value -> Shared -> Prop) (E : Value -> Shared -> Prop),Q (.int (g i) s.toks) { s with toks := s.toks + 1 } -> wpAny (model X.prog X.w) X.A (f (.int i t)) Q E s) :
    UnR X f (rU fun i => .int (g i)) := by
  intro pins s σ H x v Q I rx h; obtain ⟨i,rfl,q⟩ := h; obtain ⟨t,rfl⟩ := rx; exact rule i t s _ _ ⟨.int (g i),H,I.tok _,⟨_,rfl⟩,q⟩
theorem zeJ : UnR X (unaryOp .USub) (rU fun i => .int (-i)) := unI fun _ _ _ _ _ q => neg_int q
end
def zkc : V -> V -> Bool
  | .non,.non => true | .non,.int _ => true | .int _,.non => true | .non,.bl _ => true | .bl _,.non => true | .non,.str _ => true | .str _,.non => true
  | .int _,.int _ => true | .bl _,.bl _ => true | .str _,.str _ => true | .byt _,.byt _ => true
  | .int _,.str _ => true | .str _,.int _ => true | .bl _,.str _ => true | .str _,.bl _ => true
  | _,_ => false
def rEq : R2 := fun x y H Q => zkc x y = true /\ Q (.bl (decide (x = y))) H
def rNe : R2 := fun x y H Q => zkc x y = true /\ Q (.bl (!decide (x = y))) H
theorem zeA {i j : Int} : decide (V.int i = V.int j) = (i == j) := by
  rw [Bool.eq_iff_iff]; simp
theorem zhD {i j : Bool} : decide (V.bl i = V.bl j) = (i == j) := by
  rw [Bool.eq_iff_iff]; simp
theorem zf3 {i j : Str} : decide (V.str i = V.str j) = (i == j) := by
  rw [Bool.eq_iff_iff]; simp
theorem zfQ {i j : Array UInt8} : decide (V.byt i = V.byt j) = (i.toList == j.toList) := by
  rw [Bool.eq_iff_iff]; cases i; cases j; simp
section
variable {X : Cx} {a b c : Expr} {ta tb tc : TE} {pos : Pos}
theorem zar {pins : List (Addr × Obj)} {σ : St} {H : Hp} {s : Shared} {Q : VK} {k k' : Bool} (I : Inv X pins σ H s) (q : Q (.bl k) H) (e : k = k') : EP X pins σ Q (.bool k') s := by
  subst e; exact ⟨.bl k,H,I,rfl,q⟩
theorem zfr : OpR X (compareOp .Eq) rEq := by
  intro pins s σ H x y v u Q I rx ry h; obtain ⟨hs,q⟩ := h
  cases x with
  | non =>
    cases rx
    cases y with
    | non => cases ry; exact PySem.EqNone.eq_none_none (zar I q (by simp))
    | bl j => cases ry; exact PySem.EqNone.eq_none_bool (zar I q (by simp))
    | int j => obtain ⟨t',rfl⟩ := ry; exact PySem.EqNone.eq_none_int (zar I q (by simp))
    | str j => obtain ⟨t',rfl⟩ := ry; exact PySem.EqNone.eq_none_str (zar I q (by simp))
    | _ => exact absurd (show false = true from hs) fnt
  | bl i =>
    cases rx
    cases y with
    | non => cases ry; exact PySem.EqNone.eq_bool_none (zar I q (by simp))
    | bl j => cases ry; exact eq_bool (zar I q zhD)
    | str j => obtain ⟨t',rfl⟩ := ry; exact PySem.EqMixed.eq_bool_str (zar I q (by simp))
    | _ => exact absurd (show false = true from hs) fnt
  | int i =>
    obtain ⟨t,rfl⟩ := rx
    cases y with
    | non => cases ry; exact PySem.EqNone.eq_int_none (zar I q (by simp))
    | int j => obtain ⟨t',rfl⟩ := ry; exact eq_int (zar I q zeA)
    | str j => obtain ⟨t',rfl⟩ := ry; exact PySem.EqMixed.eq_int_str (zar I q (by simp))
    | _ => exact absurd (show false = true from hs) fnt
  | str i =>
    obtain ⟨t,rfl⟩ := rx
    cases y with
    | non => cases ry; exact PySem.EqNone.eq_str_none (zar I q (by simp))
    | bl j => cases ry; exact PySem.EqMixed.eq_str_bool (zar I q (by simp))
    | int j => obtain ⟨t',rfl⟩ := ry; exact PySem.EqMixed.eq_str_int (zar I q (by simp))
    | str j => obtain ⟨t',rfl⟩ := ry; exact eq_str (zar I q zf3)
    | _ => exact absurd (show false = true from hs) fnt
  | byt i =>
    obtain ⟨t,rfl⟩ := rx
    cases y with
    | byt j => obtain ⟨t',rfl⟩ := ry; exact PySem.W.eq_bytes (zar I q zfQ)
    | _ => exact absurd (show false = true from hs) fnt
  | _ => cases y <;> exact absurd (show false = true from hs) fnt
theorem zc6 : OpR X (compareOp .NotEq) rNe := by
  intro pins s σ H x y v u Q I rx ry h; obtain ⟨hs,q⟩ := h
  cases x with
  | non =>
    cases rx
    cases y with
    | non => cases ry; exact PySem.EqNone.ne_none_none (zar I q (by simp))
    | bl j => cases ry; exact PySem.EqNone.ne_none_bool (zar I q (by simp))
    | int j => obtain ⟨t',rfl⟩ := ry; exact PySem.EqNone.ne_none_int (zar I q (by simp))
    | str j => obtain ⟨t',rfl⟩ := ry; exact PySem.EqNone.ne_none_str (zar I q (by simp))
    | _ => exact absurd (show false = true from hs) fnt
  | bl i =>
    cases rx
    cases y with
    | non => cases ry; exact PySem.EqNone.ne_bool_none (zar I q (by simp))
    | bl j => cases ry; exact ne_bool (zar I q (congrArg not zhD))
    | str j => obtain ⟨t',rfl⟩ := ry; exact PySem.EqMixed.ne_bool_str (zar I q (by simp))
    | _ => exact absurd (show false = true from hs) fnt
  | int i =>
    obtain ⟨t,rfl⟩ := rx
    cases y with
    | non => cases ry; exact PySem.EqNone.ne_int_none (zar I q (by simp))
    | int j => obtain ⟨t',rfl⟩ := ry; exact ne_int (zar I q (congrArg not zeA))
    | str j => obtain ⟨t',rfl⟩ := ry; exact PySem.EqMixed.ne_int_str (zar I q (by simp))
    | _ => exact absurd (show false = true from hs) fnt
  | str i =>
    obtain ⟨t,rfl⟩ := rx
    cases y with
    | non => cases ry; exact PySem.EqNone.ne_str_none (zar I q (by simp))
    | bl j => cases ry; exact PySem.EqMixed.ne_str_bool (zar I q (by simp))
    | int j => obtain ⟨t',rfl⟩ := ry; exact PySem.EqMixed.ne_str_int (zar I q (by simp))
    | str j => obtain ⟨t',rfl⟩ := ry; exact ne_str (zar I q (congrArg not zf3))
    | _ => exact absurd (show false = true from hs) fnt
  | byt i =>
    obtain ⟨t,rfl⟩ := rx
    cases y with
    | byt j => obtain ⟨t',rfl⟩ := ry; exact PySem.W.ne_bytes (zar I q (congrArg not zfQ))
    | _ => exact absurd (show false = true from hs) fnt
  | _ => cases y <;> exact absurd (show false = true from hs) fnt
theorem ziD : OpR X (compareOp .Lt) (rI0 fun i j => .bl (decide (i < j))) := zjT fun _ _ _ _ _ _ _ q => lt_int q
theorem ziw : OpR X (compareOp .GtE) (rI0 fun i j => .bl (decide (j <= i))) := zjT fun _ _ _ _ _ _ _ q => ge_int q
theorem zgu : OpR X (compareOp .In) (fun x y H Q => ∃ i j,x = .str i /\ y = .str j /\ Q (.bl (!(Builtin.Str.occurrences j i 0 j.length 1).isEmpty)) H) := by
  intro pins s σ H x y v u Q I rx ry h; obtain ⟨i,j,rfl,rfl,q⟩ := h; obtain ⟨t,rfl⟩ := rx; obtain ⟨t',rfl⟩ := ry; exact in_str (zar I q rfl)
theorem zfv : OpR X (compareOp .Is) (fun x y H Q => y = .non /\ Q (.bl (decide (x = .non))) H) := by
  intro pins s σ H x y v u Q I rx ry h; obtain ⟨rfl,q⟩ := h; cases ry; refine is_none_gen (zar I q ?_)
  cases x <;> first
    | (cases rx; rfl)
    | (obtain ⟨t,rfl⟩ := rx; rfl)
theorem zfP : OpR X (compareOp .IsNot) (fun x y H Q => y = .non /\ Q (.bl (!decide (x = .non))) H) := by
  intro pins s σ H x y v u Q I rx ry h; obtain ⟨rfl,q⟩ := h; cases ry; refine isnot_none_gen (zar I q ?_)
  cases x <;> first
    | (cases rx; rfl)
    | (obtain ⟨t,rfl⟩ := rx; rfl)
theorem zaE (b : Expr) {op : CmpOp} (h : op ≠ .In := by decide) (h2 : op ≠ .NotIn := by decide) : behindInMarks op b = false := by
  have e1 : (op == CmpOp.In) = false := by cases op <;> first | rfl | exact absurd rfl h
  have e2 : (op == CmpOp.NotIn) = false := by cases op <;> first | rfl | exact absurd rfl h2
  cases b <;> simp [behindInMarks,e1,e2]
theorem zbc {op : CmpOp} {r : R2} (ho : OpR X (compareOp op) r) (ha : PE X a ta) (hb : PE X b tb) (hm : behindInMarks op b = false) : PE X (.Compare a [op] [b] pos) (tOp r ta tb) := by
  intro pins s σ H Q I h; exact wpAny_Compare1 (zjn ha hb I h fun v u s2 x y H2 I2 rx ry q => ho pins s2 σ H2 x y v u Q I2 rx ry q) hm
def zj2 (t : TE) : TT := fun σ H Q => t σ H fun x H' => QBl x (fun k => Q k H')
theorem zaK {op : CmpOp} {r : R2} (ho : OpR X (compareOp op) r) (ha : PE X a ta) (hb : PE X b tb) (hm : behindInMarks op b = false) : PT X (.Compare a [op] [b] pos) (zj2 (tOp r ta tb)) := by
  intro pins s σ H Q I h
  refine wpAny_isTrue_Compare1 (thn (ha pins s σ H _ I h) fun v s1 ⟨x,H1,I1,r1,q1⟩ => thn (hb pins s1 σ H1 _ I1 q1) fun u s2 ⟨y,H2,I2,r2,q2⟩ =>
    thn (ho pins s2 σ H2 x y v u _ I2 r1 r2 q2) fun c s3 ⟨z,H3,I3,r3,k,e,q3⟩ => ?_) hm
  subst e; cases r3; exact wpAny_truthy_bool ⟨H3,I3,q3⟩
theorem zeT : (sizeLine : Nat) < 2 ^ 63 := by rw [sizeLine_eq]; decide
theorem zaN : OpR X (binaryOp .Add) (fun x y H Q => ∃ i j,x = .str i /\ y = .str j /\ i.length + j.length <= sizeLine /\ Q (.str (i ++ j)) H) := by
  intro pins s σ H x y v u Q I rx ry h; obtain ⟨i,j,rfl,rfl,hz,q⟩ := h; obtain ⟨t,rfl⟩ := rx; obtain ⟨t',rfl⟩ := ry; exact add_str (fun t' tk => ⟨.str (i ++ j),H,I.tok _,⟨_,rfl⟩,q⟩) hz
theorem zda {x : V} {us : List Value} (r : Vals [x] us) : ∃ u,us = [u] /\ RelV x u := by
  cases r with
  | cons r1 r2 => cases r2; exact ⟨_,rfl,r1⟩
theorem zg5 {x y : V} {us : List Value} (r : Vals [x,y] us) : ∃ u w',us = [u,w'] /\ RelV x u /\ RelV y w' := by
  cases r with
  | cons r1 r2 =>
    cases r2 with
    | cons r3 r4 => cases r4; exact ⟨_,_,rfl,r1,r3⟩
theorem zgC (hc : X.calm = true) : CallR X (.builtin "min") (fun xs H Q => ∃ i j,xs = [.int i,.int j] /\ Q (.int (if j < i then j else i)) H) := by
  intro pins s σ H xs us Q I r h; obtain ⟨i,j,rfl,q⟩ := h; obtain ⟨u,w',rfl,⟨t,rfl⟩,⟨t',rfl⟩⟩ := zg5 r; refine min_two_ints (I.ok.hd hc) fun h' tk k => ⟨_,H,I.kept k,?_,q⟩
  by_cases hj : j < i
  . rw [if_pos hj,if_pos hj]; exact ⟨_,rfl⟩
  . rw [if_neg hj,if_neg hj]; exact ⟨_,rfl⟩
theorem call_str_int : CallR X (.type "str") (fun xs H Q => ∃ i,xs = [.int i] /\ i.natAbs.log2 < 1920 /\ Q (.str (toString i)) H) := by
  intro pins s σ H xs us Q I r h; obtain ⟨i,rfl,hz,q⟩ := h; obtain ⟨u,rfl,t,rfl⟩ := zda r; exact PySem.P.str_of_int hz ⟨.str _,H,I.tok _,⟨_,rfl⟩,q⟩
end
structure ObjM (h : Heap) (x dx C : Addr) (mA : Str -> Option Value) : Prop where
  obj : h.get? x = some (PySem.W.instObj C dx)
  ns : h.Ns1 dx mA
  ne : dx ≠ x
theorem zgk {h : Heap} {dx : Addr} {mA : Str -> Option Value} (n : h.Ns1 dx mA) : ∃ od,h.get? dx = some od /\ ∀ name,PySem.W.lookIn name od = some (mA name) := by
  obtain ⟨o,es,ep,ho,hd,hk,_,hm⟩ := n; refine ⟨o,ho,fun name => ?_⟩; have e := hm name; unfold nsFind findBy at e; rw [<- Array.find?_toList] at e; unfold PySem.W.lookIn; rw [hd]; dsimp only
  split
  . rename_i y q
    rw [q] at e; exact congrArg some e
  . rename_i q
    rw [q] at e
    have a : es.toList.any (·.refKey) = false := by
      rw [List.any_eq_false]; intro y hy; obtain ⟨z,t,hkey⟩ := hk y (Array.mem_toList_iff.mp hy); simp [DictEntry.refKey,hkey]
    have a' : ¬ es.toList.any (·.refKey) = true := by rw [a]; exact fnt
    rw [if_neg a']; exact congrArg some e
theorem ObjM.look {h : Heap} {x dx C : Addr} {mA : Str -> Option Value} (I : ObjM h x dx C mA) : ∃ od,PySem.W.InstAt h x (PySem.W.instObj C dx) C (some od) /\ ∀ name,PySem.W.lookIn name od = some (mA name) :=
  let ⟨od,ho,hl⟩ := zgk I.ns
  ⟨od,⟨I.obj,rfl,rfl,ho⟩,hl⟩
theorem RelO.some_of {v : V} {o : Option Value} (r : RelO (some v) o) : ∃ u,o = some u /\ RelV v u := by
  cases o with
  | none => exact (show False from r).elim
  | some u => exact ⟨u,rfl,r⟩
section
variable {P : Program} {w : World} {H H' : Hp} {h h' : Heap} {a C dx : Addr} {fs fs' : List (Str × V)}
theorem zh6 (hok : HOk P w H h) (e : H a = some (.ins C dx fs)) : ∃ mA,ObjM h a dx C mA /\ (∀ f,RelO (fs.lookup f) (mA f)) /\ PySem.Within mA (fs.map (·.1)) /\ fs.length <= 1000 /\ H dx = some (.own a) := by
  obtain ⟨d,z,ne,ob,mA,n,r,q⟩ := (show ObjOk P w H h a (.ins C dx fs) from hok a _ e); exact ⟨mA,⟨ob,n,ne⟩,r,q,z,d⟩
end
structure Cls (K : Fg) (C : Addr) : Prop where
  pg : PySem.W.plainGet K C Str.empty = true
  hd : PySem.W.hasDictIn K C = true
  po : PySem.W.plainOver K C = true
  sa : PySem.W.findIn K (.ref C) "__setattr__" = some (some (.builtin "object.__setattr__"))
theorem Cls.get {K : Fg} {C : Addr} (c : Cls K C) (f : Str) : PySem.W.plainGet K C f = true := c.pg
section
variable {X : Cx} {pins : List (Addr × Obj)} {σ : St} {H : Hp} {s : Shared} {A : Around} {E : Value -> Shared -> Prop} {Q : Value -> Shared -> Prop} {c : Value} {b : Bool}
inductive TyOf (K : Fg) (H : Hp) : V -> Value -> Prop where
  | non : TyOf K H .non (.type "NoneType")
  | bl (x : Bool) : TyOf K H (.bl x) (.type "bool")
  | int (i : Int) : TyOf K H (.int i) (.type "int")
  | str (x : Str) : TyOf K H (.str x) (.type "str")
  | flt (x : UInt64) : TyOf K H (.flt x) (.type "float")
  | lst {a : Addr} {xs : List V} (e : H a = some (.lst xs)) : TyOf K H (.ref a) (.type "list")
  | frz {a : Addr} {o : Obj} {xs : List V} (e : H a = some (.frz o (.lst xs))) : TyOf K H (.ref a) (.type "list")
  | tup {a : Addr} {xs : List V} (e : H a = some (.tup xs)) : TyOf K H (.ref a) (.type "tuple")
  | dK {a : Addr} {kvs : List (Key × V)} (e : H a = some (.dK kvs)) : TyOf K H (.ref a) (.type "dict")
  | dT {a : Addr} {kvs : List (List Key × V)} (e : H a = some (.dT kvs)) : TyOf K H (.ref a) (.type "dict")
  | ins {a C dx : Addr} {fs : List (Str × V)} (e : H a = some (.ins C dx fs)) (cl : Cls K C) (ha : PySem.W.findIn K (.ref C) "__class__" = some (some (.builtin "object.__class__")))
      (hn : PySem.W.specialIn K (.builtin "object.__class__") "__get__" = some (some (.builtin "getset_descriptor.__get__"))) (htk : PySem.W.takesIn K (.builtin "object.__class__") = some true)
      (hm : PySem.W.mroIn K C (.type "object") = some true) : TyOf K H (.ref a) (.ref C)
theorem zgA {x : V} {u t : Value} (I : Inv X pins σ H s) (rx : RelV x u) (ty : TyOf X.K H x t) (e : PySem.W.kitOne X.K t c = some b) (h : ∀ tk,Q (.bool b) { s with toks := tk }) :
    wpAny (model X.prog X.w) A (call (.builtin "isinstance") [u,c]) Q E s := by
  cases ty with
  | non => cases (show u = Value.none from rx); exact PySem.W.kia_one PySem.W.kitx_none I.kIn True.intro e (fun z => nomatch z) h
  | bl y => cases (show u = Value.bool y from rx); exact PySem.W.kia_one PySem.W.kitx_bool I.kIn True.intro e (fun z => nomatch z) h
  | int i => obtain ⟨t,q⟩ := (show ∃ t,u = Value.int i t from rx); cases q; exact PySem.W.kia_one PySem.W.kitx_int I.kIn True.intro e (fun z => nomatch z) h
  | str y => obtain ⟨t,q⟩ := (show ∃ t,u = Value.str y t from rx); cases q; exact PySem.W.kia_one PySem.W.kitx_str I.kIn True.intro e (fun z => nomatch z) h
  | flt y => obtain ⟨t,q⟩ := (show ∃ t,u = Value.float y t from rx); cases q; exact PySem.W.kia_one PySem.W.kitx_float I.kIn True.intro e (fun z => nomatch z) h
  | @lst a xs ea =>
    cases (show u = Value.ref a from rx)
    obtain ⟨_,_,n,_,h1⟩ := (show ObjOk X.prog X.w H s.heap a (.lst xs) from I.hok a _ ea); exact PySem.W.kia_one PySem.W.kitx_list I.kIn ⟨_,h1,rfl⟩ e (fun z => nomatch z) h
  | @frz a ob xs ea =>
    cases (show u = Value.ref a from rx)
    obtain ⟨_,_,_,n,_,h1⟩ := (show ObjOk X.prog X.w H s.heap a (.frz ob (.lst xs)) from I.hok a _ ea); exact PySem.W.kia_one PySem.W.kitx_list I.kIn ⟨_,h1,rfl⟩ e (fun z => nomatch z) h
  | @tup a xs ea =>
    cases (show u = Value.ref a from rx)
    obtain ⟨_,_,_,p⟩ := (show ObjOk X.prog X.w H s.heap a (.tup xs) from I.hok a _ ea); obtain ⟨o,h1,h2,_⟩ := p; exact PySem.W.kia_one PySem.W.kitx_tuple I.kIn ⟨o,h1,h2⟩ e (fun z => nomatch z) h
  | @dK a kvs ea =>
    cases (show u = Value.ref a from rx)
    obtain ⟨_,_,vs,_,p⟩ := (show ObjOk X.prog X.w H s.heap a (.dK kvs) from I.hok a _ ea); obtain ⟨o,es,ep,h1,h2,_⟩ := p; exact PySem.W.kia_one PySem.W.kitx_dict I.kIn ⟨o,h1,h2.1⟩ e (fun z => nomatch z) h
  | @dT a kvs ea =>
    cases (show u = Value.ref a from rx)
    obtain ⟨_,_,xs,_,o,es,ep,h1,h2,_⟩ := (show ObjOk X.prog X.w H s.heap a (.dT kvs) from I.hok a _ ea); exact PySem.W.kia_one PySem.W.kitx_dict I.kIn ⟨o,h1,h2.1⟩ e (fun z => nomatch z) h
  | @ins a C dx fs ea cl ha hn htk hm =>
    cases (show u = Value.ref a from rx)
    obtain ⟨mA,O,_⟩ := zh6 I.hok ea; obtain ⟨od,J,_⟩ := O.look; exact PySem.W.kia_one (PySem.W.kitx_own (cl.get _) cl.hd ha hn htk hm) I.kIn J e (fun z => nomatch z) h
end
structure Room (k : Nat) (A : Around) : Prop where
  hd : A.handled = none
  dp : A.depth + 3 * k + 5 < recursionLimit
  un : A.units + 16 * k + 200 < cLine
  gd : A.guards = some []
theorem Room.mono {j k : Nat} {A : Around} (r : Room k A) (h : j <= k) : Room j A := ⟨r.hd,by have := r.dp; omega,by have := r.un; omega,r.gd⟩
theorem Room.deeper {k : Nat} {A : Around} (r : Room (k + 1) A) (env : Env) : Room k (A.deeper env) :=
  ⟨r.hd,by have := r.dp; show A.depth + 1 + 3 * k + 5 < _; omega,by have := r.un; show A.units + 3 + 16 * k + 200 < _; omega,r.gd⟩
theorem Room.depth {k : Nat} {A : Around} (r : Room k A) : A.depth < recursionLimit := by have := r.dp; omega
theorem Room.units {k : Nat} {A : Around} (r : Room k A) : A.units + 64 < cLine := by have := r.un; omega
def zkJ : TA := fun _ H Q => Q [] H
def zka (ta : TE) (tr : TA) : TA := fun σ H Q => ta σ H fun x H1 => tr σ H1 fun xs H2 => Q (x :: xs) H2
section
variable {X : Cx} {e : Expr} {es : List Expr} {te : TE} {t : TA} {pos : Pos}
theorem zac : PA X [] zkJ := fun _ _ _ _ H Q I h => Calls.spliced_nil ⟨[],H,I,.nil,h⟩
theorem zaa (ha : PE X e te) (hr : PA X es t) (hs : starEach (e :: es) X.env = (false,eval e X.env) :: starEach es X.env := by rfl) : PA X (e :: es) (zka te t) := by
  intro pos pins s σ H Q I h; rw [hs]; show wpAny _ _ (spliced ((false,eval e X.env) :: backTo pos (starEach es X.env))) _ _ s; refine Calls.spliced_cons (thn (ha pins s σ H _ I h) fun u s1 ⟨x,H1,I1,r1,q1⟩ => ?_); exact thn (hr pos pins s1 σ H1 _ I1 q1) fun us s2 ⟨xs,H2,I2,r2,q2⟩ => ⟨x :: xs,H2,I2,.cons r1 r2,q2⟩
def zkj (t : TA) : TE := fun σ H Q => t σ H fun xs H1 => xs.length <= sizeLine /\ ∀ p,H1 p = none -> Q (.ref p) (upd H1 p (.tup xs))
def zks (t : TA) : TE := fun σ H Q => t σ H fun xs H1 => xs.length <= sizeLine /\ ∀ p,H1 p = none -> Q (.ref p) (upd H1 p (.lst xs))
theorem zcO {x1} (h : PA X es t) : PE X (.Tuple es x1 pos) (zkj t) := by
  intro pins s σ H Q I hq; refine wpAny_Tuple_spliced (thn (h pos pins s σ H _ I hq) fun us s1 ⟨xs,H1,I1,r,z,q⟩ => ⟨by rw [<- r.length]; exact z,?_⟩)
  have hf : H1 s1.heap.objs.size = none := I1.hok.fresh (Nat.le_refl _); refine ⟨.ref s1.heap.objs.size,upd H1 s1.heap.objs.size (.tup xs),I1.laid (t' := s1.toks) (fun b u e => Heap.get?_push_of_some _ e) (Nat.le_refl _) ?_,rfl,q _ hf⟩; exact ⟨z,us,r,⟨_,Heap.get?_push_size _ rfl,rfl,_,rfl⟩⟩
theorem zaO (h : PA X es t) : PE X (.List es pos) (zks t) := by
  intro pins s σ H Q I hq; refine wpAny_List_spliced (thn (h pos pins s σ H _ I hq) fun us s1 ⟨xs,H1,I1,r,z,q⟩ => ⟨by rw [<- r.length]; exact z,?_⟩)
  have hf : H1 s1.heap.objs.size = none := I1.hok.fresh (Nat.le_refl _); refine ⟨.ref s1.heap.objs.size,upd H1 s1.heap.objs.size (.lst xs),I1.laid (t' := s1.toks) (fun b u e => Heap.get?_push_of_some _ e) (Nat.le_refl _) ?_,rfl,q _ hf⟩; exact ⟨z,us,0,r,Heap.get?_push_size _ rfl⟩
end
abbrev Sp := List V -> Hp -> VK -> XK -> Prop
abbrev CXT := List Env -> Hp -> Shared -> XK -> Value -> Shared -> Prop
structure zie (P : Program) (w : World) (K : Fg) (mg : Str -> Option Value) (base : Heap) (A : Around) (outer : List Env) (s : Shared) (H : Hp) : Prop where
  frames : A.frames = some outer
  mod : Mod K mg base
  bs : ∀ b o,base.get? b = some o -> s.heap.get? b = some o /\ H b = none
  bsz : base.objs.size <= s.heap.objs.size
  funs : s.heap.FunFrames base outer
  frf : ∀ b ∈ frs outer,H b = none
  hok : HOk P w H s.heap
  bare : AllBare s.gens
def CE (outer : List Env) (P : Program) (w : World) (H : Hp) (s : Shared) (Q : VK) (u : Value) (s' : Shared) : Prop :=
  ∃ v H',s'.os = s.os /\ AllBare s'.gens /\ Un (frs outer) [] H H' s.heap s'.heap /\ HOk P w H' s'.heap /\ RelV v u /\ Q v H'
def CR (CX : CXT) (outer : List Env) (P : Program) (w : World) (H : Hp) (s : Shared) (Q : VK) (E : XK) (r : Result) (s' : Shared) : Prop :=
  match r with
  | .ok (.ret u) => CE outer P w H s Q u s'
  | .ok _ => False
  | .error e => CX outer H s E e s'
structure FnOk (P : Program) (w : World) (K : Fg) (mg : Str -> Option Value) (base : Heap) (CX : CXT) (k : Nat) (f : Addr) (fd : FuncData) (ps : List Str) (sp : Sp) : Prop where
  len : ∀ vs H Q E,sp vs H Q E -> vs.length = ps.length
  run : ∀ (A : Around) (outer : List Env) (s : Shared) (H : Hp) (args : Args) (us : List Value) (vs : List V) (Q : VK) (E : XK),Room k A -> zie P w K mg base A outer s H -> BindsTo s fd args (ps.zip us) -> Vals vs us -> sp vs H Q E →
    codeAny (model P w) A (.call (.ref f) args) (CR CX outer P w H s Q E) s
theorem FnOk.mono {P : Program} {w : World} {K : Fg} {mg : Str -> Option Value} {base : Heap} {CX : CXT} {j k : Nat} {f : Addr} {fd : FuncData} {ps : List Str} {sp : Sp} (F : FnOk P w K mg base CX j f fd ps sp) (h : j <= k) :
    FnOk P w K mg base CX k f fd ps sp := ⟨F.len,fun A outer s H args us vs Q E hr => F.run A outer s H args us vs Q E (hr.mono h)⟩
section
variable {X : Cx} {pins : List (Addr × Obj)} {σ : St} {H : Hp} {s s' : Shared}
theorem Inv.env0 (I : Inv X pins σ H s) : zie X.prog X.w X.K X.mg X.base X.A X.stack s H :=
  ⟨I.ok.frames,I.ok.mod,I.bs,Nat.le_trans I.ok.bsz I.sz,I.stack,I.stkFree,I.hok,I.bare⟩
theorem Inv.after {Q : VK} {u : Value} (I : Inv X pins σ H s) (h : CE X.stack X.prog X.w H s Q u s') : EP X pins σ Q u s' := by
  obtain ⟨v,H',os,bare,un,hok,r,q⟩ := h; obtain ⟨hh,g,d,t,os'⟩ := s'; obtain rfl : os' = s.os := os; exact ⟨v,H',I.call (h' := hh) (g' := g) (d' := d) (t' := t) (ch := []) un hok bare (fun b z => absurd z (by simp)),r,q⟩
end
def ziB (sp : Sp) (dvs : List V) (E : XK) (t : TA) : TE := fun σ H Q => t σ H fun vs H1 => sp (vs ++ dvs) H1 Q E
def Binds (K : Fg) (fd : FuncData) (ps : List Str) (ds : List Value) : Prop :=
  ∀ (s : Shared) (us : List Value),K.In s.heap -> (us ++ ds).length = ps.length -> BindsTo s fd ⟨us,[]⟩ (ps.zip (us ++ ds))
theorem Binds.all {K : Fg} {fd : FuncData} {ps : List Str} (h : ∀ us : List Value,us.length = ps.length -> bindArgs fd ⟨us,[]⟩ = pure (ps.zip us)) : Binds K fd ps [] := fun s us _ hl => by
  rw [List.append_nil] at hl ⊢; exact .of_eq (h us hl)
def zbW (CX : CXT) (X : Cx) (E : XK) : Prop := ∀ (pins : List (Addr × Obj)) (σ : St) (H : Hp) (s : Shared) (e : Value) (s' : Shared),Inv X pins σ H s -> CX X.stack H s E e s' -> X.xe e s'
section
variable {X : Cx} {CX : CXT} {k : Nat} {f C : Addr} {fd : FuncData} {ps : List Str} {sp : Sp} {dvs : List V} {ds : List Value} {E : XK} {x m : Str} {p pos apos : Pos} {e o : Expr} {es : List Expr} {ta : TE} {t : TA}
theorem ziH {pins : List (Addr × Obj)} {σ : St} {H : Hp} {s : Shared} {Q : VK} {us : List Value} {vs : List V} (F : FnOk X.prog X.w X.K X.mg X.base CX k f fd ps sp) (hr : Room k X.A) (hb : Binds X.K fd ps ds) (hd : Vals dvs ds) (hx : zbW CX X E)
    (I : Inv X pins σ H s) (r : Vals vs us) (h : sp (vs ++ dvs) H Q E) : wpAny (model X.prog X.w) X.A (call (.ref f) us) (EP X pins σ Q) X.xe s := by
  have r2 : Vals (vs ++ dvs) (us ++ ds) := r.append hd; have hl : (us ++ ds).length = ps.length := by rw [<- r2.length]; exact F.len _ _ _ _ h
  refine wpAny_call (codeAny_mono (F.run X.A X.stack s H ⟨us,[]⟩ (us ++ ds) (vs ++ dvs) Q E hr I.env0 (hb s us I.kIn hl) r2 h) fun r s' hq => ?_)
  cases r with
  | error e => exact hx pins σ H s e s' I hq
  | ok fl =>
    cases fl with
    | ret u => exact I.after hq
    | next => exact False.elim hq
    | brk => exact False.elim hq
    | cont => exact False.elim hq
theorem zh8 (F : FnOk X.prog X.w X.K X.mg X.base CX k f fd ps sp) (hr : Room k X.A) (hg : Gl X x) (hm : X.mg x = some (.ref f)) (hk : PySem.W.keepIn X.K (.ref f) = true) (hb : Binds X.K fd ps ds) (hd : Vals dvs ds) (hx : zbW CX X E)
    (ha : PA X (e :: es) t) (hdb : (x == ("__debug__" : Str)) = false := by decide) (he : starEach (e :: es) X.env = (false,eval e X.env) :: starEach es X.env := by rfl) (hpl : (backTo pos (starEach es X.env)).any (·.1) = false := by rfl) :
    PE X (.Call (.Name x p) (e :: es) [] pos) (ziB sp dvs E t) := by
  intro pins s σ H Q I h; refine wpAny_Call_Name_kw (zcK I hg hm ?_ hdb); refine PySem.W.callWith_K (h₀ := X.base) I.ok.mod.kin hk (thn (ha pos pins s σ H _ I h) fun us s1 ⟨vs,H1,I1,r,q⟩ => ⟨I1.kIn,?_⟩) he hpl; exact ziH F hr hb hd hx I1 r q
end
structure zap (N P : List Str) (sc : Scope) : Prop where
  kind : sc.kind = .function
  co : sc.isCoroutine = false
  gen : sc.isGenerator = false
  nd : N.Nodup
  pre : N.take P.length = P
  par : ∀ x ∈ P,sc.names.lookup x = some .local \/ sc.names.lookup x = some .cell
  nofree : ∀ y ∈ sc.names,y.2 ≠ .free
theorem zee {kindOf : Str -> Option NameKind} {x : Str} : ∀ {binds : List (Str × Value)} {m : Str -> Option Value},(∀ v,(x,v) ∉ binds) -> bindL kindOf binds m x = m x
  | [],_,_ => rfl
  | (n,v) :: r,m,h => by
    unfold bindL; rw [zee fun w hw => h w (List.mem_cons_of_mem _ hw)]
    split
    . have : x ≠ n := by rintro rfl; exact h v List.mem_cons_self
      simp [this]
    . rfl
theorem zea {kindOf : Str -> Option NameKind} {x : Str} : ∀ {binds : List (Str × Value)} {m : Str -> Option Value},(∀ v,(x,v) ∉ binds) -> bindC kindOf binds m x = m x
  | [],_,_ => rfl
  | (n,v) :: r,m,h => by
    unfold bindC; rw [zea fun w hw => h w (List.mem_cons_of_mem _ hw)]
    split
    . rfl
    . have : x ≠ n := by rintro rfl; exact h v List.mem_cons_self
      simp [this]
theorem zeb {kindOf : Str -> Option NameKind} {x : Str} {v : Value} : ∀ {P : List Str} {vs : List Value} {i : Nat} {m : Str -> Option Value},P.Nodup -> P[i]? = some x -> vs[i]? = some v -> kindOf x = some .local →
    bindL kindOf (P.zip vs) m x = some v
  | [],_,_,_,_,h,_,_ => by simp at h
  | _ :: _,[],_,_,_,_,h,_ => by simp at h
  | p :: P,w :: vs,0,m,nd,h1,h2,hk => by
    simp at h1 h2; subst h1; subst h2; show bindL kindOf ((p,w) :: P.zip vs) m p = _; unfold bindL; rw [zee fun v hv => (List.nodup_cons.mp nd).1 (List.of_mem_zip hv).1,if_pos hk]; simp
  | p :: P,w :: vs,i + 1,m,nd,h1,h2,hk => by
    show bindL kindOf ((p,w) :: P.zip vs) m x = _; unfold bindL; exact zeb (i := i) (List.nodup_cons.mp nd).2 (by simpa using h1) (by simpa using h2) hk
theorem zeq {kindOf : Str -> Option NameKind} {x : Str} {v : Value} : ∀ {P : List Str} {vs : List Value} {i : Nat} {m : Str -> Option Value},P.Nodup -> P[i]? = some x -> vs[i]? = some v -> kindOf x ≠ some .local →
    bindC kindOf (P.zip vs) m x = some v
  | [],_,_,_,_,h,_,_ => by simp at h
  | _ :: _,[],_,_,_,_,h,_ => by simp at h
  | p :: P,w :: vs,0,m,nd,h1,h2,hk => by
    simp at h1 h2; subst h1; subst h2; show bindC kindOf ((p,w) :: P.zip vs) m p = _; unfold bindC; rw [zea fun v hv => (List.nodup_cons.mp nd).1 (List.of_mem_zip hv).1,if_neg hk]; simp
  | p :: P,w :: vs,i + 1,m,nd,h1,h2,hk => by
    show bindC kindOf ((p,w) :: P.zip vs) m x = _; unfold bindC; exact zeq (i := i) (List.nodup_cons.mp nd).2 (by simpa using h1) (by simpa using h2) hk
def zcN (N : List Str) (vs : List V) : St := vs.map some ++ List.replicate (N.length - vs.length) none
def zdj (CX : CXT) (P : Program) (w : World) (K : Fg) (mg : Str -> Option Value) (base : Heap) (N : List Str) (qual : Str) (scope : Scope) (f : Addr) (cd : Value) (A : Around) (outer : List Env) (s : Shared) (H : Hp) (E : XK) : Cx where
  prog := P
  w := w
  K := K
  mg := mg
  base := base
  A := A.deeper (envOfC qual scope s.heap.objs.size f cd)
  N := N
  s₀ := s
  H₀ := H
  env := envOfC qual scope s.heap.objs.size f cd
  outer := outer
  stack := envOfC qual scope s.heap.objs.size f cd :: outer
  ex := []
  calm := true
  fn := fun _ => true
  pn := []
  xe := fun e s' => wpAny (model P w) (A.deeper (envOfC qual scope s.heap.objs.size f cd)) («leaving» (envOfC qual scope s.heap.objs.size f cd) e) (fun _ s'' => CX outer H s E e s'') (fun e' s'' => CX outer H s E e' s'') s'
theorem ze3 {sc : Scope} {n : Nat} {x : Str} (h : sc.names.lookup x = some .cell) : ∃ c,(cellsFrom n sc.names []).lookup x = some c := by
  have q := PySem.W.cellsFrom_some sc.names n [] (.inl h); exact Option.isSome_iff_exists.mp q
theorem zgw {CX : CXT} {P : Program} {w : World} {K : Fg} {mg : Str -> Option Value} {base : Heap} {N ps : List Str} {qual : Str} {scope : Scope} {f : Addr} {cd : Value} {A : Around} {outer : List Env} {s s1 : Shared} {H : Hp} {E : XK} {us : List Value} {vs : List V}
    (S : zap N ps scope) (hd : A.handled = none) (e0 : zie P w K mg base A outer s H) (hl : vs.length = ps.length) (r : Vals vs us)
    (x : InCallC s s.heap.objs.size (bindL (envOfC qual scope s.heap.objs.size f cd).kindOf (ps.zip us) fun _ => none) (cellsFrom (s.heap.objs.size + 1) scope.names []) (bindC (envOfC qual scope s.heap.objs.size f cd).kindOf (ps.zip us) fun _ => none) s1) :
    Inv (zdj CX P w K mg base N qual scope f cd A outer s H E) [] (zcN N vs) H s1 := by
  have hpl : ps.length <= N.length := by have := congrArg List.length S.pre; rw [List.length_take] at this; omega
  obtain ⟨h1,tk,rfl,hk⟩ := x.done; have noA : ∀ b : Addr,b ∉ (zdj CX P w K mg base N qual scope f cd A outer s H E).ex := fun b z => absurd (show b ∈ ([] : List Addr) from z) (by simp)
  refine ⟨⟨e0.mod,S.kind,rfl,rfl,Nat.le_refl _,fun y z c h1 h2 => ?_,fun y hy => ?_,fun y c _ h => ?_,fun _ => hd,Around.frames_deeper e0.frames,.inr ⟨rfl,rfl⟩,fun b z => absurd z (noA b),e0.bs,e0.bsz,fun b _ _ => noA b,fun b z => absurd z (noA b),e0.funs,e0.frf⟩,
    rfl,e0.bare,Un.kept hk,⟨_,x.toInCall.ns,fun i y v h1 h2 h3 => ?_⟩,fun y c h => ⟨_,x.cell y c h⟩,e0.hok.fresh (Nat.le_refl _),fun y c h => ?_,fun p hp => absurd (show p ∈ ([] : List (Addr × Obj)) from hp) (by simp),e0.hok.kept hk,?_⟩
  . exact name_of_addr x.apart (PySem.mem_of_lookup h1) (PySem.mem_of_lookup h2)
  . have hy : scope.names.lookup y = some .cell \/ scope.names.lookup y = some .free := hy
    rcases hy with hy | hy
    . exact ze3 hy
    . exact absurd rfl (S.nofree _ (PySem.mem_of_lookup hy))
  . exact Nat.le_of_lt (x.above y c (PySem.mem_of_lookup h))
  . have hi : i < vs.length := by
      unfold zcN at h2
      by_cases hi : i < vs.length
      . exact hi
      . rw [List.getElem?_append_right (by simpa using hi)] at h2
        rw [List.getElem?_replicate] at h2
        split at h2 <;> cases h2
    have ha : vs[i]? = some v := by
      unfold zcN at h2; rw [List.getElem?_append_left (by simpa using hi),List.getElem?_map] at h2
      cases e : vs[i]? with
      | none => rw [e] at h2; cases h2
      | some a => rw [e] at h2; cases h2; rfl
    obtain ⟨u,hu,rv⟩ := r.get ha
    have hp : ps[i]? = some y := by
      rw [<- S.pre,List.getElem?_take_of_lt (by omega)]; exact h1
    have ndP : ps.Nodup := by rw [<- S.pre]; exact S.nd.sublist (List.take_sublist _ _)
    refine ⟨u,rv,?_⟩
    rcases S.par y (List.mem_of_getElem? hp) with k | k
    . exact .inl ⟨k,zeb ndP hp hu k⟩
    . obtain ⟨c,e⟩ := ze3 (n := s.heap.objs.size + 1) k; refine .inr ⟨.inl k,c,e,?_⟩; have q := x.cell y c e; rw [zeq ndP hp hu (by show scope.names.lookup y ≠ _; rw [k]; decide)] at q
      exact q
  . exact e0.hok.fresh (Nat.le_of_lt (x.above y c (PySem.mem_of_lookup h)))
  . unfold zcN; show _ = N.length; rw [List.length_append,List.length_map,List.length_replicate]; omega
theorem zix {CX : CXT} {P : Program} {w : World} {K : Fg} {mg : Str -> Option Value} {base : Heap} {k : Nat} {f : Addr} {name qual : Str} {params : Arguments} {body : List Stmt} {scope : Scope} {dV kV doc pm cdv ct oc : Value} {an od : Option Addr}
    {osl : Array (Option Value)} {N ps : List Str} {sp : Sp} (lk : K.lookup f = some ⟨oc,od,.func (PySem.W.fnOf name qual params body scope dV kV doc pm an cdv ct),osl⟩) (hcd : PySem.W.codeIn K cdv qual = true) (S : zap N ps scope)
    (len : ∀ vs H Q E,sp vs H Q E -> vs.length = ps.length)
    (hbody : ∀ (A : Around) (outer : List Env) (s : Shared) (H : Hp) (vs : List V) (Q : VK) (E : XK),Room k (A.deeper (envOfC qual scope s.heap.objs.size f cdv)) -> sp vs H Q E →
      ∃ t,PSs (zdj CX P w K mg base N qual scope f cdv A outer s H E) body t /\ t { nx := fun _ H' => Q .non H',rt := Q } (zcN N vs) H) :
    FnOk P w K mg base CX (k + 1) f (PySem.W.fnOf name qual params body scope dV kV doc pm an cdv ct) ps sp := by
  refine ⟨len,fun A outer s H args us vs Q E hr e0 hb r hsp => ?_⟩; have hl := len _ _ _ _ hsp; have KX : K.In s.heap := e0.mod.kin.keeps fun b o e => (e0.bs b o e).1; have lim : s.heap.NoLimit := e0.mod.nolimit.keeps fun b o e => (e0.bs b o e).1
  have hkind : ∀ y ∈ ps.zip us,scope.names.lookup y.1 = some .local \/ (scope.names.lookup y.1 = some .cell /\ ((cellsFrom (s.heap.objs.size + 1) scope.names []).lookup y.1).isSome = true) := fun ⟨n,v⟩ hy => by
    rcases S.par n (List.of_mem_zip hy).1 with q | q
    . exact .inl q
    . exact .inr ⟨q,PySem.W.cellsFrom_some _ _ _ (.inl q)⟩
  refine codeAny_call_function hr.depth (KX _ _ lk) rfl S.co S.gen rfl (PySem.W.codeRec_of KX hcd) (hb _ _ _ _ ?_); refine wpAny_newFunctionEnv_cells S.kind hkind fun env he s1 x => ?_; subst he; refine ⟨lim.keeps x.toInCall.keep,codeAny_func ?_⟩; obtain ⟨t,ht,hq⟩ := hbody A outer s H vs Q E (hr.deeper _) hsp; have I : Inv (zdj CX P w K mg base N qual scope f cdv A outer s H E) [] (zcN N vs) H s1 := zgw S hr.hd e0 hl r x; refine wpAny_mono (ht [] s1 (zcN N vs) H _ I hq) (fun fl s' hs => ?_) fun e s' hs => hs
  have fin : ∀ {σ' : St} {H' : Hp} {v : V} {u : Value},Inv (zdj CX P w K mg base N qual scope f cdv A outer s H E) [] σ' H' s' -> RelV v u -> Q v H' -> CE outer P w H s Q u s' :=
    fun {σ' H' v u} J rv q => ⟨v,H',J.os,J.bare,J.base,J.hok,rv,q⟩
  cases fl with
  | ret u =>
    obtain ⟨v,σ',H',J,rv,q⟩ := hs; exact fin J rv q
  | next =>
    obtain ⟨σ',H',J,q⟩ := hs; exact fin (v := V.non) (u := Value.none) J rfl q
  | brk =>
    obtain ⟨_,_,_,q⟩ := hs; exact False.elim q
  | cont =>
    obtain ⟨_,_,_,q⟩ := hs; exact False.elim q
section
variable {X : Cx} {x : Str} {p pos : Pos} {e : Expr} {es : List Expr} {t : TA} {id T : String} {r : List V -> Hp -> VK -> Prop}
def tCB (r : List V -> Hp -> VK -> Prop) (t : TA) : TE := fun σ H Q => t σ H fun vs H1 => r vs H1 Q
theorem zai (hc : CallR X (.builtin id) r) (hg : Gl X x) (hm : X.mg x = none) (hv : bootBuiltins x = some (.builtin id)) (ha : PA X (e :: es) t) (hn : x ≠ "__name__" := by decide) (hdb : (x == ("__debug__" : Str)) = false := by decide)
    (he : starEach (e :: es) X.env = (false,eval e X.env) :: starEach es X.env := by rfl) (hpl : (backTo pos (starEach es X.env)).any (·.1) = false := by rfl) : PE X (.Call (.Name x p) (e :: es) [] pos) (tCB r t) := by
  intro pins s σ H Q I h; refine wpAny_Call_Name_kw (zdA I hg hm hv ?_ hn hdb); exact PyProof.Rows.callWith_builtin1 (thn (ha pos pins s σ H _ I h) fun us s1 ⟨vs,H1,I1,r1,q1⟩ => hc pins s1 σ H1 vs us Q I1 r1 q1) he hpl
theorem zaD (hc : CallR X (.type T) r) (hg : Gl X x) (hm : X.mg x = none) (hv : bootBuiltins x = some (.type T)) (ha : PA X (e :: es) t) (hn : x ≠ "__name__" := by decide) (hdb : (x == ("__debug__" : Str)) = false := by decide)
    (he : starEach (e :: es) X.env = (false,eval e X.env) :: starEach es X.env := by rfl) (hpl : (backTo pos (starEach es X.env)).any (·.1) = false := by rfl) : PE X (.Call (.Name x p) (e :: es) [] pos) (tCB r t) := by
  intro pins s σ H Q I h; refine wpAny_Call_Name_kw (zdA I hg hm hv ?_ hn hdb); exact PyProof.Rows.callWith_type1 (thn (ha pos pins s σ H _ I h) fun us s1 ⟨vs,H1,I1,r1,q1⟩ => hc pins s1 σ H1 vs us Q I1 r1 q1) he hpl
end
end L2
namespace HT
open PySem PyProof.Rows
section
open PySem.SeqAt
open PySem.AutoSeq1 (wpAny_loadPart')
open PySem.MeetsSeq PySem.MeetsSeq2 PySem.MeetsSeq3
end
section
variable {prog : Program} {w : World} {A : Around} {E : Value -> Shared -> Prop} {s : Shared}
theorem cat_tup {t b : Addr} {vs ws : List Value} {Q : Value -> Shared -> Prop} (ht : IsTup s.heap t vs.toArray) (hb : IsTup s.heap b ws.toArray) (hv : vs ≠ [])
    (h1 : ws = [] -> Q (.ref t) s) (h2 : ws ≠ [] -> Q (.ref s.heap.objs.size) { s with heap := s.heap.push { cls := .type "tuple",data := .seq (vs ++ ws).toArray } })
    (hsz : vs.length + ws.length <= sizeLine) : wpAny (model prog w) A (binaryOp .Add (.ref t) (.ref b)) Q E s := by
  obtain ⟨⟨cls,dd,data,sl⟩,ho,hc,n,hd⟩ := id ht; obtain ⟨⟨cls2,dd2,data2,sl2⟩,ho2,hc2,n2,hd2⟩ := id hb; simp only at hc hd hc2 hd2; subst hc hd hc2 hd2; have e : vs.toArray ++ ws.toArray = (vs ++ ws).toArray := by simp
  by_cases hw : ws = []
  . exact concat_meets ⟨_,ho,rfl⟩ ⟨_,ho2,rfl⟩ noFill_tuple_add seq_tuple_add PySem.F.slot_tuple_add PySem.F.entry_tuple_add (PySem.F.args_tuple_add_2 _ _)
      (tuple_addW1 t b vs.toArray ws.toArray n n2 dd dd2 sl sl2 (by simpa using hv) (by simp [hw])) ⟨ho,ho2,h1 hw⟩
  . refine concat_meets ⟨_,ho,rfl⟩ ⟨_,ho2,rfl⟩ noFill_tuple_add seq_tuple_add PySem.F.slot_tuple_add PySem.F.entry_tuple_add (PySem.F.args_tuple_add_2 _ _)
      (tuple_addW2 t b vs.toArray ws.toArray n n2 dd dd2 sl sl2 (by simpa using hv) (by simpa using hw) (by rw [List.size_toArray,List.size_toArray]; exact hsz)) ⟨ho,ho2,?_⟩
    rw [e]; exact h2 hw
def sIx (n d : Nat) : Option Int -> Nat
  | none => d
  | some v => if v < 0 then (v + (n : Int)).toNat else min v.toNat n
theorem sIx_nat (n d k : Nat) : sIx n d (some (k : Int)) = min k n := by
  show (if (k : Int) < 0 then ((k : Int) + (n : Int)).toNat else min (k : Int).toNat n) = min k n; rw [if_neg (by omega),Int.toNat_natCast]
theorem ziL (n d : Nat) (hd : d <= n) (o : Option Int) : sIx n d o <= n := by
  cases o with
  | none => exact hd
  | some v =>
    show (if v < 0 then (v + (n : Int)).toNat else min v.toNat n) <= n
    by_cases hv : v < 0
    . rw [if_pos hv]; omega
    . rw [if_neg hv]; exact Nat.min_le_right _ _
theorem zf9 (v : Int) (n d : Nat) : (if v < 0 then max (v + (n : Int)) 0 else min v (n : Int)) = ((sIx n d (some v) : Nat) : Int) := by
  show (if v < 0 then max (v + (n : Int)) 0 else min v (n : Int)) = (((if v < 0 then (v + (n : Int)).toNat else min v.toNat n) : Nat) : Int)
  by_cases hv : v < 0
  . simp only [if_pos hv]; omega
  . simp only [if_neg hv]; omega
theorem zfC (lo hi : Option Int) (n : Nat) : Builtin.Slice.sliceAdjust lo hi 1 (n : Int) = (((sIx n 0 lo : Nat) : Int),((sIx n n hi : Nat) : Int)) := by
  have h1 : ¬ ((1 : Int) < 0) := by omega
  unfold Builtin.Slice.sliceAdjust; simp only [h1,if_false]; refine Prod.ext ?_ ?_
  . cases lo with
    | none => rfl
    | some v => exact zf9 v n 0
  . cases hi with
    | none => rfl
    | some v => exact zf9 v n n
theorem zfH (i j : Nat) : Builtin.Slice.slicePlaces (i : Int) (j : Int) 1 = j - i := by
  unfold Builtin.Slice.slicePlaces; have h1 : (1 : Int) > 0 := by omega
  simp only [h1,if_true,Int.ediv_one]
  split <;> omega
theorem zdJ {v : Value} {o : Option Int} {Q : Option Int -> Shared -> Prop} (p : IsPart v o) (h : Q o s) : wpAny (model prog w) A (Builtin.Slice.slicePartIndex v) Q E s := by
  cases p with
  | none => exact slicePart_none h
  | int i t => exact slicePart_int h
theorem zbE {sl : Addr} {vl vu : Value} {lo hi : Option Int} {n : Nat} {Q : Int × Int × Nat -> Shared -> Prop} (hs : s.heap.IsSliceOf sl vl vu .none) (pl : IsPart vl lo) (pu : IsPart vu hi)
    (h : Q (((sIx n 0 lo : Nat) : Int),1,sIx n n hi - sIx n 0 lo) s) : wpAny (model prog w) A (Builtin.Slice.sliceApplied (.ref sl) (pure (n : Int))) Q E s := by
  obtain ⟨os,hos,hcs,hds⟩ := id hs; unfold Builtin.Slice.sliceApplied Builtin.Slice.sliceFields; refine wpAny_bind (wpAny_bind (wpAny_field hos hds (x := vl) rfl (wpAny_bind (wpAny_field hos hds (x := vu) rfl (wpAny_bind (wpAny_field hos hds (x := .none) rfl (wpAny_pure ?_))))))); refine wpAny_bind (slicePart_none ?_); show wpAny _ _ (if ((1 : Int) == 0) = true then _ else _) _ _ s; rw [if_neg (by decide)]
  refine wpAny_bind (zdJ pl (wpAny_bind (zdJ pu (wpAny_bind (wpAny_pure ?_))))); show wpAny _ _ (match Builtin.Slice.sliceAdjust lo hi 1 (n : Int) with | (lo,hi) => pure (lo,(1 : Int),Builtin.Slice.slicePlaces lo hi 1)) _ _ s
  rw [zfC lo hi n]; show wpAny _ _ (pure (((sIx n 0 lo : Nat) : Int),(1 : Int),Builtin.Slice.slicePlaces ((sIx n 0 lo : Nat) : Int) ((sIx n n hi : Nat) : Int) 1)) _ _ s; rw [zfH]; exact wpAny_pure h
theorem zgO (xs : Array Value) (i k : Nat) : ((List.range k).filterMap fun (m : Nat) => xs[((i : Int) + (m : Int) * 1).toNat]?).toArray = ((xs.toList.drop i).take k).toArray := by
  have e : (fun (m : Nat) => xs[((i : Int) + (m : Int) * 1).toNat]?) = fun m => xs[i + m]? := by
    funext m
    have : ((i : Int) + (m : Int) * 1).toNat = i + m := by omega
    rw [this]
  rw [e]; have := pick_run xs i k; rw [List.filterMap_map] at this; have e2 : ((fun x => xs[x]?) ∘ fun x => i + x) = fun m => xs[i + m]? := rfl; rw [e2] at this; rw [this]
theorem getItem_tuple_cut {t sl : Addr} {items : Array Value} {vl vu : Value} {lo hi : Option Int} {Q : Value -> Shared -> Prop} (ht : IsTup s.heap t items) (hs : s.heap.IsSliceOf sl vl vu .none) (pl : IsPart vl lo) (pu : IsPart vu hi)
    (hw : ¬ (sIx items.size 0 lo = 0 /\ sIx items.size items.size hi = items.size))
    (h : Q (.ref s.heap.objs.size) { s with heap := s.heap.push { cls := .type "tuple",data := .seq ((items.toList.drop (sIx items.size 0 lo)).take (sIx items.size items.size hi - sIx items.size 0 lo)).toArray } })
    (hsz : items.size <= sizeLine) : wpAny (model prog w) A (getItem (.ref t) (.ref sl)) Q E s := by
  have htake : sizeOk (.seq ((items.toList.drop (sIx items.size 0 lo)).take (sIx items.size items.size hi - sIx items.size 0 lo)).toArray) := by
    show ((items.toList.drop (sIx items.size 0 lo)).take (sIx items.size items.size hi - sIx items.size 0 lo)).toArray.size <= sizeLine; rw [List.size_toArray,List.length_take,List.length_drop,Array.length_toList]; omega
  have hj : sIx items.size items.size hi <= items.size := ziL _ _ (Nat.le_refl _) hi; obtain ⟨os,hos,hcs,hds⟩ := id hs; have hTs : s.TypeIs (.ref sl) "slice" := ⟨os,hos,hcs⟩; unfold getItem
  try with_reducible refine wpAny_holding ?_
  first | refine wpAny_bind (wpAny_pure ?_) | skip
  refine wpAny_bind (wpAny_sequenceKey ht.typeIs (by decide) ?_)
  refine wpAny_bind (wpAny_callSpecial?_slot (name := Str.ofString "__getitem__") ht.typeIs PyProof.Rows.slot_tuple_getitem
    (wpAny_call_entry PyProof.Rows.slot_tuple_getitem ht.typeIs entry_tuple_getitem ?_ (args_tuple_getitem _ _)))
  show wpAny _ _ (Builtin.Tuple.tupleItemsOf (.ref t) >>= _) _ _ s; refine wpAny_bind (tupleItemsOf_ ht ?_); refine wpAny_bind (wpAny_typeOf hTs ?_); rw [if_pos (by decide)]
  refine wpAny_bind (zbE hs pl pu ?_)
  have hno : ¬ ((((sIx items.size 0 lo : Nat) : Int) == 0 && (1 : Int) == 1 && (sIx items.size items.size hi - sIx items.size 0 lo) == items.size) = true) := by
    intro q; rw [Bool.and_eq_true,Bool.and_eq_true] at q; have q1 : ((sIx items.size 0 lo : Nat) : Int) = 0 := eq_of_beq q.1.1; have q2 : sIx items.size items.size hi - sIx items.size 0 lo = items.size := eq_of_beq q.2; exact hw ⟨by omega,by omega⟩
  show wpAny _ _ (if (((sIx items.size 0 lo : Nat) : Int) == 0 && (1 : Int) == 1 && (sIx items.size items.size hi - sIx items.size 0 lo) == items.size) = true then _ else _) _ _ s; rw [if_neg hno,zgO]
  first
    | exact wpAny_bind (m := Builtin.Tuple.tupleExact _) (wpAny_newObj_type (wpAny_pure ⟨_,rfl,wpAny_pure h⟩) htake)
    | exact wpAny_bind (m := Builtin.Tuple.tupleExact _) (wpAny_newObj_type (wpAny_bind (wpAny_pure (wpAny_pure ⟨_,rfl,wpAny_pure h⟩))) htake)
    | exact wpAny_bind (wpAny_bind (m := Builtin.Tuple.tupleExact _) (wpAny_newObj_type (wpAny_pure (wpAny_pure ⟨_,rfl,wpAny_pure h⟩)) htake))
    | exact wpAny_bind (wpAny_bind (m := Builtin.Tuple.tupleExact _) (wpAny_newObj_type (wpAny_pure ⟨_,rfl,wpAny_pure h⟩) htake))
end
end HT
namespace L2
open PySem PySem.Spec PyProof.Rows
abbrev TO := St -> Hp -> (Option Int -> Hp -> Prop) -> Prop
def PO (X : Cx) (e : Option Expr) (t : TO) : Prop :=
  ∀ (pins : List (Addr × Obj)) (s : Shared) (σ : St) (H : Hp) (Q : Option Int -> Hp -> Prop),Inv X pins σ H s -> t σ H Q →
    wpAny (model X.prog X.w) X.A (evalPart e X.env) (fun u s' => ∃ o H',Inv X pins σ H' s' /\ IsPart u o /\ Q o H') X.xe s
def zir : TO := fun _ H Q => Q none H
def zjy (t : TE) : TO := fun σ H Q => t σ H fun x H1 => ∃ i,x = .int i /\ Q (some i) H1
section
variable {X : Cx} {e : Expr} {te : TE} {lo hi : Option Expr} {tl th : TO} {pos p2 : Pos}
theorem zbx : PO X none zir := by
  intro pins s σ H Q I h; rw [evalPart_none]; exact wpAny_pure ⟨none,H,I,.none,h⟩
theorem zbb (h : PE X e te) : PO X (some e) (zjy te) := by
  intro pins s σ H Q I hw; rw [evalPart_some]; refine thn (h pins s σ H _ I hw) fun u s1 ⟨x,H1,I1,r1,q1⟩ => ?_; obtain ⟨i,rfl,q⟩ := q1; obtain ⟨t,rfl⟩ := r1; exact ⟨some i,H1,I1,.int i t,q⟩
def SlR (X : Cx) (r : V -> Option Int -> Option Int -> Hp -> VK -> Prop) : Prop :=
  ∀ (pins : List (Addr × Obj)) (s : Shared) (σ : St) (H : Hp) (x : V) (v vl vu : Value) (lo hi : Option Int) (sl : Addr) (Q : VK),Inv X pins σ H s -> RelV x v -> s.heap.IsSliceOf sl vl vu .none -> IsPart vl lo -> IsPart vu hi -> r x lo hi H Q →
    ∃ T id,typeLookup (.type T) "__getitem__" = pure (some (.builtin id)) /\ s.TypeIs v T /\ wpAny (model X.prog X.w) X.A (getItem v (.ref sl)) (EP X pins σ Q) X.xe s
def tSl (r : V -> Option Int -> Option Int -> Hp -> VK -> Prop) (te : TE) (tl th : TO) : TE := fun σ H Q => te σ H fun x H1 => tl σ H1 fun l H2 => th σ H2 fun u H3 => r x l u H3 Q
theorem za0 {r : V -> Option Int -> Option Int -> Hp -> VK -> Prop} (hr : SlR X r) (he : PE X e te) (hl : PO X lo tl) (hu : PO X hi th) : PE X (.Subscript e (.Slice lo hi none p2) pos) (tSl r te tl th) := by
  intro pins s σ H Q I h; refine Subscript_ (thn (he pins s σ H _ I h) fun v s1 ⟨x,H1,I1,r1,q1⟩ => ?_); refine wpAny_Slice (thn (hl pins s1 σ H1 _ I1 q1) fun vl s2 ⟨l,H2,I2,pl,q2⟩ => thn (hu pins s2 σ H2 _ I2 q2) fun vu s3 ⟨u,H3,I3,pu,q3⟩ => ?_); rw [evalPart_none]; refine wpAny_pure ?_; have I4 : Inv X pins σ H3 { s3 with heap := s3.heap.push { cls := .type "slice",data := .fields #[vl,vu,.none] } } := I3.kept (t' := s3.toks) fun b ob q => Heap.get?_push_of_some _ q
  obtain ⟨T,id,hT,ht,hg⟩ := hr pins { s3 with heap := s3.heap.push { cls := .type "slice",data := .fields #[vl,vu,.none] } } σ H3 x v vl vu l u s3.heap.objs.size Q I4 r1 (Heap.IsSliceOf.new ..) pl pu q3
  show wpAny (model X.prog X.w) X.A (subscriptTail e (.Slice lo hi none p2) v (.ref s3.heap.objs.size)) (EP X pins σ Q) X.xe { s3 with heap := s3.heap.push { cls := .type "slice",data := .fields #[vl,vu,.none] } }
  exact tail_any (ops := [.ref s3.heap.objs.size,v]) ht hT hg (by with_unfolding_all rfl)
def zbM (xs : List V) (lo hi : Option Int) : List V := (xs.drop (HT.sIx xs.length 0 lo)).take (HT.sIx xs.length xs.length hi - HT.sIx xs.length 0 lo)
theorem zdb (xs : List V) (lo hi : Option Int) : (zbM xs lo hi).length <= xs.length := by
  unfold zbM; rw [List.length_take,List.length_drop]; omega
def zkq (K : Fg) : V -> Option Int -> Option Int -> Hp -> VK -> Prop := fun x lo hi H Q => ∃ a xs,x = .ref a /\ SqT K H a xs ∧
  ¬ (HT.sIx xs.length 0 lo = 0 /\ HT.sIx xs.length xs.length hi = xs.length) /\ ∀ p,H p = none -> Q (.ref p) (upd H p (.tup (zbM xs lo hi)))
theorem zjg : SlR X (zkq X.K) := by
  intro pins s σ H x v vl vu lo hi sl Q I rx hs pl pu h; obtain ⟨a,xs,rfl,hx,hw,q⟩ := h; cases rx; obtain ⟨its,r,ht,hz⟩ := I.tuple hx; have hlen : its.toArray.size = xs.length := by rw [List.size_toArray]; exact r.length.symm
  refine ⟨"tuple",_,PyProof.Rows.slot_tuple_getitem.lookup,ht.typeIs,?_⟩; refine HT.getItem_tuple_cut ht hs pl pu (by rw [hlen]; exact hw) ?_ (by rw [hlen]; exact hz)
  rw [hlen]; refine ⟨.ref s.heap.objs.size,_,I.laid (t' := s.toks) (o := .tup (zbM xs lo hi)) (fun b ob q => Heap.get?_push_of_some _ q) (Nat.le_refl _) ?_,rfl,q _ (I.hok.fresh (Nat.le_refl _))⟩; exact ⟨Nat.le_trans (zdb xs lo hi) hz,_,(r.drop (HT.sIx xs.length 0 lo)).take (HT.sIx xs.length xs.length hi - HT.sIx xs.length 0 lo),IsTup.new _ _⟩
def zj8 (K : Fg) : R2 := fun x y H Q => ∃ a b xs ys,x = .ref a /\ y = .ref b /\ SqT K H a xs /\ SqT K H b ys /\ xs ≠ [] /\ xs.length + ys.length <= sizeLine ∧
  (ys = [] -> Q (.ref a) H) /\ (ys ≠ [] -> ∀ p,H p = none -> Q (.ref p) (upd H p (.tup (xs ++ ys))))
theorem Vals.nil_iff {xs : List V} {us : List Value} (r : Vals xs us) : us = [] ↔ xs = [] := by
  cases r with
  | nil => simp
  | cons _ _ => simp
theorem zhU : OpR X (binaryOp .Add) (zj8 X.K) := by
  intro pins s σ H x y v u Q I rx ry h; obtain ⟨a,b,xs,ys,rfl,rfl,ha,hb,hx,hz,q1,q2⟩ := h; cases rx; cases ry; obtain ⟨its,r1,p1,_⟩ := I.tuple ha; obtain ⟨its2,r2,p2,_⟩ := I.tuple hb; refine HT.cat_tup p1 p2 (fun z => hx (r1.nil_iff.mp z)) (fun z => ⟨.ref a,H,I,rfl,q1 (r2.nil_iff.mp z)⟩) (fun z => ?_) (by rw [<- r1.length,<- r2.length]; exact hz)
  refine ⟨.ref s.heap.objs.size,_,I.laid (t' := s.toks) (o := .tup (xs ++ ys)) (fun b ob q => Heap.get?_push_of_some _ q) (Nat.le_refl _) ?_,rfl,q2 (fun w => z (r2.nil_iff.mpr w)) _ (I.hok.fresh (Nat.le_refl _))⟩; exact ⟨by rw [List.length_append]; exact hz,_,r1.append r2,IsTup.new _ _⟩
end
def ixN (n : Nat) (i : Int) : Option Nat := if 0 <= i then (if i < n then some i.toNat else none) else if -(n : Int) <= i then some (i + n).toNat else none
def atI {α : Type} (xs : List α) (i : Int) : Option α := (ixN xs.length i).bind fun j => xs[j]?
theorem zh5 {n : Nat} {i : Int} {j : Nat} (h : ixN n i = some j) : seqIndex? i n = some j /\ j < n /\ -(n : Int) <= i /\ i < n := by
  unfold ixN at h
  by_cases h0 : 0 <= i
  . rw [if_pos h0] at h
    by_cases h1 : i < n
    . rw [if_pos h1] at h; have e : i.toNat = j := Option.some.inj h; exact ⟨by rw [seqIndex_of h0 h1,e],by omega,by omega,h1⟩
    . rw [if_neg h1] at h; cases h
  . rw [if_neg h0] at h
    by_cases h1 : -(n : Int) <= i
    . rw [if_pos h1] at h; have e : (i + n).toNat = j := Option.some.inj h; exact ⟨by rw [seqIndex_neg (by omega) h1,e],by omega,h1,by omega⟩
    . rw [if_neg h1] at h; cases h
theorem zeG {α : Type} {xs : List α} {i : Int} {v : α} (h : atI xs i = some v) : ∃ j,seqIndex? i xs.length = some j /\ xs[j]? = some v /\ j < xs.length /\ -(xs.length : Int) <= i /\ i < xs.length := by
  unfold atI at h
  cases e : ixN xs.length i with
  | none => rw [e] at h; cases h
  | some j =>
    rw [e] at h; obtain ⟨h1,h2,h3,h4⟩ := zh5 e; exact ⟨j,h1,h,h2,h3,h4⟩
theorem zbn {α : Type} {xs : List α} {j : Nat} {v : α} (h : xs[j]? = some v) : atI xs (j : Int) = some v := by
  have hj : j < xs.length := (List.getElem?_eq_some_iff.mp h).1
  have e : ixN xs.length (j : Int) = some j := by
    unfold ixN; rw [if_pos (by omega),if_pos (by omega)]; simp
  unfold atI; rw [e]; exact h
def zil (b : Expr) : Prop := ∀ o i,subscripted b false o i = operate [o,i] (getItem o i)
def IxR (X : Cx) (r : R2) : Prop :=
  ∀ (value slice : Expr) (pins : List (Addr × Obj)) (s : Shared) (σ : St) (H : Hp) (x y : V) (v u : Value) (Q : VK),Inv X pins σ H s -> RelV x v -> RelV y u -> r x y H Q →
    subscripted slice false v u = operate [v,u] (getItem v u) -> wpAny (model X.prog X.w) X.A (subscriptTail value slice v u) (EP X pins σ Q) X.xe s
def MtR (X : Cx) (id : String) (r : V -> List V -> Hp -> VK -> Prop) : Prop :=
  ∀ (pins : List (Addr × Obj)) (s : Shared) (σ : St) (H : Hp) (x : V) (xs : List V) (v : Value) (us : List Value) (Q : VK),Inv X pins σ H s -> RelV x v -> Vals xs us -> r x xs H Q →
    wpAny (model X.prog X.w) X.A (call (.builtin id) (v :: us)) (EP X pins σ Q) X.xe s
section
variable {X : Cx} {a b : Expr} {ta tb : TE} {pos : Pos}
theorem zat {r : R2} (hr : IxR X r) (ha : PE X a ta) (hb : PE X b tb) (hs : zil b) : PE X (.Subscript a b pos) (tOp r ta tb) := by
  intro pins s σ H Q I h; exact Subscript_ (zjn ha hb I h fun v u s2 x y H2 I2 rx ry q => hr a b pins s2 σ H2 x y v u Q I2 rx ry q (hs _ _))
def zjU (K : Fg) : R2 := fun x y H Q => ∃ p xs i v,x = .ref p /\ y = .int i /\ SqL K H p xs /\ atI xs i = some v /\ Q v H
def zke (K : Fg) : R2 := fun x y H Q => ∃ p xs i v,x = .ref p /\ y = .int i /\ SqT K H p xs /\ atI xs i = some v /\ Q v H
def zkl : R2 := fun x y H Q => ∃ z i c,x = .str z /\ y = .int i /\ z.length <= sizeLine /\ atI z.cps.toList i = some c /\ Q (.str ⟨#[c]⟩) H
theorem zaA : IxR X (zjU X.K) := by
  intro value slice pins s σ H x y v u Q I rx ry h hs; obtain ⟨p,xs,i,z,rfl,rfl,hq,he,q⟩ := h; cases rx; obtain ⟨t,rfl⟩ := ry; obtain ⟨its,r,pl,hz⟩ := I.list hq; obtain ⟨j,h1,h2,h3,h4,h5⟩ := zeG he; obtain ⟨w,ew,rw'⟩ := r.get h2; have hl := r.length; have hn := zeT; have fin : EP X pins σ Q w s := ⟨z,H,I,rw',q⟩
  by_cases h0 : 0 <= i
  . have hj : i.toNat = j := by
      rw [seqIndex_of h0 h5] at h1; exact Option.some.inj h1
    exact item_listR pl.isList h0 (by omega) (by rw [hj]; simpa using ew) fin hs
  . have hj : (i + (its.toArray.size : Int)).toNat = j := by
      rw [seqIndex_neg (by omega) h4] at h1
      rw [List.size_toArray,<- hl]; exact Option.some.inj h1
    exact subscriptTail_builtinR (x := w) pl.isList.typeIs slot_list_getitem.lookup
      (wpAny_getItem_list_neg (Q := fun r s' => r = w /\ EP X pins σ Q r s') pl.isList (by omega) (by rw [List.size_toArray] <;> omega) (by omega) (by rw [hj]; simpa using ew) ⟨rfl,fin⟩) hs
theorem zaJ : IxR X (zke X.K) := by
  intro value slice pins s σ H x y v u Q I rx ry h hs; obtain ⟨p,xs,i,z,rfl,rfl,hq,he,q⟩ := h; cases rx; obtain ⟨t,rfl⟩ := ry; obtain ⟨its,r,pl,hz⟩ := I.tuple hq; obtain ⟨j,h1,h2,h3,h4,h5⟩ := zeG he; obtain ⟨w,ew,rw'⟩ := r.get h2; have hl := r.length; have hn := zeT; have fin : EP X pins σ Q w s := ⟨z,H,I,rw',q⟩
  exact subscriptTail_builtinR (x := w) pl.typeIs slot_tuple_getitem.lookup
    (getItem_tuple (j := j) (Q := fun r s' => r = w /\ EP X pins σ Q r s') pl (by omega) (by omega) (by rw [List.size_toArray,<- hl]; exact h1) (by simpa using ew) ⟨rfl,fin⟩) hs
theorem zho : IxR X zkl := by
  intro value slice pins s σ H x y v u Q I rx ry h hs; obtain ⟨z,i,c,rfl,rfl,hz,he,q⟩ := h; obtain ⟨t,rfl⟩ := rx; obtain ⟨t',rfl⟩ := ry; obtain ⟨j,h1,h2,h3,h4,h5⟩ := zeG he; have hl : z.cps.toList.length = z.length := by simp [Str.length]
  rw [hl] at h1 h4 h5; have hn := zeT
  exact tail_any (typeIs_str s z t) slot_str_getitem.lookup (getItem_str (c := c) (by
    have e1 : decide (i < -(2 ^ 63 : Int)) = false := decide_eq_false (by omega)
    have e2 : decide (i ≥ 2 ^ 63) = false := decide_eq_false (by omega)
    rw [e1,e2,Bool.or_false]) (by rw [h1]; simpa using h2) ⟨.str ⟨#[c]⟩,H,I.tok _,⟨_,rfl⟩,q⟩) hs
theorem zex (lo hi : Option Int) (n : Nat) : (sliceBounds lo hi none n).1 = ((HT.sIx n 0 lo : Nat) : Int) /\ (sliceBounds lo hi none n).2.1 = ((HT.sIx n n hi : Nat) : Int) /\ (sliceBounds lo hi none n).2.2 = 1 := by
  refine ⟨?_,?_,rfl⟩
  . cases lo with
    | none => simp [sliceBounds,HT.sIx]
    | some i =>
      simp only [sliceBounds,HT.sIx,Option.getD_none,show (1 : Int) > 0 by decide,if_true]
      by_cases h : i < 0
      . simp only [h,if_true] <;> omega
      . simp only [h,if_false] <;> omega
  . cases hi with
    | none => simp [sliceBounds,HT.sIx]
    | some i =>
      simp only [sliceBounds,HT.sIx,Option.getD_none,show (1 : Int) > 0 by decide,if_true]
      by_cases h : i < 0
      . simp only [h,if_true] <;> omega
      . simp only [h,if_false] <;> omega
theorem zd4 (its : List Value) (lo hi : Option Int) : slicePick its.toArray lo hi none = ((its.drop (HT.sIx its.length 0 lo)).take (HT.sIx its.length its.length hi - HT.sIx its.length 0 lo)).toArray := by
  obtain ⟨h1,h2,h3⟩ := zex lo hi its.toArray.size; unfold slicePick; rw [h1,h2,h3]; simp only [sliceRange_one,pick_run,List.size_toArray] <;> rfl
def zky (K : Fg) : V -> Option Int -> Option Int -> Hp -> VK -> Prop := fun x lo hi H Q => ∃ a xs,x = .ref a /\ SqL K H a xs /\ ∀ p,H p = none -> Q (.ref p) (upd H p (.lst (zbM xs lo hi)))
theorem zcL : SlR X (zky X.K) := by
  intro pins s σ H x v vl vu lo hi sl Q I rx hs pl pu h; obtain ⟨a,xs,rfl,hx,q⟩ := h; cases rx; obtain ⟨its,r,ht,hz⟩ := I.list hx; have hlen := r.length; refine ⟨"list",_,slot_list_getitem.lookup,ht.isList.typeIs,?_⟩; refine wpAny_getItem_list_slice ht.isList hs pl pu .none (by simp) ?_ (by rw [List.size_toArray] <;> omega)
  rw [zd4,<- hlen]; refine ⟨.ref s.heap.objs.size,_,I.laid (t' := s.toks) (o := .lst (zbM xs lo hi)) (fun b ob q => Heap.get?_push_of_some _ q) (Nat.le_refl _) ?_,rfl,q _ (I.hok.fresh (Nat.le_refl _))⟩; exact ⟨Nat.le_trans (zdb xs lo hi) hz,_,0,(r.drop (HT.sIx xs.length 0 lo)).take (HT.sIx xs.length xs.length hi - HT.sIx xs.length 0 lo),Heap.get?_push_size _ rfl⟩
def zcZ : V -> Bool
  | .non => true
  | .bl _ => true
  | .int _ => true
  | .str _ => true
  | _ => false
def eqV : V -> V -> Bool
  | .non,.non => true
  | .bl a,.bl b => a == b
  | .bl a,.int b => (if a then 1 else 0) == b
  | .int a,.bl b => a == (if b then 1 else 0)
  | .int a,.int b => a == b
  | .str a,.str b => a == b
  | _,_ => false
theorem zjl {A : Around} {s : Shared} {y x : V} {u v : Value} (ry : RelV y u) (rx : RelV x v) (fy : zcZ y = true) (fx : zcZ x = true) : SeqAt.EqAt A s u v (eqV y x) := by
  cases y with
  | non =>
    cases ry
    cases x with
    | non => cases rx; exact SeqAt.EqAt.same _
    | bl b => cases rx; exact SeqAt.EqAt.none_bool b
    | int b => obtain ⟨t,rfl⟩ := rx; exact SeqAt.EqAt.none_int b t
    | str b => obtain ⟨t,rfl⟩ := rx; exact SeqAt.EqAt.none_str b t
    | _ => exact absurd (show false = true from fx) fnt
  | bl a =>
    cases ry
    cases x with
    | non => cases rx; exact SeqAt.EqAt.bool_none a
    | bl b => cases rx; exact SeqAt.EqAt.bool_bool a b
    | int b => obtain ⟨t,rfl⟩ := rx; exact SeqAt.EqAt.bool_int a b t
    | str b => obtain ⟨t,rfl⟩ := rx; exact SeqAt.EqAt.bool_str a b t
    | _ => exact absurd (show false = true from fx) fnt
  | int a =>
    obtain ⟨t',rfl⟩ := ry
    cases x with
    | non => cases rx; exact SeqAt.EqAt.int_none a t'
    | bl b => cases rx; exact SeqAt.EqAt.int_bool a t' b
    | int b => obtain ⟨t,rfl⟩ := rx; exact SeqAt.EqAt.int_int a t' b t
    | str b => obtain ⟨t,rfl⟩ := rx; exact SeqAt.EqAt.int_str a t' b t
    | _ => exact absurd (show false = true from fx) fnt
  | str a =>
    obtain ⟨t',rfl⟩ := ry
    cases x with
    | non => cases rx; exact SeqAt.EqAt.str_none a t'
    | bl b => cases rx; exact SeqAt.EqAt.str_bool a t' b
    | int b => obtain ⟨t,rfl⟩ := rx; exact SeqAt.EqAt.str_int a t' b t
    | str b => obtain ⟨t,rfl⟩ := rx; exact SeqAt.EqAt.str_str a t' b t
    | _ => exact absurd (show false = true from fx) fnt
  | _ => exact absurd (show false = true from fy) fnt
def eqU (x : V) (u : Value) : Bool := match u with
  | .none => eqV .non x
  | .bool b => eqV (.bl b) x
  | .int i _ => eqV (.int i) x
  | .str z _ => eqV (.str z) x
  | _ => false
theorem zhG {x y : V} {u : Value} (r : RelV y u) (f : zcZ y = true) : eqU x u = eqV y x := by
  cases y with
  | non => cases r; rfl
  | bl b => cases r; rfl
  | int i => obtain ⟨t,rfl⟩ := r; rfl
  | str z => obtain ⟨t,rfl⟩ := r; rfl
  | _ => exact absurd (show false = true from f) fnt
theorem zeH {x : V} : ∀ {xs : List V} {us : List Value},Vals xs us -> xs.all zcZ = true -> us.any (eqU x) = xs.any fun y => eqV y x
  | _,_,.nil,_ => rfl
  | y :: xs,u :: us,.cons r t,f => by
    rw [List.all_cons,Bool.and_eq_true] at f; rw [List.any_cons,List.any_cons,zhG r f.1,zeH t f.2]
theorem zdR {A : Around} {s : Shared} {x : V} {v : Value} (rx : RelV x v) (fx : zcZ x = true) : ∀ {xs : List V} {us : List Value},Vals xs us -> xs.all zcZ = true -> ∀ u ∈ us,SeqAt.EqAt A s u v (eqU x u)
  | _,_,.nil,_ => fun u hu => by cases hu
  | y :: xs,u :: us,.cons r t,f => fun u' hu => by
    rw [List.all_cons,Bool.and_eq_true] at f
    rcases List.mem_cons.mp hu with rfl | hu
    . rw [zhG r f.1]; exact zjl r rx f.1 fx
    . exact zdR rx fx t f.2 u' hu
def inV (x : V) (xs : List V) : Bool := xs.any fun y => eqV y x
def rIn (K : Fg) (neg : Bool) : R2 := fun x y H Q => ∃ p xs,y = .ref p /\ (SqL K H p xs \/ SqT K H p xs) /\ zcZ x = true /\ xs.all zcZ = true /\ Q (.bl (if neg then !inV x xs else inV x xs)) H
theorem zgo : OpR X (compareOp .In) (rIn X.K false) := by
  intro pins s σ H x y v u Q I rx ry h; obtain ⟨p,xs,rfl,hq,fx,fs,q⟩ := h; cases ry
  rcases hq with hq | hq
  . obtain ⟨its,r,pl,hz⟩ := I.list hq; refine SeqAt.in_listAt (eqU x) pl.isList (fun w hw => zdR rx fx r fs w (by simpa using hw)) ⟨.bl _,H,I,rfl,?_⟩
    rw [show its.toArray.any (eqU x) = its.any (eqU x) by simp,zeH r fs]
    exact q
  . obtain ⟨its,r,pl,hz⟩ := I.tuple hq; refine SeqAt.in_tupleAt (eqU x) pl (fun w hw => zdR rx fx r fs w (by simpa using hw)) ⟨.bl _,H,I,rfl,?_⟩
    rw [show its.toArray.any (eqU x) = its.any (eqU x) by simp,zeH r fs]
    exact q
theorem zas : CallR X (.builtin "len") (fun xs H Q => ∃ p ys,xs = [.ref p] /\ (SqL X.K H p ys \/ SqT X.K H p ys) /\ Q (.int ys.length) H) := by
  intro pins s σ H xs us Q I r h; obtain ⟨p,ys,rfl,hq,q⟩ := h; obtain ⟨u,rfl,rx⟩ := zda r; cases rx; have hn := zeT
  rcases hq with hq | hq
  . obtain ⟨its,r',pl,hz⟩ := I.list hq; have hlen := r'.length; exact Calls.call_len_list pl.isList (by simp only [List.size_toArray] <;> omega) ⟨.int ys.length,H,I.tok _,⟨s.toks + 1,by rw [List.size_toArray,hlen]⟩,q⟩
  . obtain ⟨its,r',pl,hz⟩ := I.tuple hq; have hlen := r'.length; exact len_tuple pl (by simp only [List.size_toArray] <;> omega) ⟨.int ys.length,H,I.tok _,⟨s.toks + 1,by rw [List.size_toArray,hlen]⟩,q⟩
theorem CallR.or {f : Value} {r r' : List V -> Hp -> VK -> Prop} (h : CallR X f r) (h' : CallR X f r') : CallR X f (fun xs H Q => r xs H Q \/ r' xs H Q) := by
  intro pins s σ H xs us Q I rs q
  rcases q with q | q
  . exact h pins s σ H xs us Q I rs q
  . exact h' pins s σ H xs us Q I rs q
theorem zbl : CallR X (.type "list") (fun xs H Q => ∃ p ys,xs = [.ref p] /\ (SqL X.K H p ys \/ SqT X.K H p ys) /\ ∀ l,H l = none -> Q (.ref l) (upd H l (.lst ys))) := by
  intro pins s σ H xs us Q I r h; obtain ⟨p,ys,rfl,hq,q⟩ := h; obtain ⟨u,rfl,rx⟩ := zda r; cases rx
  have fin : ∀ (its : List Value),Vals ys its -> ys.length <= sizeLine -> ∀ (h' : Heap) (c' : Nat),(∀ b o',s.heap.get? b = some o' -> h'.get? b = some o') →
      h'.get? s.heap.objs.size = some { cls := .type "list",dict := none,data := .seq its.toArray c',slots := #[] } -> EP X pins σ Q (.ref s.heap.objs.size) { s with heap := h' } := fun its r' hz h' c' kp e =>
    ⟨.ref s.heap.objs.size,_,I.laid (t' := s.toks) kp (Nat.le_refl _) (show ObjOk X.prog X.w _ h' _ (.lst ys) from ⟨hz,its,c',r',e⟩),rfl,q _ (I.hok.fresh (Nat.le_refl _))⟩
  rcases hq with hq | hq
  . obtain ⟨its,r',pl,hz⟩ := I.list hq; have hlen := r'.length; obtain ⟨o,ho,hc,n,hd⟩ := pl.isList; exact call_list_seq p (.inl rfl) ho hc hd (fun h' c' kp e => fin its r' hz h' c' kp e) (by simp only [List.size_toArray] <;> omega)
  . obtain ⟨its,r',pl,hz⟩ := I.tuple hq; have hlen := r'.length; obtain ⟨o,ho,hc,n,hd⟩ := pl; exact call_list_seq p (.inr rfl) ho hc hd (fun h' c' kp e => fin its r' hz h' c' kp e) (by simp only [List.size_toArray] <;> omega)
theorem zd0 : CallR X (.type "tuple") (fun xs H Q => ∃ p ys,xs = [.ref p] /\ ((SqL X.K H p ys /\ ∀ l,H l = none -> Q (.ref l) (upd H l (.tup ys))) \/ (SqT X.K H p ys /\ Q (.ref p) H))) := by
  intro pins s σ H xs us Q I r h; obtain ⟨p,ys,rfl,h⟩ := h; obtain ⟨u,rfl,rx⟩ := zda r; cases rx
  rcases h with ⟨hq,q⟩ | ⟨hq,q⟩
  . obtain ⟨its,r',pl,hz⟩ := I.list hq; have hlen := r'.length; refine call_tuple_list pl.isList (fun h' kp => ?_) (by simp only [List.size_toArray] <;> omega)
    have I1 : Inv X pins σ H { s with heap := h' } := I.kept (t' := s.toks) kp
    have I2 : Inv X pins σ (upd H h'.objs.size (.tup ys)) { s with heap := h'.push { cls := .type "tuple",data := .seq its.toArray } } :=
      I1.laid (t' := s.toks) (fun b o e => Heap.get?_push_of_some _ e) (Nat.le_refl _) (show ObjOk X.prog X.w _ _ _ (.tup ys) from ⟨hz,its,r',IsTup.new _ _⟩)
    exact ⟨.ref h'.objs.size,_,I2,rfl,q _ (I1.hok.fresh (Nat.le_refl _))⟩
  . obtain ⟨its,r',pl,hz⟩ := I.tuple hq; exact call_tuple_same pl ⟨.ref p,H,I,rfl,q⟩
def tyV (K : Fg) (T : String) (x : V) (H : Hp) : Prop := match x with
  | .str _ => T = "str"
  | .int _ => T = "int"
  | .ref p => (T = "list" /\ ∃ xs,SqL K H p xs) \/ (T = "tuple" /\ ∃ o,K.lookup p = some o /\ o.cls = .type "tuple" /\ o.dict = none) ∨
      (T = "dict" /\ ((∃ kvs,H p = some (.dK kvs)) \/ ∃ kvs,H p = some (.dT kvs))) \/ (T = "set" /\ ∃ S n,H p = some (.set S n))
  | _ => False
theorem zi7 {pins : List (Addr × Obj)} {σ : St} {H : Hp} {s : Shared} {T : String} {x : V} {v : Value} (I : Inv X pins σ H s) (r : RelV x v) (ty : tyV X.K T x H) :
    s.TypeIs v T /\ ∀ a,v = .ref a -> ∃ ob,s.heap.get? a = some ob /\ ob.dict = none := by
  cases x with
  | str z =>
    obtain ⟨t,rfl⟩ := r
    cases (show T = "str" from ty)
    exact ⟨typeIs_str s z t,fun _ e => nomatch e⟩
  | int i =>
    obtain ⟨t,rfl⟩ := r
    cases (show T = "int" from ty)
    exact ⟨typeIs_int s i t,fun _ e => nomatch e⟩
  | ref p =>
    cases r
    rcases ty with ⟨rfl,xs,hq⟩ | ⟨rfl,o,hk,hc,hd⟩ | ⟨rfl,hk⟩ | ⟨rfl,S,n,hk⟩
    . obtain ⟨its,_,pl,_⟩ := I.list hq; refine ⟨pl.isList.typeIs,fun a e => ?_⟩; cases e; obtain ⟨o,n,e,c,hd,_⟩ := pl; exact ⟨o,e,hd⟩
    . refine ⟨⟨o,I.kIn p o hk,hc⟩,fun a e => ?_⟩; cases e; exact ⟨o,I.kIn _ o hk,hd⟩
    . have z : ∃ o,s.heap.get? p = some o /\ o.ExactDict := by
        rcases hk with ⟨kvs,hk⟩ | ⟨kvs,hk⟩
        . obtain ⟨_,_,_,_,o,_,_,e,ex,_⟩ := I.hok p _ hk; exact ⟨o,e,ex⟩
        . obtain ⟨_,_,_,_,o,_,_,e,ex,_⟩ := I.hok p _ hk; exact ⟨o,e,ex⟩
      obtain ⟨o,e,ex⟩ := z; refine ⟨⟨o,e,ex.1⟩,fun a e2 => ?_⟩; cases e2; exact ⟨o,e,ex.2.1⟩
    . obtain ⟨o,_,_,_,e,ex,_⟩ := I.hok p _ hk; refine ⟨⟨o,e,ex.1⟩,fun a e2 => ?_⟩; cases e2; exact ⟨o,e,ex.2.1⟩
  | _ => exact False.elim ty
def tBM (K : Fg) (T : String) (r : V -> List V -> Hp -> VK -> Prop) (to : TE) (t : TA) : TE := fun σ H Q => to σ H fun x H1 => tyV K T x H1 /\ t σ H1 fun xs H2 => r x xs H2 Q
variable {o e : Expr} {es : List Expr} {to : TE} {t : TA} {name : Str} {apos cpos : Pos} {T id : String} {r : V -> List V -> Hp -> VK -> Prop}
theorem zfa (pa : PlainAttrs T) (slot : Slot T name id) (hty : typeOf (.builtin id) = pure (.type "method_descriptor")) (hm : MtR X id r) (ho : PE X o to) (ha : PA X (e :: es) t)
    (hbase : attributeBase o name X.env (eval o X.env) = eval o X.env := by rfl)
    (hfew : ((backTo cpos (starEach (e :: es) X.env)).all (fun x => !x.1) && (backToKw cpos (keywordEach [] X.env)).all (fun x => x.1.isSome)
      && decide ((e :: es).length + ([] : List Keyword).length + (if ([] : List Keyword).isEmpty then 0 else 1) < 30)) = true := by rfl)
    (hline : (apos.endLine == cpos.line) = true := by rfl) (hs : starEach (e :: es) X.env = (false,eval e X.env) :: starEach es X.env := by rfl) (hplain : (backTo cpos (starEach es X.env)).any (·.1) = false := by rfl) :
    PE X (.Call (.Attribute o name apos) (e :: es) [] cpos) (tBM X.K T r to t) := by
  intro pins s σ H Q I h; refine wpAny_Call_method_late hbase hfew hline rfl (thn (ho pins s σ H _ I h) fun v s1 ⟨x,H1,I1,r1,ty,q1⟩ => ?_); obtain ⟨h1,h2⟩ := zi7 I1 r1 ty; refine ⟨T,id,pa,slot,hty,h1,h2,?_⟩; have hA := ha cpos pins s1 σ H1 _ I1 q1; rw [hs] at hA ⊢; refine Calls.callWith_builtin (by show (false || (backTo cpos (starEach es X.env)).any (·.1)) = false; rw [hplain] <;> rfl) (Calls.evalArgs_plain ?_)
  exact thn hA fun us s2 ⟨vs,H2,I2,r2,q2⟩ => hm pins s2 σ H2 x vs v us Q I2 r1 r2 q2
end
def MtM (X : Cx) (id : String) (r : V -> List V -> Hp -> VK -> Prop) : Prop :=
  ∀ (pins : List (Addr × Obj)) (s : Shared) (σ : St) (H : Hp) (x : V) (xs : List V) (v : Value) (us : List Value) (Q : VK),Inv X pins σ H s -> RelV x v -> Vals xs us -> r x xs H Q →
    wpAny (model X.prog X.w) X.A (call (.builtin id) (v :: us)) (EP X pins σ Q) X.xe s
theorem Vals.one : ∀ {x : V} {us : List Value},Vals [x] us -> ∃ u,us = [u] /\ RelV x u
  | _,_,.cons r .nil => ⟨_,rfl,r⟩
section
variable {X : Cx} {pins : List (Addr × Obj)} {σ : St} {H : Hp} {s : Shared} {l b : Addr} {xs ys zs : List V}
theorem Inv.lset {its its' : List Value} {n : Nat} {f : Array Value -> Array Value} {t' : Nat} (I : Inv X pins σ H s) (hH : H l = some (.lst xs))
    (e : s.heap.get? l = some { cls := .type "list",data := .seq its.toArray n }) (hf : f its.toArray = its'.toArray) (hv : Vals ys its') (hz : ys.length <= sizeLine) :
    Inv X pins σ (upd H l (.lst ys)) { s with heap := s.heap.update l (Obj.mapSeq f),toks := t' } := by
  have q := PySem.IsL.update e f; rw [hf] at q; refine I.write (x := l) (e := l) (by rw [hH]; exact trivial) (.inl rfl) (fun b' u hb hu => (Heap.get?_update_other s.heap (Obj.mapSeq f) (Ne.symm hb)).trans hu) ⟨_,q⟩ ?_
  exact ⟨hz,its',_,hv,q⟩
theorem Inv.lnew {its : List Value} {t' : Nat} (I : Inv X pins σ H s) (hv : Vals ys its) (hz : ys.length <= sizeLine) :
    Inv X pins σ (upd H s.heap.objs.size (.lst ys)) { s with heap := s.heap.push { cls := .type "list",data := .seq its.toArray },toks := t' } :=
  I.laid (fun _ _ q => Heap.get?_push_of_some _ q) (Nat.le_refl _) ⟨hz,its,0,hv,Heap.get?_push_size _ rfl⟩
theorem Inv.fresh (I : Inv X pins σ H s) : H s.heap.objs.size = none := I.hok.fresh (Nat.le_refl _)
theorem Inv.lstM (I : Inv X pins σ H s) (hH : H l = some (.lst xs)) : xs.length <= sizeLine /\ ∃ (its : List Value) (n : Nat),Vals xs its /\ xs.length = its.length /\ s.heap.get? l = some { cls := .type "list",data := .seq its.toArray n } := by
  obtain ⟨z,its,n,r,e⟩ := I.hok l _ hH; exact ⟨z,its,n,r,r.length,e⟩
theorem zhi {n : Nat} (h : n <= sizeLine) : Builtin.List.listTooLong n = false := by
  unfold Builtin.List.listTooLong; exact decide_eq_false (by omega)
end
section
variable {X : Cx}
def zhZ : V -> List V -> Hp -> VK -> Prop := fun x vs H Q => ∃ l xs y,x = .ref l /\ vs = [y] /\ H l = some (.lst xs) /\ xs.length < sizeLine /\ Q .non (upd H l (.lst (xs ++ [y])))
theorem zgE : MtM X "list.append" zhZ := by
  intro pins s σ H x vs v us Q I rx rv h; obtain ⟨l,xs,y,rfl,rfl,hH,hz,q⟩ := h; cases rx; obtain ⟨u,rfl,ru⟩ := rv.one; obtain ⟨z,its,n,r,hl,e⟩ := I.lstM hH; refine call_meets F.slot_list_append ⟨_,e,rfl⟩ F.entry_list_append (F.args_list_append_2 _ _) (PySem.list_append l its.toArray n u (by rw [List.size_toArray]; omega)) ⟨e,?_⟩
  refine ⟨.non,_,I.lset (its' := its ++ [u]) hH e (by simp) (r.append (.cons ru .nil)) ?_,rfl,q⟩
  rw [List.length_append,List.length_singleton]; omega
def zh7 : V -> List V -> Hp -> VK -> Prop := fun x vs H Q => ∃ l b xs zs,x = .ref l /\ vs = [.ref b] /\ H l = some (.lst xs) /\ H b = some (.lst zs) /\ xs.length + zs.length <= sizeLine /\ Q .non (upd H l (.lst (xs ++ zs)))
theorem mt_extend : MtM X "list.extend" zh7 := by
  intro pins s σ H x vs v us Q I rx rv h; obtain ⟨l,b,xs,zs,rfl,rfl,hH,hB,hz,q⟩ := h; cases rx; obtain ⟨u,rfl,ru⟩ := rv.one; cases ru; obtain ⟨z,its,n,r,hl,e⟩ := I.lstM hH; obtain ⟨z2,its2,n2,r2,hl2,e2⟩ := I.lstM hB; have hsz : its.toArray.size + its2.toArray.size <= sizeLine := by rw [List.size_toArray,List.size_toArray]; omega
  have hlong : ¬ (!its.toArray.isEmpty && Builtin.List.listTooLong (its.toArray.size + its2.toArray.size)) = true := by
    rw [zhi hsz,Bool.and_false]; exact fnt
  refine call_meets F.slot_list_extend ⟨_,e,rfl⟩ F.entry_list_extend (F.args_list_extend_2 _ _)
    (AutoSeq1.list_extend_list_list_0 l its.toArray n b its2.toArray n2 hlong (by rw [List.size_toArray]; omega) (by omega)) ⟨e,e2,?_⟩
  refine ⟨.non,_,I.lset (its' := its ++ its2) hH e (by simp) (r.append r2) ?_,rfl,q⟩
  rw [List.length_append]; omega
def zkI : R2 := fun x y H Q => ∃ l b xs zs,x = .ref l /\ y = .ref b /\ H l = some (.lst xs) /\ H b = some (.lst zs) /\ xs.length + zs.length <= sizeLine /\ ∀ p,H p = none -> Q (.ref p) (upd H p (.lst (xs ++ zs)))
theorem zbf : OpR X (binaryOp .Add) zkI := by
  intro pins s σ H x y v u Q I rx ry h; obtain ⟨l,b,xs,zs,rfl,rfl,hH,hB,hz,q⟩ := h; cases rx; cases ry; obtain ⟨z,its,n,r,hl,e⟩ := I.lstM hH; obtain ⟨z2,its2,n2,r2,hl2,e2⟩ := I.lstM hB; refine PySem.P.add_list e e2 ?_ (by rw [List.size_toArray,List.size_toArray]; omega)
  have ea : its.toArray ++ its2.toArray = (its ++ its2).toArray := by simp
  rw [ea]; exact ⟨.ref _,_,I.lnew (t' := s.toks) (r.append r2) (by rw [List.length_append]; omega),rfl,q _ I.fresh⟩
end
section
variable {prog : Program} {w : World} {A : Around} {E : Value -> Shared -> Prop} {s : Shared}
set_option maxRecDepth 100000 in
end
end L2
namespace Att
open PySem PySem.W PySem.Calls PyProof.Rows
theorem zdc {P : Params} {h : Heap} : ∀ (ns : List Int) (vs : List Value),WellAll P h vs (ns.map WData.int) -> IntsAre vs ns := by
  intro ns
  induction ns with
  | nil =>
    intro vs w; rw [List.map_nil] at w; cases w; exact .nil
  | cons n ns ih =>
    intro vs w; rw [List.map_cons] at w
    cases w with
    | cons a b =>
      cases a; exact .cons _ _ (ih _ b)
theorem zgv {l : OpenLaw} {n : Nat} (hn : l.most = some n) {P : Params} {h : Heap} {args : List WData} {vals : List Value}
    (hpre : l.row.toRowW.claim.pre args = true) (hwl : WellAll P h vals args) :
    ∃ a vs ns,vals = [Value.ref a] /\ args = [WData.list (ns.map WData.int)] /\ h.get? a = some { cls := .type "list",data := .seq vs.toArray } /\ IntsAre vs ns /\ ns.length <= n := by
  have hsh : WShape.hasAll [] args [.list .int] = true := (pre_splitW hpre).1; have hc : l.pre.holds [] { args := args } = true := (pre_splitW hpre).2; obtain ⟨d,r,rfl,h1,h2⟩ := hasAllW_cons hsh; obtain rfl := hasAllW_nil h2; obtain ⟨xs,rfl,h3⟩ := hasW_list h1; obtain ⟨ns,rfl⟩ := items_int h3
  have hlen : ns.length <= n := by
    unfold OpenLaw.pre at hc
    have h4 : (WTm.not (.lt (.lit (.int (n : Int))) (.len (.arg 0)))).holds [] { args := [.list (ns.map .int)] } = true := by
      have h4 := (holds_andW hc).1; rw [hn] at h4; exact h4
    have h5 := condW_of h4 (w_not (w_lt w_lit (w_len_list (w_arg rfl)))); rw [List.length_map] at h5; refine Nat.le_of_not_lt fun q => ?_; have q' : (n : Int) < ((ns.length : Nat) : Int) := by omega
    first
      | (rw [decide_eq_true q'] at h5; exact absurd h5 (by decide))
      | (simp at h5; omega)
  cases hwl with
  | cons w1 w2 =>
    cases w2
    cases w1 with
    | list ho hall => exact ⟨_,_,ns,rfl,rfl,ho,zdc ns _ hall,hlen⟩
theorem zgz (l : OpenLaw) (args : List WData) : l.row.toRowW.claim.post args (.bool true) args = true :=
  postW_of (r := l.row.toRowW) (X := (true == true))
    (show WShape.has [] (.bool true) .bool = true by first | rfl | decide | simp [WShape.has,WShape.arms,WShape.armsAll])
    (show (WTm.eq .res (.lit (.bool true))).value [] { args := args,res := some (.bool true),after := args } = some (.bool (true == true)) from w_eq_bool (w_res rfl) w_lit) rfl
theorem attach_call {l : OpenLaw} {n : Nat} {q : Program} {loose : List Str} {XP : (Str -> Option Value) -> Heap -> Prop} {YP : World -> Heap -> Prop} {d : DefRec}
    (hn : l.most = some n) (hdf : d.params.defaults = [])
    (call : ∀ (w : World) (s₀ s₁ : Shared) (mg mb : Str -> Option Value) (fa : Addr) (o : Obj) (pm cd doc : Value) (a : Addr) (vs : List Value) (ns : List Int),
      Ground q loose [] XP w s₀ mg mb s₁.heap -> YP w s₁.heap →
      s₁.heap.get? fa = some o -> o.data = .func (docDef d.name d.params d.body d.scope pm cd doc) -> s₁.heap.CodeRec cd d.name -> mg d.name = some (.ref fa) →
      s₁.heap.get? a = some { cls := .type "list",data := .seq vs.toArray } -> IntsAre vs ns -> ns.length <= n -> s₁.gens = #[] →
      codeAny (model l.prog w) callerA (.call (.ref fa) ⟨[.ref a],[]⟩) (fun r s' => r = .ok (.ret (.bool true)) /\ OldK s₁.heap s'.heap /\ s'.os = s₁.os /\ AllBare s'.gens) s₁) :
    WalkO q loose XP YP l.row.toRowW d [] (fun f vs => PySem.call f vs) := by
  intro w s₀ s₁ mg mb G Y fa o pm cd doc dV kV ho hd hcd hD hmg hg args vals as hpre hlay hrd hwl hlo; obtain rfl : dV = .none := Dflts.none hD hdf; obtain rfl : kV = .none := Dflts.noKw hD; obtain ⟨a,vs,ns,rfl,rfl,hobj,hints,hlen⟩ := zgv hn hpre hwl; refine enter_call (codeAny_mono (call w s₀ s₁ mg mb fa o pm cd doc a vs ns G Y ho (fd_plain hd) hcd hmg hobj hints hlen hg) fun r s' hq => ?_); obtain ⟨rfl,h2,h3,h4⟩ := hq; exact ⟨.inl ⟨.bool true,.bool true,[],rfl,fun _ => rfl,.bool true,zgz l _,fun _ => ⟨List.Pairwise.nil,fun _ hm => (nomatch hm)⟩⟩,h2,h3,h4⟩
end Att
namespace L2
open PySem PySem.Spec PyProof.Rows
theorem zef : ∀ {vs : List Value} {ns : List Int},IntsAre vs ns -> Vals (ns.map V.int) vs
  | _,_,.nil => .nil
  | _,_,.cons n t h => .cons ⟨t,rfl⟩ (zef h)
def ziZ (H : Hp) : Prop := ∀ b,H b = none \/ ∃ o xs,H b = some (.frz o (.lst xs))
theorem zgS {P : Program} {w : World} {K : Fg} {mg mb : Str -> Option Value} {CX : CXT} {k : Nat} {fa a : Addr} {fd : FuncData} {x : Str} {sp : Sp} {s₁ : Shared} {vs : List Value} {ns : List Int}
    (KX : K.In s₁.heap) (hns : s₁.heap.Ns mainGlobals mg) (hb : s₁.heap.Ns builtinsNs mb) (hbb : ∀ x : Str,x ≠ "__name__" -> mb x = bootBuiltins x) (hlim : s₁.heap.NoLimit) (hg : s₁.gens = #[])
    (ha : s₁.heap.get? a = some { cls := .type "list",data := .seq vs.toArray }) (hi : IntsAre vs ns) (hl : ns.length <= sizeLine) (hr : Room k callerA)
    (F : ∀ base : Heap,K.In base -> base.Ns mainGlobals mg -> FnOk P w K mg base CX k fa fd [x] sp) (hbind : ∀ (s : Shared) (u : Value),BindsTo s fd ⟨[u],[]⟩ [(x,u)])
    (hsp : ∀ H : Hp,ziZ H -> SqL K H a (ns.map V.int) -> sp [.ref a] H (fun v _ => v = .bl true) fun _ _ _ => False)
    (hCX : ∀ H e s',CX [] H s₁ (fun _ _ _ => False) e s' -> False) :
    codeAny (model P w) callerA (.call (.ref fa) ⟨[.ref a],[]⟩) (fun r s' => r = .ok (.ret (.bool true)) /\ OldK s₁.heap s'.heap /\ s'.os = s₁.os /\ AllBare s'.gens) s₁ := by
  have rv := zef hi; have lenV := hi.length
  have core : ∀ H : Hp,ziZ H -> SqL K H a (ns.map V.int) -> HOk P w H s₁.heap -> (∀ b,H b ≠ none -> b = a) -> (H a ≠ none -> K.lookup a = none) →
      codeAny (model P w) callerA (.call (.ref fa) ⟨[.ref a],[]⟩) (fun r s' => r = .ok (.ret (.bool true)) /\ OldK s₁.heap s'.heap /\ s'.os = s₁.os /\ AllBare s'.gens) s₁ := by
    intro H hO hS hok hA hK; have base_of : ∀ {b : Addr} {o : Obj},s₁.heap.get? b = some o -> H b = none -> (zeL s₁.heap H).get? b = some o := fun e n => zg4 e n
    have noA : ∀ {b : Addr} {o : Obj} {es : Array DictEntry} {ep : Nat},s₁.heap.get? b = some o -> o.data = .dict es ep -> H b = none := fun {b o es ep} e d => by
      cases q : H b with
      | none => rfl
      | some u =>
        have e' : b = a := hA b (by rw [q]; simp)
        subst e'; rw [ha] at e; cases e; have d' : Data.seq vs.toArray _ = Data.dict es ep := d; cases d'
    have nsK : ∀ {b : Addr} {m : Str -> Option Value},s₁.heap.Ns b m -> (zeL s₁.heap H).Ns b m := fun {b m} ⟨o,es,ep,e,d,r⟩ => ⟨o,es,ep,base_of e (noA e d),d,r⟩
    have hKb : K.In (zeL s₁.heap H) := fun b o e => base_of (KX b o e) (by
      cases q : H b with
      | none => rfl
      | some u =>
        have e' : b = a := hA b (by rw [q]; simp)
        subst e'
        rw [hK (by rw [q]; simp)] at e; cases e)
    have hM : Mod K mg (zeL s₁.heap H) := ⟨hKb,nsK hns,⟨mb,nsK hb,hbb⟩,let ⟨mc,h1,h2⟩ := hlim; ⟨mc,nsK h1,h2⟩⟩; have e0 : zie P w K mg (zeL s₁.heap H) callerA [] s₁ H := ⟨rfl,hM,fun b o e => zhO e,Nat.le_of_eq (zgt _ _),trivial,fun b hb => absurd (show b ∈ ([] : List Addr) from hb) (by simp),hok,.of_eq hg⟩
    refine codeAny_mono ((F _ hKb (nsK hns)).run callerA [] s₁ H ⟨[.ref a],[]⟩ [.ref a] [.ref a] _ _ hr e0 (hbind s₁ (.ref a)) (.cons rfl .nil) (hsp H hO hS)) fun r s' h => ?_
    cases r with
    | error e => exact (hCX H e s' h).elim
    | ok fl =>
      cases fl with
      | next => exact False.elim h
      | brk => exact False.elim h
      | cont => exact False.elim h
      | ret u =>
        obtain ⟨v,H',os,bare,un,hok',r',q⟩ := h; have q' : v = .bl true := q; subst q'; obtain rfl : u = Value.bool true := r'; refine ⟨rfl,OldK.of_keep fun b o e => ?_,os,bare⟩
        cases q : H b with
        | none => exact un.keep b o e q (by intro z; exact absurd (show b ∈ ([] : List Addr) from z) (by simp)) (by simp)
        | some u =>
          rcases hO b with z | ⟨ob,xs,z⟩
          . rw [q] at z; cases z
          . have z2 := un.frzs b ob _ z; obtain ⟨e1,_⟩ := hok b _ z; obtain ⟨e2,_⟩ := hok' b _ z2; rw [e] at e1; cases e1; exact e2
  cases hk : K.lookup a with
  | some o =>
    have e := KX a o hk; rw [ha] at e; cases e; refine core (fun _ => none) (fun _ => .inl rfl) (.inr ⟨_,vs.toArray,_,hk,rfl,rfl,rfl,by rw [List.size_toArray,lenV]; exact hl,by simpa using rv⟩) (fun b u z => by have z' : (none : Option HO) = some u := z; cases z') (fun b z => absurd rfl z) fun z => absurd rfl z
  | none =>
    refine core (fun b => if b = a then some (.frz { cls := .type "list",data := .seq vs.toArray } (.lst (ns.map V.int))) else none) (fun b => ?_) (.inl (.inr ⟨{ cls := .type "list",data := .seq vs.toArray },if_pos rfl⟩)) (fun b u z => ?_) (fun b z => ?_) fun _ => hk
    . by_cases hb : b = a
      . exact .inr ⟨_,_,if_pos hb⟩
      . exact .inl (if_neg hb)
    . by_cases hb : b = a
      . have z' := (if_pos hb).symm.trans z; cases z'; subst hb; exact ⟨ha,by rw [List.length_map]; exact hl,vs,_,rv,ha⟩
      . have z' := (if_neg hb).symm.trans z; cases z'
    . by_cases hb : b = a
      . exact hb
      . exact absurd (if_neg hb) z
theorem walk_of {l : PySem.W.OpenLaw} {n k : Nat} {q : Program} {loose : List Str} {XP : (Str -> Option Value) -> Heap -> Prop} {YP : World -> Heap -> Prop} {d : DefRec} {K : Params -> Fg} {CX : World -> CXT} {sp : World -> Sp} {x : Str}
    (hn : l.most = some n) (hn2 : n <= sizeLine) (hdf : d.params.defaults = []) (hr : Room k callerA)
    (hY : ∀ (w : World) (h : Heap),YP w h -> (K w.params).In h)
    (F : ∀ (w : World) (mg : Str -> Option Value) (fa : Addr) (h : Heap),(K w.params).In h -> h.Ns mainGlobals mg -> mg d.name = some (.ref fa) →
      ∃ fd : FuncData,(∀ (s : Shared) (u : Value),BindsTo s fd ⟨[u],[]⟩ [(x,u)]) ∧
        ∀ base : Heap,(K w.params).In base -> base.Ns mainGlobals mg -> FnOk l.prog w (K w.params) mg base (CX w) k fa fd [x] (sp w))
    (hsp : ∀ (w : World) (H : Hp) (a : Addr) (ns : List Int),ns.length <= n -> ziZ H -> SqL (K w.params) H a (ns.map V.int) -> sp w [.ref a] H (fun v _ => v = .bl true) fun _ _ _ => False)
    (hCX : ∀ (w : World) (H : Hp) (s : Shared) (e : Value) (s' : Shared),CX w [] H s (fun _ _ _ => False) e s' -> False) :
    PySem.W.WalkO q loose XP YP l.row.toRowW d [] (fun f vs => PySem.call f vs) := by
  refine Att.attach_call hn hdf fun w s₀ s₁ mg mb fa o pm cd doc a vs ns G Y ho hd hcd hmg hobj hints hlen hg => ?_; have KX := hY w _ Y; obtain ⟨fd,hb,hF⟩ := F w mg fa _ KX G.T.g hmg; exact zgS KX G.T.g G.T.b G.T.builtins G.T.nolimit hg hobj hints (Nat.le_trans hlen hn2) hr hF hb (fun H hO hS => hsp w H a ns hlen hO hS) fun H e s' => hCX w H s₁ e s'
def zbk (s : Stmt) : Arguments := match s with
  | .FunctionDef _ a _ _ _ _ _ _ _ _ => a
  | _ => { posonlyargs := [],args := [],vararg := none,kwonlyargs := [],kw_defaults := [],kwarg := none,defaults := [] }
def zaS (s : Stmt) : List Stmt := match s with
  | .FunctionDef _ _ b _ _ _ _ _ _ _ => b
  | _ => []
def zaf (s : Stmt) : Scope := match s with
  | .FunctionDef _ _ _ _ _ _ sc _ _ _ => sc
  | _ => { kind := .function,names := [],isGenerator := false,isCoroutine := false }
abbrev CX0 : CXT := fun _ _ _ _ _ _ => False
abbrev E0 : XK := fun _ _ _ => False
structure Fun (K : Fg) (x qual : Str) (st : Stmt) (f : Addr) (fd : FuncData) : Prop where
  ex : ∃ (oc : Value) (od : Option Addr) (kV doc pm : Value) (an : Option Addr) (cdv ct : Value) (osl : Array (Option Value)),
    fd = PySem.W.fnOf x qual (zbk st) (zaS st) (zaf st) .none kV doc pm an cdv ct /\ K.lookup f = some ⟨oc,od,.func fd,osl⟩ /\ PySem.W.codeIn K cdv qual = true
  kp : PySem.W.keepIn K (.ref f) = true
section
variable {P : Program} {w : World} {K : Fg} {mg : Str -> Option Value} {base : Heap}
theorem Fun.ok {x qual : Str} {st : Stmt} {f : Addr} {fd : FuncData} {N ps : List Str} {k : Nat} {sp : Sp} (F : Fun K x qual st f fd) (S : zap N ps (zaf st)) (len : ∀ vs H Q E,sp vs H Q E -> vs.length = ps.length)
    (hbody : ∀ (cdv : Value) (A : Around) (outer : List Env) (s : Shared) (H : Hp) (vs : List V) (Q : VK) (E : XK),Room k (A.deeper (envOfC qual (zaf st) s.heap.objs.size f cdv)) -> sp vs H Q E →
      ∃ t,PSs (zdj CX0 P w K mg base N qual (zaf st) f cdv A outer s H E).nox (zaS st) t /\ t { nx := fun _ H' => Q .non H',rt := Q } (zcN N vs) H) : FnOk P w K mg base CX0 (k + 1) f fd ps sp := by
  obtain ⟨oc,od,kV,doc,pm,an,cdv,ct,osl,rfl,lk,hcd⟩ := F.ex; refine zix lk hcd S len fun A outer s H vs Q E hr hsp => ?_; obtain ⟨t,h,q⟩ := hbody cdv A outer s H vs Q E hr hsp; exact ⟨t,h.nox,q⟩
theorem Fun.binds {x qual : Str} {st : Stmt} {f : Addr} {fd : FuncData} {ps : List Str} (F : Fun K x qual st f fd)
    (h : ∀ (kV doc pm : Value) (an : Option Addr) (cdv ct : Value) (us : List Value),us.length = ps.length -> bindArgs (PySem.W.fnOf x qual (zbk st) (zaS st) (zaf st) .none kV doc pm an cdv ct) ⟨us,[]⟩ = pure (ps.zip us)) : Binds K fd ps [] := by
  obtain ⟨oc,od,kV,doc,pm,an,cdv,ct,osl,rfl,lk,hcd⟩ := F.ex; exact .all (h kV doc pm an cdv ct)
theorem zi3 {x qual : Str} {st : Stmt} {f : Addr} {oc : Value} {od an : Option Addr} {osl : Array (Option Value)} {kV doc pm cdv ct : Value} (l : K.lookup f = some ⟨oc,od,.func (PySem.W.fnOf x qual (zbk st) (zaS st) (zaf st) .none kV doc pm an cdv ct),osl⟩)
    (c : PySem.W.codeIn K cdv qual = true) (k : PySem.W.keepIn K (.ref f) = true) : Fun K x qual st f (PySem.W.fnOf x qual (zbk st) (zaS st) (zaf st) .none kV doc pm an cdv ct) := ⟨⟨oc,od,kV,doc,pm,an,cdv,ct,osl,rfl,l,c⟩,k⟩
end
theorem zjr {A : Around} {k : Nat} (hr : Room k A) : A.units + 1 < cLine := Nat.lt_of_le_of_lt (Nat.add_le_add_left (by decide : 1 <= 64) _) hr.units
theorem zgf {n : Nat} (h : n <= 1000) : n < sizeLine := Nat.lt_of_le_of_lt h (by decide)
section
variable {X : Cx}
theorem pv (i : Nat) {x : Str} {pos : Pos} (hN : X.N[i]? = some x := by rfl) (hv : Vis X.env.scope x := by first | exact Or.inl rfl | exact Or.inr (Or.inl rfl) | exact Or.inr (Or.inr rfl)) (hd : (x == ("__debug__" : Str)) = false := by decide)
    (hcd : (x == ("__classdict__" : Str)) = false := by decide) : PE X (.Name x pos) (zjE i) := zje hN hv hd hcd
end
theorem zbI {A B : Prop} (h : B) : if false = true then A else B := by
  rw [if_neg fnt]; exact h
theorem zdX {A B : Prop} (h : A) : if true = true then A else B := by
  rw [if_pos rfl]; exact h
def Same (H H' : Hp) : Prop := ∀ b o,H b = some o -> H' b = some o
theorem Same.refl (H : Hp) : Same H H := fun _ _ h => h
theorem Same.trans {H H1 H2 : Hp} (a : Same H H1) (b : Same H1 H2) : Same H H2 := fun c o h => b c o (a c o h)
theorem Same.free {H H' : Hp} (e : Same H H') {l : Addr} (h : H' l = Option.none) : H l = Option.none := by
  cases q : H l with
  | none => rfl
  | some o =>
    rw [e l o q] at h; cases h
theorem Same.seq {K : Fg} {H H' : Hp} {a : Addr} {xs : List V} (e : Same H H') (h : SqL K H a xs) : SqL K H' a xs := by
  rcases h with (h | ⟨o,h⟩) | h
  . exact .inl (.inl (e _ _ h))
  . exact .inl (.inr ⟨o,e _ _ h⟩)
  . exact .inr h
section
variable {κ : Type} [DecidableEq κ]
def zdk (kvs : List (κ × V)) (k : κ) : Option V := (kvs.find? fun kv => decide (kv.1 = k)).map (·.2)
theorem zhF {k : κ} : zdk ([] : List (κ × V)) k = none := rfl
theorem zfn {p : κ × V} {r : List (κ × V)} {k : κ} (e : p.1 = k) : zdk (p :: r) k = some p.2 := by simp [zdk,List.find?_cons,e]
theorem zbe {p : κ × V} {r : List (κ × V)} {k : κ} (e : ¬ p.1 = k) : zdk (p :: r) k = zdk r k := by simp [zdk,List.find?_cons,e]
theorem RelO.isSome_eq {o : Option V} {u : Option Value} (r : RelO o u) : o.isSome = u.isSome := by
  cases o with
  | none => cases u with
    | none => rfl
    | some _ => exact (show False from r).elim
  | some _ => cases u with
    | none => exact (show False from r).elim
    | some _ => rfl
theorem KV.val {kvs : List (κ × V)} {vs : List (κ × Value)} (r : KV kvs vs) (k : κ) : RelO (zdk kvs k) (valueAt vs k) := by
  unfold KV at r
  induction r with
  | nil => exact True.intro
  | @cons p q ps qs h t ih =>
    obtain ⟨h1,h2⟩ := h
    by_cases e : p.1 = k
    . have e' : q.1 = k := h1.symm.trans e; have b : valueAt (q :: qs) k = some q.2 := by simp [valueAt,List.find?_cons,e']
      rw [zfn e,b]; exact h2
    . have e' : ¬ q.1 = k := fun z => e (h1.trans z); have b : valueAt (q :: qs) k = valueAt qs k := by simp [valueAt,List.find?_cons,e']
      rw [zbe e,b]; exact ih
end
theorem zhC {P : Program} {w : World} {k : Key} {u : Value} (r : RelV (kV k) u) : (zbi P w).is k u = true := by
  cases k with
  | inl i => obtain ⟨t,e⟩ := (show ∃ t,u = Value.int i t from r); subst e; exact zfg P w i t
  | inr x => obtain ⟨t,e⟩ := (show ∃ t,u = Value.str x t from r); subst e; exact zfo P w x t
theorem zed {P : Program} {w : World} : ∀ {ks : List Key} {us : List Value},Vals (ks.map kV) us -> ItemsAre (zbi P w) ks us
  | [],_,r => by rw [List.map_nil] at r; cases r; exact .nil
  | k :: ks,_,r => by
    rw [List.map_cons] at r
    cases r with
    | cons h t => exact .cons (zhC h) (zed t)
section
variable {P : Program} {w : World} {H : Hp} {h : Heap} {a : Addr}
theorem zhw {ks : List Key} (ok : HOk P w H h) (e : H a = some (.tup (ks.map kV))) : (tupleKind (zbi P w)).is h ks a := by
  obtain ⟨_,its,r,o,h1,h2,n,h3⟩ := (show ObjOk P w H h a (.tup (ks.map kV)) from ok a _ e); exact ⟨o,its.toArray,n,h1,h2,h3,by simpa using zed r⟩
end
def zjx (i : Expr) : Prop := ∀ ov iv,subscripted i false ov iv = operate [ov,iv] (getItem ov iv)
theorem zib {prog : Program} {w : World} {A : Around} {E : Value -> Shared -> Prop} {s : Shared} {env : Env} {value slice : Expr} {pos : Pos} {T id : String} {Q : Value -> Shared -> Prop}
    (hl : typeLookup (.type T) "__getitem__" = pure (some (.builtin id))) (hs : zjx slice)
    (h : wpAny (model prog w) A (eval value env) (fun o s₁ => wpAny (model prog w) A (eval slice env) (fun i s₂ => s₂.TypeIs o T /\ wpAny (model prog w) A (getItem o i) Q E s₂) E s₁) E s) :
    wpAny (model prog w) A (eval (.Subscript value slice pos) env) Q E s := by
  refine Subscript_ (wpAny_mono h (fun o s₁ h₁ => wpAny_mono h₁ (fun i s₂ h₂ => ?_) fun _ _ x => x) fun _ _ x => x); obtain ⟨hT,h₂⟩ := h₂; unfold subscriptTail; refine wpAny_bind ?_; rw [getitemInPython_of_ne hT.not_modules]; refine wpAny_bind (wpAny_specialOf hT hl ?_)
  have fin : wpAny (model prog w) A (subscripted slice false o i) (fun r s₃ => wpAny (model prog w) A (letTemporaryGo value o r >>= fun _ => pure r) Q E s₃) E s₂ := by
    rw [hs o i]; exact wpAny_operating (wpAny_mono h₂ (fun r s₃ h₃ => wpAny_bind (wpAny_letTemporaryGo (wpAny_pure h₃))) fun _ _ x => x)
  first
    | exact wpAny_pure (wpAny_bind fin)
    | exact wpAny_bind (wpAny_pure (wpAny_bind fin))
    | exact wpAny_bind fin
def zbH (cells : List (Str × Addr)) : List (Str × NameKind) -> List (Str × Addr) -> List (Str × Addr)
  | [],acc => acc
  | (n,k) :: r,acc => if (k == NameKind.free) = true then (match cells.lookup n with | some c => zbH cells r ((n,c) :: acc) | none => zbH cells r acc) else zbH cells r acc
theorem zdZ {scope : Scope} {env : Env} (h : ∀ y ∈ scope.names,y.2 = .free -> ∃ c,env.cells.lookup y.1 = some c) : closureFor scope env = pure (zbH env.cells scope.names []) := by
  have all : ∀ (l : List (Str × NameKind)) (acc : List (Str × Addr)),(∀ y ∈ l,y.2 = .free -> ∃ c,env.cells.lookup y.1 = some c) →
      (forIn l acc fun (x : Str × NameKind) (r : List (Str × Addr)) => if (x.2 == NameKind.free) = true then do
        let a <- cellOf env x.1
        pure (ForInStep.yield ((x.1,a) :: r)) else pure (ForInStep.yield r) : Sem (List (Str × Addr))) = pure (zbH env.cells l acc) := by
    intro l
    induction l with
    | nil => intro acc _; rfl
    | cons x r ih =>
      intro acc hl; obtain ⟨n,k⟩ := x; have ih' := fun acc => ih acc fun y hy => hl y (List.mem_cons_of_mem _ hy); rw [List.forIn_cons]
      by_cases hk : (k == NameKind.free) = true
      . have hk' : k = NameKind.free := by simpa using hk
        obtain ⟨c,hc⟩ := hl (n,k) List.mem_cons_self hk'; have hc' : env.cells.lookup n = some c := hc; simp only [hk,if_true]; have e1 : cellOf env n = pure c := by unfold cellOf; rw [hc']
        rw [e1]; simp only [pure_bind]; rw [ih']; simp only [zbH,hk,if_true,hc']
      . simp only [hk,if_false,pure_bind,Bool.false_eq_true]; rw [ih']; simp only [zbH,hk,if_false,Bool.false_eq_true]
  have := all scope.names [] h; simp only [closureFor]
  first
    | exact this
    | (simp only [bind_pure]; exact this)
    | simpa using this
theorem zbr {cells : List (Str × Addr)} : ∀ {names : List (Str × NameKind)} {acc : List (Str × Addr)},(∀ y c,acc.lookup y = some c -> cells.lookup y = some c) -> ∀ y c,(zbH cells names acc).lookup y = some c -> cells.lookup y = some c
  | [],_,h,y,c,e => h y c e
  | (n,k) :: r,acc,h,y,c,e => by
    unfold zbH at e
    split at e
    . cases hn : cells.lookup n with
      | none => rw [hn] at e; exact zbr h y c e
      | some c' =>
        rw [hn] at e; refine zbr (fun y c q => ?_) y c e; rw [List.lookup_cons] at q
        cases hy : y == n with
        | true =>
          rw [hy] at q; have q' : c' = c := Option.some.inj q; have hyn : y = n := by simpa using hy
          rw [hyn,hn,q']
        | false => rw [hy] at q; exact h y c q
    . exact zbr h y c e
theorem zcC {cells : List (Str × Addr)} : ∀ {names : List (Str × NameKind)} {acc : List (Str × Addr)} {y : Str} {c : Addr},cells.lookup y = some c -> ((acc.lookup y).isSome = true \/ names.lookup y = some .free) -> ((zbH cells names acc).lookup y).isSome = true
  | [],acc,y,c,_,h => by
    rcases h with h | h
    . exact h
    . simp at h
  | (n,k) :: r,acc,y,c,hc,h => by
    unfold zbH; have hyn : ∀ q : (y == n) = true,y = n := fun q => by simpa using q
    split
    . rename_i hk
      cases hn : cells.lookup n with
      | none =>
        refine zcC (c := c) hc ?_
        rcases h with h | h
        . exact .inl h
        . rw [List.lookup_cons] at h
          cases hy : y == n with
          | true =>
            rw [hyn hy,hn] at hc; cases hc
          | false => rw [hy] at h; exact .inr h
      | some c' =>
        refine zcC (c := c) hc ?_; rw [List.lookup_cons]
        cases hy : y == n with
        | true => exact .inl rfl
        | false =>
          rcases h with h | h
          . exact .inl h
          . rw [List.lookup_cons,hy] at h; exact .inr h
    . rename_i hk
      refine zcC (c := c) hc ?_
      rcases h with h | h
      . exact .inl h
      . rw [List.lookup_cons] at h
        cases hy : y == n with
        | true =>
          rw [hy] at h; have : k = NameKind.free := Option.some.inj h; exact absurd (by simpa using this) hk
        | false => rw [hy] at h; exact .inr h
theorem zff {cells : List (Str × Addr)} {names : List (Str × NameKind)} {y : Str} {c : Addr} (hc : cells.lookup y = some c) (h : names.lookup y = some .free) : (zbH cells names []).lookup y = some c := by
  obtain ⟨c',e⟩ := Option.isSome_iff_exists.mp (zcC (acc := []) hc (.inr h)); have := zbr (acc := []) (fun _ _ q => by simp at q) y c' e
  rw [hc] at this; rw [e,this]
theorem zdV {env : Env} : ∀ {names : List (Str × NameKind)} {x : Str},names.lookup x = some .free →
    ((names.map fun (n,k) => if (k == NameKind.free && env.scope.kind == .function && env.kindOf n == some .cell) then (n,NameKind.cell) else (n,k)).lookup x = some .cell ∨
     (names.map fun (n,k) => if (k == NameKind.free && env.scope.kind == .function && env.kindOf n == some .cell) then (n,NameKind.cell) else (n,k)).lookup x = some .free)
  | [],_,h => by simp at h
  | (n,k) :: r,x,h => by
    have ih := @zdV env r x; show List.lookup x ((if (k == NameKind.free && env.scope.kind == .function && env.kindOf n == some .cell) = true then (n,NameKind.cell) else (n,k)) :: _) = _ \/ List.lookup x ((if (k == NameKind.free && env.scope.kind == .function && env.kindOf n == some .cell) = true then (n,NameKind.cell) else (n,k)) :: _) = _
    cases hx : x == n with
    | true =>
      simp only [List.lookup_cons,hx] at h; cases h
      by_cases hc : (NameKind.free == NameKind.free && env.scope.kind == .function && env.kindOf n == some .cell) = true
      . rw [if_pos hc]; simp only [List.lookup_cons,hx]; exact .inl trivial
      . rw [if_neg hc]; simp only [List.lookup_cons,hx]; exact .inr trivial
    | false =>
      simp only [List.lookup_cons,hx] at h
      by_cases hc : (k == NameKind.free && env.scope.kind == .function && env.kindOf n == some .cell) = true
      . rw [if_pos hc]; simp only [List.lookup_cons,hx]; exact ih h
      . rw [if_neg hc]; simp only [List.lookup_cons,hx]; exact ih h
theorem zdx {env : Env} : ∀ {names : List (Str × NameKind)} {x : Str},(∀ y ∈ names,y.2 ≠ .cell) →
    ((names.map fun (n,k) => if (k == NameKind.free && env.scope.kind == .function && env.kindOf n == some .cell) then (n,NameKind.cell) else (n,k)).lookup x = some .cell ∨
     (names.map fun (n,k) => if (k == NameKind.free && env.scope.kind == .function && env.kindOf n == some .cell) then (n,NameKind.cell) else (n,k)).lookup x = some .free) -> names.lookup x = some .free
  | [],_,_,h => by simp at h
  | (n,k) :: r,x,hn,h => by
    have ih := @zdx env r x (fun y hy => hn y (List.mem_cons_of_mem _ hy)); have h' : List.lookup x ((if (k == NameKind.free && env.scope.kind == .function && env.kindOf n == some .cell) = true then (n,NameKind.cell) else (n,k)) :: (r.map fun (n,k) => if (k == NameKind.free && env.scope.kind == .function && env.kindOf n == some .cell) then (n,NameKind.cell) else (n,k))) = some .cell \/ List.lookup x ((if (k == NameKind.free && env.scope.kind == .function && env.kindOf n == some .cell) = true then (n,NameKind.cell) else (n,k)) :: (r.map fun (n,k) => if (k == NameKind.free && env.scope.kind == .function && env.kindOf n == some .cell) then (n,NameKind.cell) else (n,k))) = some .free := h
    cases hx : x == n with
    | true =>
      by_cases hc : (k == NameKind.free && env.scope.kind == .function && env.kindOf n == some .cell) = true
      . have hk : k = NameKind.free := by
          rw [Bool.and_eq_true,Bool.and_eq_true] at hc
          simpa using hc.1.1
        rw [List.lookup_cons,hx,hk]
      . rw [if_neg hc] at h'; simp only [List.lookup_cons,hx] at h' ⊢
        rcases h' with z | z
        . exact absurd (Option.some.inj z) (hn (n,k) List.mem_cons_self)
        . exact z
    | false =>
      by_cases hc : (k == NameKind.free && env.scope.kind == .function && env.kindOf n == some .cell) = true
      . rw [if_pos hc] at h'; simp only [List.lookup_cons,hx] at h' ⊢; exact ih h'
      . rw [if_neg hc] at h'; simp only [List.lookup_cons,hx] at h' ⊢; exact ih h'
def zaw (X : Cx) (scope : Scope) (C : Addr) (N : List Str) (s₀ : Shared) (H₀ : Hp) (fp : List Addr) : Cx :=
  { X with N := N,s₀ := s₀,H₀ := H₀,env := compEnvC scope (zbH X.env.cells scope.names []) C X.env,outer := X.stack,stack := X.stack,ex := fp,fn := fun _ => false,pn := [],xe := fun _ _ => False }
def cap (σ : St) (idx : List Nat) : St := idx.map fun j => σ.getD j none
structure CompNames (sc : Scope) (N0 : List Str) (scope : Scope) (x : Str) (ns : List Str) (idx : List Nat) : Prop where
  kind : scope.kind = .function
  cell : ∀ y ∈ scope.names,y.2 ≠ .cell
  loc : ∀ y ∈ scope.names,y.2 = .local -> scope.names.lookup y.1 = some .local
  tgt : scope.names.lookup x = some .local
  nd : (x :: ns).Nodup
  from_ : ∀ y ∈ scope.names,y.2 = .free -> (sc.names.lookup y.1 = some .cell \/ sc.names.lookup y.1 = some .free)
  free : ∀ y ∈ ns,scope.names.lookup y = some .free
  ix : idx.map (fun j => N0[j]?) = ns.map some
def cnB (sc : Scope) (N0 : List Str) (scope : Scope) (x : Str) (ns : List Str) (idx : List Nat) : Bool :=
  decide (scope.kind = .function) && scope.names.all (fun y => decide (y.2 ≠ .cell)) && scope.names.all (fun y => decide (y.2 = .local -> scope.names.lookup y.1 = some .local)) && decide (scope.names.lookup x = some .local) &&
  decide ((x :: ns).Nodup) && scope.names.all (fun y => decide (y.2 = .free -> (sc.names.lookup y.1 = some .cell \/ sc.names.lookup y.1 = some .free))) && ns.all (fun y => decide (scope.names.lookup y = some .free)) &&
  decide (idx.map (fun j => N0[j]?) = ns.map some)
theorem zc2 {sc : Scope} {N0 : List Str} {scope : Scope} {x : Str} {ns : List Str} {idx : List Nat} (h : cnB sc N0 scope x ns idx = true) : CompNames sc N0 scope x ns idx := by
  unfold cnB at h; simp only [Bool.and_eq_true,List.all_eq_true,decide_eq_true_eq] at h; obtain ⟨⟨⟨⟨⟨⟨⟨h1,h2⟩,h3⟩,h4⟩,h5⟩,h6⟩,h7⟩,h8⟩ := h; exact ⟨h1,h2,h3,h4,h5,h6,h7,h8⟩
theorem zb0 {names : List (Str × NameKind)} {y : Str} {k : NameKind} (h : names.lookup y = some k) : (y,k) ∈ names := PySem.mem_of_lookup h
section
variable {X : Cx} {pins : List (Addr × Obj)} {σ : St} {H : Hp} {s : Shared} {scope : Scope} {x : Str} {ns : List Str} {idx : List Nat} {fp : List Addr}
theorem CompNames.clos (N : CompNames X.env.scope X.N scope x ns idx) (ok : X.Ok) : closureFor scope X.env = pure (zbH X.env.cells scope.names []) :=
  zdZ fun y hy hk => ok.has y.1 (N.from_ y hy hk)
theorem Inv.comp {h1 : Heap} {t' : Nat} {C D : Addr} (N : CompNames X.env.scope X.N scope x ns idx) (I : Inv X pins σ H s) (f2 : ∀ b ∈ fp,zch X pins H b) (fo : ∀ b ∈ fp,∃ o,s.heap.get? b = some o)
    (hD : s.heap.objs.size <= D) (hC : s.heap.objs.size <= C) (hDC : D ≠ C) (old : ∀ b o,s.heap.get? b = some o -> h1.get? b = some o) (hacc : h1.get? D = some { cls := .type "list",data := .seq #[] 0 })
    (hns : h1.Ns C fun _ => none) :
    Inv (zaw X scope C (x :: ns) s H fp) [] (none :: cap σ idx) (upd H D (.lst [])) { s with heap := h1,toks := t' } := by
  have hDn : H D = none := I.hok.fresh hD; have hCn : H C = none := I.hok.fresh hC; have cne : ∀ y c,(zbH X.env.cells scope.names []).lookup y = some c -> X.env.cells.lookup y = some c := zbr (acc := []) (fun _ _ q => by simp at q)
  have clt : ∀ y c,X.env.cells.lookup y = some c -> c < s.heap.objs.size := fun y c e => by
    obtain ⟨v,o,ho,_⟩ := I.cell y c e; exact Heap.lt_size ho
  refine ⟨⟨I.ok.mod,N.kind,I.ok.glob,I.ok.blt,hC,fun y z c e1 e2 => ?_,fun y hy => ?_,fun y c hf _ => ?_,I.ok.hd,I.ok.frames,.inl rfl,fun b hb => ⟨?_,fun y c e => ?_⟩,I.bs,Nat.le_trans I.ok.bsz I.sz,fun b o e hb => ?_,fun b hb hz => ?_,I.stack,I.stkFree⟩,
    rfl,I.bare,?_,⟨_,hns,fun i y v e1 e2 e3 => ?_⟩,fun y c e => ?_,?_,fun y c e => ?_,fun p hp => absurd (show p ∈ ([] : List (Addr × Obj)) from hp) (by simp),?_,?_⟩
  . exact I.ok.inj y z c (cne y c e1) (cne z c e2)
  . have hy' := zdx (env := X.env) N.cell hy; obtain ⟨c,e⟩ := I.ok.has y (N.from_ (y,.free) (zb0 hy') rfl); exact ⟨c,zff e hy'⟩
  . exact absurd hf (by show ¬ (false = true); decide)
  . obtain ⟨o,e⟩ := fo b hb; exact Nat.ne_of_lt (Nat.lt_of_lt_of_le (Heap.lt_size e) hC)
  . exact (f2 b hb).2.2.2.2.1 y c (cne y c e)
  . rcases (f2 b hb).2.2.2.1 with z | z
    . exact I.ok.noex b o e z
    . exact absurd (Nat.lt_of_lt_of_le (Heap.lt_size (I.ok.bs b o e).1) z) (Nat.lt_irrefl _)
  . rcases List.mem_cons.mp (I.stkSub b hz) with z | z
    . exact (f2 b hb).2.1 z
    . exact (f2 b hb).2.2.1 z
  . exact Un.laid old hD hDn
  . cases i with
    | zero =>
      have e2' : (none : Option V) = some v := Option.some.inj e2; cases e2'
    | succ i =>
      have e1' : ns[i]? = some y := e1; have e2' : (cap σ idx)[i]? = some (some v) := e2; have hi : (idx.map (fun j => X.N[j]?))[i]? = some (some y) := by rw [N.ix,List.getElem?_map,e1']; rfl
      rw [List.getElem?_map] at hi; unfold cap at e2'; rw [List.getElem?_map] at e2'
      cases ej : idx[i]? with
      | none => rw [ej] at hi; cases hi
      | some j =>
        rw [ej] at hi e2'; have hj : X.N[j]? = some y := Option.some.inj hi; have hv : σ.getD j none = some v := Option.some.inj e2'
        have hv' : σ[j]? = some (some v) := by
          rw [List.getD_eq_getElem?_getD] at hv
          cases q : σ[j]? with
          | none => rw [q] at hv; cases hv
          | some w' => rw [q] at hv; exact congrArg some hv
        have hfr := N.free y (List.mem_of_getElem? e1'); have hk := N.from_ (y,.free) (zb0 hfr) rfl; obtain ⟨m,hn,hl⟩ := I.loc
        have hvis : Vis X.env.scope y := by
          rcases hk with k | k
          . exact .inr (.inl k)
          . exact .inr (.inr k)
        obtain ⟨u,r,l⟩ := hl j y v hj hv' hvis; refine ⟨u,r,.inr ⟨?_,?_⟩⟩
        . exact zdV (env := X.env) hfr
        . rcases l with ⟨k,_⟩ | ⟨_,c,ec,o,ho,hd⟩
          . have k' : X.env.kindOf y = some .local := k
            rcases hk with q | q
            . have q' : X.env.kindOf y = some .cell := q; rw [k'] at q'; cases q'
            . have q' : X.env.kindOf y = some .free := q; rw [k'] at q'; cases q'
          . exact ⟨c,zff ec hfr,o,old c o ho,hd⟩
  . obtain ⟨v,o,ho,hd⟩ := I.cell y c (cne y c e); exact ⟨v,o,old c o ho,hd⟩
  . show upd H D (.lst []) C = none; rw [zax (Ne.symm hDC)]; exact hCn
  . show upd H D (.lst []) c = none; rw [zax (Nat.ne_of_lt (Nat.lt_of_lt_of_le (clt y c (cne y c e)) hD))]; exact I.freeC y c (cne y c e)
  . exact I.hok.laid old hD ⟨Nat.zero_le _,[],0,.nil,hacc⟩
  . show (none :: cap σ idx).length = (x :: ns).length; have := congrArg List.length N.ix; rw [List.length_map,List.length_map] at this; unfold cap; rw [List.length_cons,List.length_cons,List.length_map,this]
theorem Inv.uncomp {σ' : St} {H' : Hp} {s' : Shared} {C : Addr} {N' : List Str} (I : Inv X pins σ H s) (f2 : ∀ b ∈ fp,zch X pins H b) (J : Inv (zaw X scope C N' s H fp) [] σ' H' s') : Inv X pins σ H' s' :=
  I.call' (ch := fp) J.os J.base J.hok J.bare fun b hb => ⟨(f2 b hb).2.2.2.1,(f2 b hb).2.1,(f2 b hb).2.2.2.2.1,(f2 b hb).2.2.2.2.2⟩
end
section
variable {prog : Program} {w : World} {A : Around} {R : Result -> Shared -> Prop} {s : Shared}
theorem zeX {elt target iter : Expr} {ifs : List Expr} {scope : Scope} {pos : Pos} {it acc : Value} {env : Env} (I : Nat -> Shared -> Prop)
    (turn : ∀ n s,I n s -> wpAny (model prog w) A (pyNext it) (fun r s₁ => match r with
      | none => R (.ok .next) s₁
      | some v => wpAny (model prog w) A (letOwnedTupleGo target it v) (fun _ s₁' => wpAny (model prog w) A (assign target env v) (fun _ s₂ =>
          wpAny (model prog w) A (forIn ifs true fun c r => if r = true then do let ok <- isTrue c env (eval c env); pure (ForInStep.yield ok) else pure (ForInStep.yield r)) (fun ok s₃ =>
            if ok = true then wpAny (model prog w) A (eval elt env) (fun x s₄ =>
              wpAny (model prog w) A (call (.builtin "list.append") [acc,x]) (fun _ s₅ => ∃ m,m < n /\ I m s₅) (fun _ _ => False) s₄) (fun _ _ => False) s₃
            else ∃ m,m < n /\ I m s₃) (fun _ _ => False) s₂) (fun _ _ => False) s₁') (fun _ _ => False) s₁) (fun _ _ => False) s)
    (n : Nat) (h : I n s) :
    codeAny (model prog w) A (.compLoop (.ListComp elt [⟨target,iter,ifs,0⟩] scope pos) 0 it acc env) R s := by
  refine codeAny_loop rfl I (fun n s hI => ?_) n h; show wpAny _ A ((compTurn (.ListComp elt [⟨target,iter,ifs,0⟩] scope pos) 0 it acc env).onRaise (fun x => do noteFrame x env; theTreesLotGoes x)) _ _ s
  refine wpAny_noted ?_; rw [compTurn_list]; refine wpAny_bind (wpAny_standAt (wpAny_bind (wpAny_mono (turn n s hI) (fun r s₁ h₁ => ?_) fun _ _ h' => h'.elim)))
  cases r with
  | none => exact wpAny_pure h₁
  | some v =>
    refine wpAny_bind (wpAny_mono h₁ (fun _ s₁' h₁' => ?_) fun _ _ h' => h'.elim); refine wpAny_bind (wpAny_mono h₁' (fun _ s₂ h₂ => wpAny_bind (wpAny_mono h₂ (fun ok s₃ h₃ => ?_) fun _ _ h' => h'.elim)) fun _ _ h' => h'.elim)
    cases ok with
    | false => exact wpAny_pure ⟨rfl,h₃⟩
    | true =>
      exact wpAny_bind (wpAny_bind (wpAny_mono h₃ (fun x s₄ h₄ => wpAny_bind (wpAny_mono h₄ (fun _ s₅ h₅ => wpAny_pure (wpAny_pure ⟨rfl,h₅⟩)) fun _ _ h' => h'.elim)) fun _ _ h' => h'.elim))
end
def zhR (X : Cx) (ifs : List Expr) (t : TT) : Prop :=
  ∀ (pins : List (Addr × Obj)) (s : Shared) (σ : St) (H : Hp) (Q : Bool -> Hp -> Prop),Inv X pins σ H s -> t σ H Q →
    wpAny (model X.prog X.w) X.A (forIn ifs true fun c r => if r = true then do let ok <- isTrue c X.env (eval c X.env); pure (ForInStep.yield ok) else pure (ForInStep.yield r)) (TP X pins σ Q) X.xe s
def zcE : TT := fun _ H Q => Q true H
theorem zb6 {X : Cx} : zhR X [] zcE := fun pins s σ H Q I h => wpAny_tests_nil ⟨H,I,h⟩
def LCW (idx : List Nat) (J : It) (g : TG) (tt : TT) (te : TE) (Q : VK) (σ : St) (H1 : Hp) : Prop := ∀ D,H1 D = none →
  ∃ W : Nat -> Nat -> List V -> St -> Hp -> Prop,(∃ m,W 0 m [] (none :: cap σ idx) (upd H1 D (.lst []))) /\ ∀ i m ys ρ H,W i m ys ρ H -> H D = some (.lst ys) ∧
    ((J.stop i H /\ Q (.ref D) H) ∨
     (J.go i H /\ ys.length < sizeLine /\ ∀ x H',J.yld i H x H' -> g x ρ H' fun ρ2 H2 => tt ρ2 H2 fun b H3 =>
        if b = true then te ρ2 H3 fun v H4 => H4 D = some (.lst ys) /\ ∃ m',m' < m /\ W (i + 1) m' (ys ++ [v]) ρ2 (upd H4 D (.lst (ys ++ [v])))
        else ∃ m',m' < m /\ W (i + 1) m' ys ρ2 H3))
def tLC (wi : TI) (idx : List Nat) (g : TG) (tt : TT) (te : TE) : TE := fun σ H Q => wi σ H fun J H1 => LCW idx J g tt te Q σ H1
section
variable {X : Cx} {elt iter : Expr} {x : Str} {px : Pos} {ifs : List Expr} {scope : Scope} {pos : Pos} {ns : List Str} {idx : List Nat} {wi : TI} {g : TG} {tt : TT} {te : TE}
theorem zeu {pins : List (Addr × Obj)} {s : Shared} {σ : St} {H : Hp} {Q : VK} {RR : Value -> Addr -> Result -> Shared -> Prop} {it : Addr} {fp : List Addr} {tn : Nat -> Heap -> Prop} {J : It} {tg : Expr} (N : CompNames X.env.scope X.N scope x ns idx) (hcalm : X.calm = true)
    (hg : ∀ C s₀ H₀ fp,PG (zaw X scope C (x :: ns) s₀ H₀ fp) tg g)
    (hi : ∀ C s₀ H₀ fp,zhR (zaw X scope C (x :: ns) s₀ H₀ fp) ifs tt) (he : ∀ C s₀ H₀ fp,PE (zaw X scope C (x :: ns) s₀ H₀ fp) elt te)
    (I : Inv X pins σ H s) (T : ze7 X.prog X.w X.K tg J fp it tn) (st : tn 0 s.heap) (f2 : ∀ b ∈ fp,zch X pins H b)
    (h : LCW idx J g tt te Q σ H)
    (hR : ∀ D C s' H',Inv X pins σ H' s' -> zch X pins H' C -> (∃ m,s'.heap.Ns C m) -> Q (.ref D) H' -> RR (.ref D) C (.ok .next) s') :
    wpAny (model X.prog X.w) X.A (newList []) (fun acc s₃ => wpAny (model X.prog X.w) X.A (newFunctionEnv scope X.env.globals (zbH X.env.cells scope.names []) [] X.env.qual none .none (some X.env)) (fun cenv s₄ =>
      codeAny (model X.prog X.w) X.A (.compStart (.ListComp elt [⟨tg,iter,ifs,0⟩] scope pos) 0 (.ref it) acc { cenv with scope := relabel scope X.env }) (RR acc cenv.locals) s₄) X.xe s₃) X.xe s := by
  refine wpAny_newObj_type (wpAny_newFunctionEnv N.cell (by intro y hy; simp at hy) (fun h₁ hns₁ hsb₁ => ?_) N.kind)
  dsimp only at hns₁ hsb₁ ⊢; generalize hH2 : s.heap.push { cls := .type "list",dict := none,data := .seq ([] : List Value).toArray } = H2 at hns₁ hsb₁ ⊢; have hC : H2.objs.size = s.heap.objs.size + 1 := by rw [<- hH2,Heap.size_push]
  have hDC : s.heap.objs.size ≠ H2.objs.size := by rw [hC]; exact Nat.ne_of_lt (Nat.lt_succ_self _)
  have hCle : s.heap.objs.size <= H2.objs.size := by rw [hC]; exact Nat.le_succ _
  have below : ∀ b,b < s.heap.objs.size -> b ≠ H2.objs.size := fun b hb => by rw [hC]; exact Nat.ne_of_lt (Nat.lt_succ_of_lt hb)
  have old : ∀ b o,s.heap.get? b = some o -> h₁.get? b = some o := fun b o e => hsb₁.extBut b o (below b (Heap.lt_size e)) (Heap.get?_push_of_some _ (hH2 ▸ Heap.get?_push_of_some _ e)); have hacc : h₁.get? s.heap.objs.size = some { cls := .type "list",data := .seq #[] 0 } := hsb₁.extBut _ _ hDC (Heap.get?_push_of_some _ (hH2 ▸ Heap.get?_push_size _ rfl)); have hns : h₁.Ns H2.objs.size fun _ => none := by simpa using hns₁
  have J0 := Inv.comp (t' := s.toks + ([] : List (Str × Value)).length) N I f2 (fun b hb => let ⟨o,e,_⟩ := T.obj 0 s.heap st b hb; ⟨o,e⟩) (Nat.le_refl _) hCle hDC old hacc hns; obtain ⟨W,⟨m0,w0⟩,turn⟩ := h s.heap.objs.size (I.hok.fresh (Nat.le_refl _))
  have stat : ∀ {H' : Hp},(∀ b ∈ fp,H' b = none) -> ∀ b ∈ fp,zch (zaw X scope H2.objs.size (x :: ns) s H fp) [] H' b := fun hn b hb => by
    obtain ⟨_,f1,f3,f4,f5,f6⟩ := f2 b hb; obtain ⟨o,e,_⟩ := T.obj 0 s.heap st b hb; refine ⟨hn b hb,below b (Heap.lt_size e),fun z => ?_,.inl hb,fun y c q => f5 y c (zbr (acc := []) (fun _ _ q => by simp at q) y c q),fun p hp => absurd (show p ∈ ([] : List (Addr × Obj)) from hp) (by simp)⟩
    rcases List.mem_cons.mp (I.stkSub b z) with q | q
    . exact f1 q
    . exact f3 q
  have fr0 : ∀ b ∈ fp,upd H s.heap.objs.size (.lst []) b = none := fun b hb => by
    obtain ⟨o,e,_⟩ := T.obj 0 s.heap st b hb; rw [zax (Nat.ne_of_lt (Heap.lt_size e))]; exact (f2 b hb).1
  have st1 : tn 0 h₁ := T.keep 0 _ _ st fun b _ o e => old b o e
  have loop : ∀ s₃ : Shared,s₃ = { s with heap := h₁,toks := s.toks + ([] : List (Str × Value)).length } →
      codeAny (model X.prog X.w) X.A (.compLoop (.ListComp elt [⟨tg,iter,ifs,0⟩] scope pos) 0 (.ref it) (.ref s.heap.objs.size) (compEnvC scope (zbH X.env.cells scope.names []) H2.objs.size X.env))
        (RR (.ref s.heap.objs.size) H2.objs.size) s₃ := by
    rintro s₃ rfl; refine zeX (fun n s' => ∃ i ρ H' ys,Inv (zaw X scope H2.objs.size (x :: ns) s H fp) [] ρ H' s' /\ tn i s'.heap /\ (∀ b ∈ fp,H' b = none) /\ W i n ys ρ H') ?_ m0 ⟨0,_,_,[],J0,st1,fr0,w0⟩; rintro n s3 ⟨i,ρ,H3,ys,I3,st3,fr3,w3⟩; obtain ⟨hD3,hw⟩ := turn i n ys ρ H3 w3
    rcases hw with ⟨stop,q⟩ | ⟨go,hlen,step⟩
    . refine thn (T.done (zaw X scope H2.objs.size (x :: ns) s H fp) rfl rfl rfl hcalm i [] s3 ρ H3 (fun _ _ => False) I3 (stat fr3) st3 stop) fun r s4 ⟨hr,I4⟩ => ?_; subst hr; have I5 := I.uncomp f2 I4; refine hR _ _ s4 H3 I5 (I.fpOk hCle I3.free) ?_ q; obtain ⟨m,hn,_⟩ := I4.loc; exact ⟨m,hn⟩
    . refine thn (T.item (zaw X scope H2.objs.size (x :: ns) s H fp) rfl rfl rfl hcalm i [] s3 ρ H3 (fun _ _ => False) I3 (stat fr3) st3 go) fun r s4 ⟨u,hr,h4⟩ => ?_; subst hr; refine thn h4 fun _ s5 ⟨y,H5,I5,r5,y5,st5,fr5⟩ => ?_; have I5' := I5.pinned (stat fr5) (T.obj _ _ st5); refine thn (hg H2.objs.size s H fp _ s5 ρ H5 y u _ I5' r5 (step y H5 y5)) fun _ s6 ⟨σ6,H6,I6,q6⟩ => ?_; refine thn (hi H2.objs.size s H fp _ s6 σ6 H6 _ I6 q6) fun ok s7 ⟨H7,I7,q7⟩ => ?_
      have again : ∀ {s8 : Shared} {H8 : Hp} {zs : List V},Inv (zaw X scope H2.objs.size (x :: ns) s H fp) ([] ++ zbz fp s5.heap) σ6 H8 s8 -> (∃ m',m' < n /\ W (i + 1) m' zs σ6 H8) →
          ∃ m,m < n /\ ∃ i ρ H' ys,Inv (zaw X scope H2.objs.size (x :: ns) s H fp) [] ρ H' s8 /\ tn i s8.heap /\ (∀ b ∈ fp,H' b = none) /\ W i m ys ρ H' := fun {s8 H8 zs} I8 ⟨m',hm,w8⟩ => by
        refine ⟨m',hm,i + 1,σ6,H8,zs,I8.unpinned,T.keep _ _ _ st5 fun b hb o e => (I8.pin (b,o) (List.mem_append_right _ (List.mem_append_right _ (zaU hb e)))).1,fun b hb => ?_,w8⟩; obtain ⟨o,e,d⟩ := T.obj _ _ st5 b hb; exact (I8.pin (b,o) (List.mem_append_right _ (List.mem_append_right _ (zaU hb e)))).2.1
      cases ok with
      | false =>
        rw [if_neg fnt] at q7 ⊢; exact again I7 q7
      | true =>
        rw [if_pos rfl] at q7 ⊢; refine thn (he H2.objs.size s H fp _ s7 σ6 H7 _ I7 q7) fun v s8 ⟨y8,H8,I8,r8,hD8,q8⟩ => ?_; obtain ⟨z8,its,n8,rv,e8⟩ := I8.hok _ _ hD8; have hl := rv.length; refine wpAny_list_append_plain (hsz := by rw [List.size_toArray]; omega) ⟨n8,e8⟩ fun h9 hp9 sb9 => ?_
        obtain ⟨n9,e9⟩ := hp9; refine again (zs := ys ++ [y8]) (I8.write (x := s.heap.objs.size) (e := s.heap.objs.size) (o := .lst (ys ++ [y8])) (t' := s8.toks) (by rw [hD8]; trivial) (.inl rfl) (fun b o hb e => (sb9.2 b hb).trans e) ⟨_,e9⟩ ⟨by rw [List.length_append]; show ys.length + 1 <= sizeLine; omega,its ++ [v],n9,rv.append (.cons r8 .nil),?_⟩) q8
        rw [e9]; simp
  exact codeAny_compStart_list (loop _ rfl) (T.self _ 0 _ _ _ st1 (loop _ rfl))
theorem zdC (N : CompNames X.env.scope X.N scope x ns idx) : ∀ C s₀ H₀ fp,PG (zaw X scope C (x :: ns) s₀ H₀ fp) (.Name x px) (zbG 0) := fun C s₀ H₀ fp =>
  zbK (X := zaw X scope C (x :: ns) s₀ H₀ fp) (i := 0) N.nd rfl (Or.inl (lookup_relabel_local N.tgt)) (.inr (lookup_relabel_local N.tgt))
theorem zfR (N : CompNames X.env.scope X.N scope x ns idx) (hcalm : X.calm = true) (hw : PI X (.Name x px) iter wi)
    (hi : ∀ C s₀ H₀ fp,zhR (zaw X scope C (x :: ns) s₀ H₀ fp) ifs tt) (he : ∀ C s₀ H₀ fp,PE (zaw X scope C (x :: ns) s₀ H₀ fp) elt te)
    (hs : ∀ x,foldedSetIterable iter X.env x = pure x := by intro _; rfl) : PE X (.ListComp elt [⟨.Name x px,iter,ifs,0⟩] scope pos) (tLC wi idx (zbG 0) tt te) := by
  intro pins s σ H Q I h; rw [eval_ListComp]; refine wpAny_comprehension_free (use := none) rfl hs (N.clos I.ok) N.kind N.loc (thn (hw pins s σ H _ I h) fun v s1 h1 => thn h1 fun itv s2 h2 => ?_); obtain ⟨it,fp,tn,J,H2,e,I2,T,st2,f2,q⟩ := h2; subst e; refine zeu (RR := fun acc C => compPost (model X.prog X.w) X.A X.xe none (EP X pins σ Q) acc C) N hcalm (zdC N) hi he I2 T st2 f2 q fun D C s' H' I' F' hm q' => ?_; obtain ⟨m,hn⟩ := hm; refine ⟨m,hn,fun h' hs' => ?_⟩; obtain ⟨f0,f1,f3,f4,f5,f6⟩ := F'; exact ⟨.ref D,H',I'.turned (t' := s'.toks) (fun b o hb e => (hs'.2 b hb).trans e) f0 f1 f4 f5 f6,rfl,q'⟩
theorem zfq {i : Nat} {y : Str} {py spos : Pos} (N : CompNames X.env.scope X.N scope x ns idx) (hcalm : X.calm = true) (hN : X.N.Nodup) (hiy : X.N[i]? = some y) (hly : Loc X.env.scope y) (hw : PI X (.Name x px) iter wi)
    (hi : ∀ C s₀ H₀ fp,zhR (zaw X scope C (x :: ns) s₀ H₀ fp) ifs tt) (he : ∀ C s₀ H₀ fp,PE (zaw X scope C (x :: ns) s₀ H₀ fp) elt te)
    (hsw : swapsWith (.ListComp elt [⟨.Name x px,iter,ifs,0⟩] scope pos) (some (.Name y py)) spos.line X.env = pure true) (hf : X.fn y = true \/ X.env.scope.names.lookup y = some .local := by first | exact .inl rfl | exact .inr rfl | assumption)
    (hs : ∀ x,foldedSetIterable iter X.env x = pure x := by intro _; rfl) : PS X (.Assign [.Name y py] (.ListComp elt [⟨.Name x px,iter,ifs,0⟩] scope pos) spos) (zjC (tLC wi idx (zbG 0) tt te) (zbG i)) := by
  intro pins s σ H D I h; rw [exec_Assign_Name_used _ _ _ _ hsw]; refine wpAny_bind (wpAny_standAt (wpAny_bind ?_)); show wpAny _ X.A (do let _ <- comprehension (.ListComp elt [⟨.Name x px,iter,ifs,0⟩] scope pos) scope X.env _ (newList []) false (eval iter X.env) (some (assign (.Name y py) X.env))) _ _ s
  refine wpAny_bind (wpAny_mono (wpAny_comprehension_free (use := some (assign (.Name y py) X.env)) (Q := fun _ s' => SP X pins D .next s') rfl hs (N.clos I.ok) N.kind N.loc
    (thn (hw pins s σ H _ I h) fun v s1 h1 => thn h1 fun itv s2 h2 => ?_)) (fun _ s' hq => wpAny_pure (wpAny_pure hq)) fun _ _ e => e)
  obtain ⟨it,fp,tn,J,H2,e,I2,T,st2,f2,q⟩ := h2; subst e; refine zeu (Q := fun x H1 => zbG i x σ H1 D.nx) (RR := fun acc C => compPost (model X.prog X.w) X.A X.xe (some (assign (.Name y py) X.env)) (fun _ s' => SP X pins D .next s') acc C) N hcalm (zdC N) hi he I2 T st2 f2 q fun E C s' H' I' F' hm q' => ?_; obtain ⟨m,hn⟩ := hm; obtain ⟨f0,f1,f3,f4,f5,f6⟩ := F'; show wpAny _ X.A (assign (.Name y py) X.env (.ref E)) _ _ s'; refine wpAny_assign_Name (zd7 I' hN hiy hly (show RelV (.ref E) (.ref E) from rfl) (fun s'' I'' hsb => ?_) hf); obtain ⟨a,sb,ha⟩ := hsb
  have hCa : C ≠ a := by
    rcases ha with z | z
    . rw [z]; exact f1
    . exact fun e => f5 y a z e.symm
  refine ⟨m,hn.sameBut sb hCa,fun h' hs' => ?_⟩; exact ⟨_,H',I''.turned (t' := s''.toks) (fun b o hb e => (hs'.2 b hb).trans e) f0 f1 f4 f5 f6,q'⟩
end
open PySem.SeqAt (noMix noMixAll)
mutual
/-- the value is that datum -/
def Is (K : Fg) (H : Hp) : PyData -> V -> Prop
  | .none,v => v = .non
  | .bool b,v => v = .bl b
  | .int i,v => v = .int i
  | .str x,v => v = .str x
  | .list ds,v => ∃ a xs,v = .ref a /\ SqL K H a xs /\ IsAll K H ds xs
  | .tuple ds,v => ∃ a xs,v = .ref a /\ SqT K H a xs /\ IsAll K H ds xs
  | .dict _,_ => False
def IsAll (K : Fg) (H : Hp) : List PyData -> List V -> Prop
  | [],xs => xs = []
  | d :: ds,xs => ∃ y ys,xs = y :: ys /\ Is K H d y /\ IsAll K H ds ys
end
section
variable {X : Cx} {pins : List (Addr × Obj)} {σ : St} {H : Hp} {s : Shared}
mutual
theorem Is.reads (I : Inv X pins σ H s) : ∀ (d : PyData) (v : V) (u : Value),Is X.K H d v -> RelV v u -> ∃ as,Reads s.heap u d as
  | .none,v,u,h,r => by
    have h' : v = .non := by simpa only [Is] using h
    subst h'; cases (show u = Value.none from r); exact ⟨_,.none⟩
  | .bool b,v,u,h,r => by
    have h' : v = .bl b := by simpa only [Is] using h
    subst h'; cases (show u = Value.bool b from r); exact ⟨_,.bool b⟩
  | .int i,v,u,h,r => by
    have h' : v = .int i := by simpa only [Is] using h
    subst h'; obtain ⟨t,rfl⟩ := (show ∃ t,u = Value.int i t from r); exact ⟨_,.int i t⟩
  | .str x,v,u,h,r => by
    have h' : v = .str x := by simpa only [Is] using h
    subst h'; obtain ⟨t,rfl⟩ := (show ∃ t,u = Value.str x t from r); exact ⟨_,.str x t⟩
  | .list ds,v,u,h,r => by
    have h' : ∃ a xs,v = .ref a /\ SqL X.K H a xs /\ IsAll X.K H ds xs := by simpa only [Is] using h
    obtain ⟨a,xs,rfl,hq,ha⟩ := h'
    cases (show u = Value.ref a from r)
    obtain ⟨its,rv,⟨o,n,e,hc,_,hd⟩,_⟩ := I.list hq; obtain ⟨as,ra⟩ := IsAll.reads I ds xs its ha rv; exact ⟨_,.list e hc hd (by simpa using ra)⟩
  | .tuple ds,v,u,h,r => by
    have h' : ∃ a xs,v = .ref a /\ SqT X.K H a xs /\ IsAll X.K H ds xs := by simpa only [Is] using h
    obtain ⟨a,xs,rfl,hq,ha⟩ := h'
    cases (show u = Value.ref a from r)
    obtain ⟨its,rv,⟨o,e,hc,n,hd⟩,_⟩ := I.tuple hq; obtain ⟨as,ra⟩ := IsAll.reads I ds xs its ha rv; exact ⟨_,.tuple e hc hd (by simpa using ra)⟩
  | .dict _,v,u,h,r => by
    have h' : False := by simpa only [Is] using h
    exact h'.elim
theorem IsAll.reads (I : Inv X pins σ H s) : ∀ (ds : List PyData) (xs : List V) (us : List Value),IsAll X.K H ds xs -> Vals xs us -> ∃ as,ReadsAll s.heap us ds as
  | [],xs,us,h,r => by
    have h' : xs = [] := by simpa only [IsAll] using h
    subst h'; cases r; exact ⟨_,.nil⟩
  | d :: ds,xs,us,h,r => by
    have h' : ∃ y ys,xs = y :: ys /\ Is X.K H d y /\ IsAll X.K H ds ys := by simpa only [IsAll] using h
    obtain ⟨y,ys,rfl,h1,h2⟩ := h'
    cases r with
    | cons r1 r2 =>
      obtain ⟨as,q1⟩ := Is.reads I d y _ h1 r1; obtain ⟨bs,q2⟩ := IsAll.reads I ds ys _ h2 r2; exact ⟨_,.cons q1 q2⟩
end
end
mutual
/-- neither bools nor dicts -/
def zb1 : PyData -> Bool
  | .bool _ => false
  | .dict _ => false
  | .list ds => zc1 ds
  | .tuple ds => zc1 ds
  | .none => true
  | .int _ => true
  | .str _ => true
def zc1 : List PyData -> Bool
  | [] => true
  | d :: ds => zb1 d && zc1 ds
end
mutual
theorem ze8 : ∀ d e : PyData,zb1 d = true -> zb1 e = true -> noMix d e = true
  | .bool _,_,h,_ => by simp [zb1] at h
  | .dict _,_,h,_ => by simp [zb1] at h
  | .none,e,_,h => by cases e <;> simp_all [noMix,zb1]
  | .int _,e,_,h => by cases e <;> simp_all [noMix,zb1]
  | .str _,e,_,h => by cases e <;> simp_all [noMix,zb1]
  | .list ds,e,h,h' => by
    cases e with
    | list es => simp only [noMix]; simp only [zb1] at h h'; exact zbV ds es h h'
    | bool _ => simp [zb1] at h'
    | dict _ => simp [zb1] at h'
    | _ => simp [noMix]
  | .tuple ds,e,h,h' => by
    cases e with
    | tuple es => simp only [noMix]; simp only [zb1] at h h'; exact zbV ds es h h'
    | bool _ => simp [zb1] at h'
    | dict _ => simp [zb1] at h'
    | _ => simp [noMix]
theorem zbV : ∀ ds es : List PyData,zc1 ds = true -> zc1 es = true -> noMixAll ds es = true
  | [],es,_,_ => by cases es <;> simp [noMixAll]
  | d :: ds,[],_,_ => by simp [noMixAll]
  | d :: ds,e :: es,h,h' => by
    simp only [zc1,Bool.and_eq_true] at h h'; simp only [noMixAll,Bool.and_eq_true]; exact ⟨ze8 d e h.1 h'.1,zbV ds es h.2 h'.2⟩
end
def Cmp (d : PyData) : Prop := SeqAt.shaped d = true /\ zb1 d = true
section
variable {X : Cx}
def zkk (K : Fg) : R2 := fun x y H Q => ∃ d e,Is K H d x /\ Is K H e y /\ Cmp d /\ Cmp e /\ Q (.bl (same d e)) H
theorem ziT (hu : X.A.units + 64 < cLine) : OpR X (compareOp .Eq) (zkk X.K) := by
  intro pins s σ H x y v u Q I rx ry h; obtain ⟨d,e,h1,h2,c1,c2,q⟩ := h; obtain ⟨as,ra⟩ := Is.reads I d x v h1 rx; obtain ⟨bs,rb⟩ := Is.reads I e y u h2 ry; exact eq_dataH_same ra rb c1.1 c2.1 hu (ze8 d e c1.2 c2.2) ⟨.bl _,H,I,rfl,q⟩
def zkM (K : Fg) : List V -> Hp -> VK -> Prop := fun xs H Q => ∃ x T t b,xs = [x,.ty T] /\ TyOf K H x t /\ PySem.W.kitOne K t (.type T) = some b /\ Q (.bl b) H
theorem zaR : CallR X (.builtin "isinstance") (zkM X.K) := by
  intro pins s σ H xs us Q I r h; obtain ⟨x,T,t,b,rfl,ty,e,q⟩ := h; obtain ⟨u,w',rfl,rx,rt⟩ := zg5 r
  cases (show w' = Value.type T from rt)
  exact zgA I rx ty e fun tk => ⟨.bl b,H,I.tok tk,rfl,q⟩
theorem zd8 : CallR X (.type "int") (fun xs H Q => ∃ x n,xs = [.str x] /\ PySem.intText? x = some n /\ x.length <= 640 /\ Q (.int n) H) := by
  intro pins s σ H xs us Q I r h; obtain ⟨x,n,rfl,e,hl,q⟩ := h; obtain ⟨u,rfl,t,rfl⟩ := zda r; exact PySem.W.KIN.call_text e hl ⟨.int n,H,I.tok _,⟨_,rfl⟩,q⟩
def zjz (x : Str) (n : Nat) : Str := ⟨(List.replicate n x.cps).foldl (· ++ ·) #[]⟩
theorem zhT : OpR X (binaryOp .Mult) (fun x y H Q => ∃ z n,x = .str z /\ y = .int n /\ 2 <= n /\ n <= 10000 /\ z.length = 1 /\ (zjz z n.toNat).length <= sizeLine /\ Q (.str (zjz z n.toNat)) H) := by
  intro pins s σ H x y v u Q I rx ry h; obtain ⟨z,n,rfl,rfl,h2,hn,hz,hl,q⟩ := h; obtain ⟨t,rfl⟩ := rx; obtain ⟨t',rfl⟩ := ry; have c1 : ¬ n < 1 := by omega
  have c2 : (n == 1 || z.length == 0) = false := by
    rw [hz]; have : (n == 1) = false := by simpa using (show n ≠ 1 by omega)
    rw [this]; rfl
  have hs : sizeLine = 16777216 := sizeLine_eq; refine PySem.P.mul_str ?_ (fun _ _ => ?_) (fun _ _ => ?_) ?_
  . rw [decide_eq_false (show ¬ n < -(2 ^ 63 : Int) by omega),decide_eq_false (show ¬ n ≥ 2 ^ 63 by omega)]; rfl
  . rw [hz]; intro hgt
    have h3 : ((2 ^ 63 - 1 : Int) / n) ≥ 1 := by
      have : (n : Int) * 1 <= 2 ^ 63 - 1 := by omega
      exact Int.le_ediv_of_mul_le (by omega) (by omega)
    have h4 : ((1 : Nat) : Int) > (2 ^ 63 - 1) / n := hgt; omega
  . rw [hz,Nat.one_mul]; unfold Builtin.Str.tooLong; exact decide_eq_false (by omega)
  . rw [if_neg c1,if_neg (by rw [c2]; decide)]
    exact ⟨hl,⟨.str _,H,I.tok _,⟨_,rfl⟩,q⟩⟩
end
structure Fn (P : Program) (w : World) (K : Fg) (mg : Str -> Option Value) (base : Heap) (x : Str) (k : Nat) (sp : Sp) : Prop where
  ex : ∃ (f : Addr) (fd : FuncData) (ps : List Str),FnOk P w K mg base CX0 k f fd ps sp /\ mg x = some (.ref f) /\ PySem.W.keepIn K (.ref f) = true /\ Binds K fd ps []
theorem Fn.mk' {P : Program} {w : World} {K : Fg} {mg : Str -> Option Value} {base : Heap} {x : Str} {k : Nat} {sp : Sp} {f : Addr} {fd : FuncData} {ps : List Str} (ok : FnOk P w K mg base CX0 k f fd ps sp) (m : mg x = some (.ref f))
    (kp : PySem.W.keepIn K (.ref f) = true) (b : Binds K fd ps []) : Fn P w K mg base x k sp := ⟨f,fd,ps,ok,m,kp,b⟩
theorem zhf {K : Fg} : PySem.W.kitOne K (.type "int") (.type "int") = some true := by rfl
theorem zgU {K : Fg} : PySem.W.kitOne K (.type "int") (.type "bool") = some false := by rfl
theorem zhv {K : Fg} : PySem.W.kitOne K (.type "list") (.type "list") = some true := by rfl
section
variable {X : Cx}
theorem zhL (K : Fg) (h : X.K = K := by rfl) : IxR X (zjU K) := h ▸ zaA
end
theorem zcU {c A B : Prop} [Decidable c] (h : ¬ c) (b : B) : if c then A else B := by rw [if_neg h]; exact b
theorem zdh {c A B : Prop} [Decidable c] (h : c) (a : A) : if c then A else B := by rw [if_pos h]; exact a
theorem zhI {c A B : Prop} [Decidable c] (h : ¬ c) (b : B) : if decide c = true then A else B := zcU (by rw [decide_eq_true_eq]; exact h) b
theorem zjA {c A B : Prop} [Decidable c] (h : c) (a : A) : if decide c = true then A else B := zdh (decide_eq_true h) a
theorem zjY {c A B : Prop} [Decidable c] (h1 : c -> A) (h2 : ¬ c -> B) : if decide c = true then A else B := by
  by_cases h : c
  . exact zjA h (h1 h)
  . exact zhI h (h2 h)
theorem at0 {α : Type} {x : α} {r : List α} : atI (x :: r) 0 = some x := zbn (j := 0) rfl
theorem at1 {α : Type} {x y : α} {r : List α} : atI (x :: y :: r) 1 = some y := zbn (j := 1) rfl
theorem at2 {α : Type} {x y z : α} {r : List α} : atI (x :: y :: z :: r) 2 = some z := zbn (j := 2) rfl
theorem at3 {α : Type} {x y z w : α} {r : List α} : atI (x :: y :: z :: w :: r) 3 = some w := zbn (j := 3) rfl
theorem zcT {α : Type} {xs : List α} {i : Int} (h0 : 0 <= i) (h1 : i < xs.length) : ∃ v,atI xs i = some v /\ xs[i.toNat]? = some v := by
  have hl : i.toNat < xs.length := by omega
  refine ⟨xs[i.toNat],?_,by simp [hl]⟩
  have e : ((i.toNat : Nat) : Int) = i := by omega
  have := zbn (j := i.toNat) (v := xs[i.toNat]) (xs := xs) (by simp [hl])
  rw [e] at this; exact this
theorem Same.upd {H : Hp} {a : Addr} {o : HO} (h : H a = none) : Same H (L2.upd H a o) := fun b u e => by rw [zax (zaX e h)]; exact e
theorem Same.tup {K : Fg} {H H' : Hp} {a : Addr} {xs : List V} (e : Same H H') (h : SqT K H a xs) : SqT K H' a xs := by
  rcases h with (h | ⟨o,h⟩) | h
  . exact .inl (.inl (e _ _ h))
  . exact .inl (.inr ⟨o,e _ _ h⟩)
  . exact .inr h
def zb3 (h : Heap) (e T : Addr) (C fl : Value) : Prop :=
  ∃ oe vs oT ts a0,h.get? e = some oe /\ (oe.cls = C /\ vs[0]? = some a0) /\ oe.data = .fields vs /\ vs[1]? = some (.ref T) /\ T ≠ e /\ h.get? T = some oT /\ oT.data = .fields ts /\ ts[3]? = some fl
def zia (h : Heap) (e : Addr) (C : Value) : Prop := ∃ oe vs a0,h.get? e = some oe /\ (oe.cls = C /\ vs[0]? = some a0) /\ oe.data = .fields vs /\ vs[1]? = some .none
structure Fl (fr Z : List Addr) (h h' : Heap) : Prop where
  keep : ∀ b o,b ∉ Z -> b ∉ fr -> h.get? b = some o -> h'.get? b = some o
  slot : ∀ b o,b ∈ fr -> h.get? b = some o -> ∃ sl,h'.get? b = some { o with slots := sl }
structure Ls (X : Cx) (pins : List (Addr × Obj)) (H : Hp) (z : Addr) : Prop where
  un : H z = none
  new : X.s₀.heap.get? z = none
  loc : z ≠ X.env.locals
  cell : ∀ x c,X.env.cells.lookup x = some c -> c ≠ z
  pin : ∀ p ∈ X.pn ++ pins,p.1 ≠ z
theorem ObjOk.here {P : Program} {w : World} {H : Hp} {h : Heap} {a : Addr} {o : HO} (x : ObjOk P w H h a o) : ∃ ob,h.get? a = some ob := by
  cases o with
  | lst xs => obtain ⟨_,_,_,_,e⟩ := x; exact ⟨_,e⟩
  | tup xs => obtain ⟨_,_,_,_,e,_⟩ := x; exact ⟨_,e⟩
  | dK kvs => obtain ⟨_,_,_,_,o,_,_,e,_⟩ := x; exact ⟨_,e⟩
  | dT kvs => obtain ⟨_,_,_,_,o,_,_,e,_⟩ := x; exact ⟨_,e⟩
  | set S n => obtain ⟨o,_,_,_,e,_⟩ := x; exact ⟨_,e⟩
  | ins C dx fs => obtain ⟨_,_,_,e,_⟩ := x; exact ⟨_,e⟩
  | own y => obtain ⟨_,e⟩ := x; exact ⟨_,e⟩
  | xd fs => obtain ⟨_,⟨_,_,_,e,_⟩,_⟩ := x; exact ⟨_,e⟩
  | rng lo hi => obtain ⟨_,_,_,e⟩ := x; exact ⟨_,e⟩
  | frz ob u => obtain ⟨e,_⟩ := x; exact ⟨_,e⟩
  | tbl ps => exact ⟨_,(show h.get? a = some _ from x)⟩
  | met f y => exact ⟨_,(show h.get? a = some _ from x)⟩
  | ext φ => obtain ⟨_,⟨_,e⟩,_⟩ := x; exact ⟨_,e⟩
section
variable {X : Cx} {pins : List (Addr × Obj)} {σ : St} {H : Hp} {s : Shared} {h' : Heap}
theorem Inv.old {z : Addr} (I : Inv X pins σ H s) (hz : s.heap.get? z = none) (hx : z ∉ X.ex) : X.s₀.heap.get? z = none := by
  cases e : X.s₀.heap.get? z with
  | none => rfl
  | some o => obtain ⟨o',q⟩ := I.base.there z o e hx; rw [hz] at q; cases q
theorem Inv.un' {z : Addr} (I : Inv X pins σ H s) (hz : s.heap.get? z = none) : H z = none := by
  cases e : H z with
  | none => rfl
  | some o => obtain ⟨ob,q⟩ := (I.hok z o e).here; rw [hz] at q; cases q
theorem Inv.ls {z : Addr} (I : Inv X pins σ H s) (hz : s.heap.get? z = none) (hx : z ∉ X.ex) : Ls X pins H z := by
  refine ⟨I.un' hz,I.old hz hx,fun q => ?_,fun x c e q => ?_,fun p hp q => ?_⟩
  . obtain ⟨m,⟨o,_,_,ho,_⟩,_⟩ := I.loc; rw [<- q,hz] at ho; cases ho
  . obtain ⟨v,o,ho,_⟩ := I.cell x c e; rw [q,hz] at ho; cases ho
  . have := (I.pin p hp).1; rw [q,hz] at this; cases this
theorem Inv.fly {Z : List Addr} (I : Inv X pins σ H s) (hz : ∀ z ∈ Z,Ls X pins H z) (f : Fl (frs X.stack) Z s.heap h') : Inv X pins σ H { s with heap := h' } := by
  have tr : ∀ b o,H b = some o -> b ∉ Z /\ b ∉ frs X.stack := fun b o e => by
    refine ⟨fun q => ?_,fun q => ?_⟩
    . have := (hz b q).un; rw [e] at this; cases this
    . have := I.stkFree b q; rw [e] at this; cases this
  have any : ∀ b o,b ∉ Z -> s.heap.get? b = some o -> ∃ sl,h'.get? b = some { o with slots := sl } := fun b o hb e => by
    by_cases q : b ∈ frs X.stack
    . exact f.slot b o q e
    . exact ⟨o.slots,f.keep b o hb q e⟩
  have nz : ∀ b o,X.s₀.heap.get? b = some o -> b ∉ Z := fun b o e q => by rw [(hz b q).new] at e; cases e
  have nL : ∀ b o,X.s₀.heap.get? b = some o -> b ≠ X.env.locals := fun b o e => Nat.ne_of_lt (Nat.lt_of_lt_of_le (Heap.lt_size e) I.ok.above); have nf : ∀ b,b ≠ X.env.locals -> b ∉ X.fs -> b ∉ frs X.stack := fun b h1 h2 q => (List.mem_cons.mp (I.stkSub b q)).elim h1 h2
  have cK : ∀ x c,X.env.cells.lookup x = some c -> ∀ v,s.heap.IsCell c v -> h'.IsCell c v := fun x c e v ⟨o,ho,hd⟩ => by
    obtain ⟨sl,q⟩ := any c o (fun q => (hz c q).cell x c e rfl) ho; exact ⟨_,q,hd⟩
  refine ⟨I.ok,I.os,I.bare,⟨fun b o e n hb hx => f.keep b o (nz b o e) (nf b (nL b o e) hb) (I.base.keep b o e n hb hx),fun b o e n hb hx => ?_,I.base.free,fun b o e hx => ?_,I.base.tups,I.base.frzs,I.base.tbls⟩,?_,fun x c e => ?_,I.free,I.freeC,fun p hp => ?_,
    fun a o e => (I.hok a o e).stay (fun b u hb q => ?_) (fun _ q => q) fun _ _ q => q,I.len⟩
  . obtain ⟨sl,e1⟩ := I.base.slot b o e n hb hx; obtain ⟨sl',e2⟩ := any b _ (nz b o e) e1; exact ⟨sl',e2⟩
  . obtain ⟨o',e1⟩ := I.base.there b o e hx; obtain ⟨sl',e2⟩ := any b _ (nz b o e) e1; exact ⟨_,e2⟩
  . obtain ⟨m,⟨o,es,ep,ho,r⟩,hl⟩ := I.loc; obtain ⟨sl,q⟩ := any _ o (fun q => (hz _ q).loc rfl) ho; refine ⟨m,⟨_,es,ep,q,r⟩,fun i x v e1 e2 e3 => ?_⟩; obtain ⟨u,rv,l⟩ := hl i x v e1 e2 e3; refine ⟨u,rv,?_⟩
    rcases l with l | ⟨k,c,e,z⟩
    . exact .inl l
    . exact .inr ⟨k,c,e,cK x c e _ z⟩
  . obtain ⟨v,z⟩ := I.cell x c e; exact ⟨v,cK x c e v z⟩
  . obtain ⟨e,n,ne,nfs,d⟩ := I.pin p hp; exact ⟨f.keep p.1 p.2 (fun q => (hz _ q).pin p hp rfl) (nf _ ne nfs) e,n,ne,nfs,d⟩
  . rcases hb with rfl | hb
    . exact f.keep b u (tr b o e).1 (tr b o e).2 q
    . exact f.keep b u (tr b _ hb).1 (tr b _ hb).2 q
end
section
variable {M : Model} {A : Around} {E : Value -> Shared -> Prop} {s : Shared} {base : Heap} {l : List Env}
theorem zaF {h h0 : Heap} {Z : List Addr} : ∀ {l : List Env},h.FunFrames h0 l -> (∀ b ∈ frs l,b ∈ Z) -> h.FunFrames (PySem.W.hideAll h Z) l
  | [],_,_ => trivial
  | env :: r,⟨k,⟨L,o,e1,_,e3,e4⟩,q⟩,hz => by
    have hm : ∀ b ∈ frs r,b ∈ frs (env :: r) := fun b hb => by unfold frs; rw [List.filterMap_cons,e1]; exact List.mem_cons_of_mem _ hb
    exact ⟨k,⟨L,o,e1,PySem.W.hideAll_none _ (hz L (by unfold frs; rw [List.filterMap_cons,e1]; exact List.mem_cons_self ..)),e3,e4⟩,zaF q fun b hb => hz b (hm b hb)⟩
theorem zay {h h0 : Heap} : ∀ {l : List Env},h.FunFrames h0 l -> ∀ b ∈ frs l,∃ o,h.get? b = some o /\ ∀ vs,o.data ≠ .fields vs
  | env :: r,⟨_,⟨L,o,e1,_,e3,e4⟩,q⟩,b,hb => by
    unfold frs at hb; rw [List.filterMap_cons,e1] at hb
    rcases List.mem_cons.mp hb with rfl | hb
    . exact ⟨o,e3,e4⟩
    . exact zay q b hb
theorem zek {h h' : Heap} {Z fr : List Addr} (k : (PySem.W.hideAll h (Z ++ fr)).StaysIn h') (fm : ∀ b ∈ fr,∃ o,h.get? b = some o /\ ∀ vs,o.data ≠ .fields vs)
    (sl : ∀ b o,h.get? b = some o -> (∀ vs,o.data ≠ .fields vs) -> ∃ sl,h'.get? b = some { o with slots := sl }) : Fl fr Z h h' :=
  ⟨fun b o h1 h2 e => k b o (PySem.W.hideAll_get _ e fun q => (List.mem_append.mp q).elim h1 h2),fun b o hb e => by
    obtain ⟨o',e1,e2⟩ := fm b hb; rw [e] at e1; cases e1
    exact sl b o e e2⟩
end
section
variable {X : Cx} {pins : List (Addr × Obj)} {σ : St} {H : Hp} {s : Shared} {e : Addr} {C : Value} {Q : Unit -> Shared -> Prop} {E : Value -> Shared -> Prop}
structure Own (X : Cx) : Prop where
  stk : X.stack = X.env :: X.outer
  fr : X.env.frame = some X.env.locals
  ex : X.ex = []
def Up (X : Cx) (pins : List (Addr × Obj)) (H : Hp) (h : Heap) (e : Addr) (C : Value) : Prop := ∃ T fl,Ls X pins H T /\ (fl = .none \/ fl = rawInt X.env.locals) /\ zb3 h e T C fl
theorem zbJ {Z : List Addr} {h' : Heap} {T : Addr} {oT : Obj} {ts : Array Value} (I : Inv X pins σ H s) (O : Own X) (hz : ∀ z ∈ Z,Ls X pins H z) (f : Fl (frs X.stack) Z s.heap h') (hn : (PySem.W.hideAll s.heap (Z ++ frs X.stack)).get? T = none)
    (hT : h'.get? T = some oT) (hd : oT.data = .fields ts) : Ls X pins H T := by
  cases q : s.heap.get? T with
  | none => exact I.ls q (by rw [O.ex]; simp)
  | some o =>
    by_cases hm : T ∈ Z ++ frs X.stack
    . rcases List.mem_append.mp hm with hm | hm
      . exact hz T hm
      . exfalso; obtain ⟨o',e1,e2⟩ := zay I.stack T hm; rw [q] at e1; cases e1; obtain ⟨sl,e3⟩ := f.slot T o hm q; rw [hT] at e3; cases e3; exact e2 ts hd
    . rw [PySem.W.hideAll_get _ q hm] at hn; cases hn
theorem zfz (I : Inv X pins σ H s) (O : Own X) (le : Ls X pins H e) (hm : zia s.heap e C \/ Up X pins H s.heap e C)
    (hq : ∀ h' T,Inv X pins σ H { s with heap := h' } -> Ls X pins H T -> zb3 h' e T C .none -> Q () { s with heap := h' }) : wpAny (model X.prog X.w) X.A («leaving» X.env (.ref e)) Q E s := by
  have hfr : X.A.frames = some (X.env :: X.outer) := O.stk ▸ I.ok.frames; have stk := I.stack
  rcases hm with ⟨oe,vs,a0,he,⟨hc,h0⟩,hd,h1⟩ | ⟨T,fl,lT,hfl,oe,vs,oT,ts,a0,he,⟨hc,h0⟩,hd,h1,hTe,hT,hdT,h3⟩
  . have hz : ∀ z ∈ [e],Ls X pins H z := fun z hz => by rw [List.mem_singleton.mp hz]; exact le
    refine wpAny_leaving_firstW (base := PySem.W.hideAll s.heap ([e] ++ frs X.stack)) (a0 := a0) hfr (by rw [<- O.stk]; exact zaF stk fun b hb => List.mem_append_right _ hb) O.fr he (fun b o q => PySem.W.of_hideAll _ q) (PySem.W.hideAll_none _ (by simp)) hd h1 h0 fun h' hL => ?_
    obtain ⟨x1,_,⟨oe',vs',T,oT,ts,y1,y2,y3,y4,y5,y6,y7,y8,y9⟩,x4⟩ := hL; have f : Fl (frs X.stack) [e] s.heap h' := zek x1 (zay stk) x4; exact hq h' T (I.fly hz f) (zbJ I O hz f y5 y7 y8) ⟨oe',vs',oT,ts,a0,y1,⟨y2.1.trans hc,y2.2⟩,y3,y4,y6,y7,y8,y9⟩
  . have hz : ∀ z ∈ [e,T],Ls X pins H z := fun z hz => by
      rcases List.mem_cons.mp hz with rfl | hz
      . exact le
      . rw [List.mem_singleton.mp hz]; exact lT
    rcases hfl with rfl | rfl
    . refine wpAny_leaving_nextW (base := PySem.W.hideAll s.heap ([e,T] ++ frs X.stack)) (cls := C) (a0 := a0) hfr (by rw [<- O.stk]; exact zaF stk fun b hb => List.mem_append_right _ hb) O.fr
        ⟨oe,vs,T,oT,ts,he,⟨hc,h0⟩,hd,h1,PySem.W.hideAll_none _ (by simp),hTe,hT,hdT,h3⟩ (fun b o q => PySem.W.of_hideAll _ q) (PySem.W.hideAll_none _ (by simp)) fun h' hL => ?_
      obtain ⟨x1,_,⟨oe',vs',T',oT',ts',y1,y2,y3,y4,y5,y6,y7,y8,y9⟩,x4⟩ := hL; have f : Fl (frs X.stack) [e,T] s.heap h' := zek x1 (zay stk) x4; exact hq h' T' (I.fly hz f) (zbJ I O hz f y5 y7 y8) ⟨oe',vs',oT',ts',a0,y1,y2,y3,y4,y6,y7,y8,y9⟩
    . unfold «leaving»; refine wpAny_bind (wpAny_noteFrame_againW (base := PySem.W.hideAll s.heap ([e,T] ++ frs X.stack)) (cls := C) (a0 := a0) O.fr ⟨oe,vs,T,oT,ts,he,⟨hc,h0⟩,hd,h1,PySem.W.hideAll_none _ (by simp),hTe,hT,hdT,h3⟩ ?_)
      refine wpAny_setFlight_noneW (base := PySem.W.hideAll s.heap ([e,T] ++ frs X.stack)) (l := X.stack) (cls := C) (a0 := a0) (fl := rawInt X.env.locals) (fun b o q => PySem.W.of_hideAll _ q) (zaF stk fun b hb => List.mem_append_right _ hb)
        ⟨oe,vs,T,oT,ts,he,⟨hc,h0⟩,hd,h1,PySem.W.hideAll_none _ (by simp),hTe,hT,hdT,h3⟩ fun h2 z1 _ ⟨oe2,vs2,T2,oT2,ts2,u1,u2,u3,u4,u5,u6,u7,u8,u9⟩ z4 => ?_
      have f2 : Fl (frs X.stack) [e,T] s.heap h2 := zek z1 (zay stk) fun b o q n => ⟨o.slots,z4 b o q n⟩; exact hq h2 T2 (I.fly hz f2) (zbJ I O hz f2 u5 u7 u8) ⟨oe2,vs2,oT2,ts2,a0,u1,u2,u3,u4,u6,u7,u8,u9⟩
end
def CX1 (P : Program) (w : World) : CXT := fun outer H s E x s' => ∃ e T C H',x = .ref e /\ s'.os = s.os /\ AllBare s'.gens /\ Un (frs outer) [] H H' s.heap s'.heap /\ HOk P w H' s'.heap ∧
  (H' e = none /\ s.heap.get? e = none) /\ (H' T = none /\ s.heap.get? T = none) /\ zb3 s'.heap e T C .none /\ E C none H'
def XQ (X : Cx) (E : XK) (x : Value) (s' : Shared) : Prop := ∃ pins σ H e C,x = .ref e /\ Inv X pins σ H s' /\ Ls X pins H e /\ (zia s'.heap e C \/ Up X pins H s'.heap e C) /\ E C none H
section
variable {P : Program} {w : World} {K : Fg} {mg : Str -> Option Value} {base : Heap} {N : List Str} {qual : Str} {scope : Scope} {f : Addr} {cd : Value} {A : Around} {outer : List Env} {s : Shared} {H : Hp} {E : XK}
theorem own_cx {CX : CXT} : Own (zdj CX P w K mg base N qual scope f cd A outer s H E) := ⟨rfl,rfl,rfl⟩
theorem zgT {x : Value} {s' : Shared} (h : XQ (zdj (CX1 P w) P w K mg base N qual scope f cd A outer s H E) E x s') : (zdj (CX1 P w) P w K mg base N qual scope f cd A outer s H E).xe x s' := by
  obtain ⟨pins,σ,H',e,C,rfl,I,le,hm,q⟩ := h; refine zfz I own_cx le hm fun h' T I' lT fl => ?_; exact ⟨e,T,C,H',rfl,I'.os,I'.bare,I'.base,I'.hok,⟨le.un,le.new⟩,⟨lT.un,lT.new⟩,fl,q⟩
end
section
variable {X : Cx} {E : XK}
theorem Ls.unwish {pins : List (Addr × Obj)} {H : Hp} {z : Addr} {F : Value -> Shared -> Prop} (l : Ls (X.wish F) pins H z) : Ls X pins H z := ⟨l.un,l.new,l.loc,l.cell,l.pin⟩
theorem XQ.unwish {F : Value -> Shared -> Prop} {x : Value} {s' : Shared} (h : XQ (X.wish F) E x s') : XQ X E x s' := by
  obtain ⟨pins,σ,H,e,C,rfl,I,le,hm,q⟩ := h; exact ⟨pins,σ,H,e,C,rfl,I.unwish,le.unwish,hm.imp id fun ⟨T,f,lT,hf,fl⟩ => ⟨T,f,lT.unwish,hf,fl⟩,q⟩
theorem zga {F : Value -> Shared -> Prop} (O : Own X) (hF : ∀ x s',XQ X E x s' -> X.xe x s') : zbW (CX1 X.prog X.w) X E := fun pins σ H s x s' I h => by
  obtain ⟨e,T,C,H',rfl,os,bare,un,hok,⟨e1,e2⟩,⟨t1,t2⟩,fl,q⟩ := h; have I' : Inv X pins σ H' s' := I.call' os un hok bare fun b z => nomatch z
  have ls : ∀ z,H' z = none -> s.heap.get? z = none -> Ls X pins H' z := fun z h1 h2 => by
    have l := I.ls h2 (by rw [O.ex]; simp)
    exact ⟨h1,l.new,l.loc,l.cell,l.pin⟩
  exact hF _ _ ⟨pins,σ,H',e,C,rfl,I',ls e e1 e2,.inr ⟨T,_,ls T t1 t2,.inl rfl,fl⟩,q⟩
end
theorem zio {K : Fg} {h : Heap} {C : Addr} {bmB : List Value} {newId : String} (X : K.In h) (q : PySem.W.excIn K C bmB newId = true) :
    ∃ bm N nm q bs hdct sn sub ab col dd k0 k1 k2 k3 k5 mN,h.get? C = some (excClassObj nm q C N bs bm hdct sn sub ab col dd k0 k1 k2 k3 k5 newId) /\ h.Ns N mN /\ mN "__init__" = none /\ OwnTail h bmB bm := by
  unfold PySem.W.excIn at q
  split at q
  case h_2 => cases q
  case h_1 d₁ data₁ slots₁ there =>
    split at q
    case h_2 => cases q
    case h_1 C₁ tail₁ a₀ a₁ a₂ a₃ new₁ a₅ mroIs slotsAre =>
      rw [Bool.and_eq_true,Bool.and_eq_true,Bool.and_eq_true,Bool.and_eq_true,Bool.and_eq_true] at q; obtain ⟨⟨⟨⟨⟨q1,q2⟩,q3⟩,q4⟩,q5⟩,q6⟩ := q
      cases eq_of_beq q1
      cases eq_of_beq q2
      obtain ⟨y1,y2,y3,y4,y5,y6,y7,y8,y9,y10,y11⟩ := data₁; dsimp only at mroIs q3 q5 q6; subst mroIs; have y11' : y11 = false := by simpa using q3
      subst y11'; have sl' : slots₁ = #[a₀,a₁,a₂,a₃,some (.builtin newId),a₅] := by cases slots₁; simp only at slotsAre; rw [slotsAre]
      subst sl'; exact ⟨_,_,_,_,_,_,_,_,_,_,_,_,_,_,_,_,_,X _ _ there,.of_isNs (PySem.W.isNs_of_in X q5),PySem.W.nsMap_none_of_in X q5 (eq_of_beq q6),PySem.W.tail_of_in X q4⟩
structure zjF (K : Fg) (mg : Str -> Option Value) (x : Str) (C : Addr) : Prop where
  bound : mg x = some (.ref C)
  inK : PySem.W.excIn K C [.type "ValueError",.type "Exception",.type "BaseException",.type "object"] "ValueError.__new__" = true
def ziJ (C : Addr) (E : XK) (t : TA) : TS := fun _ σ H => t σ H fun vs H1 => vs.length <= 1000 /\ E (.ref C) none H1
section
variable {X : Cx} {E : XK} {x : Str} {C : Addr} {np cpos pos : Pos} {e₀ : Expr} {es : List Expr} {t : TA}
theorem zcH (k : zjF X.K X.mg x C) (hE : ∀ y s',XQ X E y s' -> X.xe y s') (hx : X.ex = []) (hg : Gl X x) (ha : PA X (e₀ :: es) t) (hc : X.calm = true)
    (he : starEach (e₀ :: es) X.env = (false,eval e₀ X.env) :: starEach es X.env := by rfl) (hpl : (backTo cpos (starEach es X.env)).any (·.1) = false := by rfl) (hd : (x == ("__debug__" : Str)) = false := by decide) :
    PS X (.Raise (some (.Call (.Name x np) (e₀ :: es) [] cpos)) none pos) (ziJ C E t) := by
  intro pins s σ H D I h; obtain ⟨bm,N,nm,q,bs,hdct,sn,sub,ab,col,dd,k0,k1,k2,k3,k5,mN,hC,hN,hni,T⟩ := zio I.mod.kin k.inK
  refine wpAny_Raise_call_subU PySem.F.excBase_ValueError (by decide) PySem.F.excBase_ValueError (C := C) (N := N) (nm := nm) (q := q) (bs := bs) (bm := bm) (hdct := hdct) (sn := sn) (sub := sub) (ab := ab) (col := col) (dd := dd) (k0 := k0) (k1 := k1) (k2 := k2) (k3 := k3) (k5 := k5) (mN := mN)
    (T.hasType (X := "BaseException") (b := true) (by decide)) (I.ok.hd hc) (by rw [he]; show (false || (backTo cpos (starEach es X.env)).any (·.1)) = false; rw [hpl]; rfl) hni ?_
  refine zcK I hg k.bound ⟨rfl,?_⟩ hd; have h2 := ha cpos pins s σ H _ I h; rw [he] at h2 ⊢; refine Calls.evalArgs_plain (thn h2 fun us s2 ⟨vs,H2,I2,r,hl,w⟩ => ?_); refine ⟨rfl,?_,I2.bk _ _ hC,hN.keeps I2.bk,T.keeps I2.bk,fun h' e hm => ?_⟩
  . rw [show us.length = vs.length from r.length.symm]; exact Nat.le_of_lt (zgf hl)
  . obtain ⟨t,he,_,_⟩ := hm.there; exact hE _ _ ⟨pins,σ,H2,e,.ref C,rfl,I2.kept (t' := s2.toks) hm.keeps,I2.ls hm.new (by rw [hx]; simp),.inl ⟨_,_,_,he,⟨rfl,rfl⟩,rfl,rfl⟩,w⟩
end
theorem Fun.okX {P : Program} {w : World} {K : Fg} {mg : Str -> Option Value} {base : Heap} {x qual : Str} {st : Stmt} {f : Addr} {fd : FuncData} {N ps : List Str} {k : Nat} {sp : Sp} (F : Fun K x qual st f fd) (S : zap N ps (zaf st)) (len : ∀ vs H Q E,sp vs H Q E -> vs.length = ps.length)
    (hbody : ∀ (cdv : Value) (A : Around) (outer : List Env) (s : Shared) (H : Hp) (vs : List V) (Q : VK) (E : XK),Room k (A.deeper (envOfC qual (zaf st) s.heap.objs.size f cdv)) -> sp vs H Q E →
      ∃ t,PSs ((zdj (CX1 P w) P w K mg base N qual (zaf st) f cdv A outer s H E).wish (XQ (zdj (CX1 P w) P w K mg base N qual (zaf st) f cdv A outer s H E) E)) (zaS st) t /\ t { nx := fun _ H' => Q .non H',rt := Q } (zcN N vs) H) :
    FnOk P w K mg base (CX1 P w) (k + 1) f fd ps sp := by
  obtain ⟨oc,od,kV,doc,pm,an,cdv,ct,osl,rfl,lk,hcd⟩ := F.ex; refine zix lk hcd S len fun A outer s H vs Q E hr hsp => ?_; obtain ⟨t,h,q⟩ := hbody cdv A outer s H vs Q E hr hsp; exact ⟨t,fun pins s σ H D I hw => wpAny_mono (h pins s σ H D (I.wish _) hw) (fun _ _ q => q.unwish) fun _ _ z => zgT z,q⟩
theorem FnOk.calm {P : Program} {w : World} {K : Fg} {mg : Str -> Option Value} {base : Heap} {CX : CXT} {k : Nat} {f : Addr} {fd : FuncData} {ps : List Str} {sp : Sp} (F : FnOk P w K mg base CX0 k f fd ps sp) : FnOk P w K mg base CX k f fd ps sp :=
  ⟨F.len,fun A outer s H args us vs Q E hr he hb hv hs => codeAny_mono (F.run A outer s H args us vs Q E hr he hb hv hs) fun r s' h => by
    cases r with
    | ok f => cases f <;> exact h
    | error e => exact False.elim h⟩
theorem zcb {X : Cx} {E : XK} : ∀ y s',XQ (X.wish (XQ X E)) E y s' -> (X.wish (XQ X E)).xe y s' := fun _ _ h => h.unwish
theorem Own.wish {X : Cx} {F : Value -> Shared -> Prop} (O : Own X) : Own (X.wish F) := ⟨O.stk,O.fr,O.ex⟩
abbrev Cx.marked (X : Cx) (e : Addr) : Cx := { X with A := X.A.mark (some (.ref e)),calm := false,xe := fun _ _ => False }
theorem Inv.marked {X : Cx} {pins : List (Addr × Obj)} {σ : St} {H : Hp} {s : Shared} {e : Addr} (I : Inv X pins σ H s) : Inv (X.marked e) pins σ H s :=
  ⟨⟨I.ok.mod,I.ok.kind,I.ok.glob,I.ok.blt,I.ok.above,I.ok.inj,I.ok.has,I.ok.cab,(fun q => nomatch q),I.ok.frames,I.ok.stk,I.ok.exf,I.ok.bs,I.ok.bsz,I.ok.noex,I.ok.exfs,I.ok.funs,I.ok.frf⟩,I.os,I.bare,I.base,I.loc,I.cell,I.free,I.freeC,I.pin,I.hok,I.len⟩
theorem Inv.unmarked {X : Cx} {pins : List (Addr × Obj)} {σ : St} {H : Hp} {s : Shared} {e : Addr} (hh : X.calm = true -> X.A.handled = none) (I : Inv (X.marked e) pins σ H s) : Inv X pins σ H s :=
  ⟨⟨I.ok.mod,I.ok.kind,I.ok.glob,I.ok.blt,I.ok.above,I.ok.inj,I.ok.has,I.ok.cab,hh,I.ok.frames,I.ok.stk,I.ok.exf,I.ok.bs,I.ok.bsz,I.ok.noex,I.ok.exfs,I.ok.funs,I.ok.frf⟩,I.os,I.bare,I.base,I.loc,I.cell,I.free,I.freeC,I.pin,I.hok,I.len⟩
theorem SP.unmarked {X : Cx} {pins : List (Addr × Obj)} {D : zcB} {f : Flow} {s' : Shared} {e : Addr} (hh : X.calm = true -> X.A.handled = none) (h : SP (X.marked e) pins D f s') : SP X pins D f s' := by
  cases f with
  | next => obtain ⟨σ',H',I,q⟩ := h; exact ⟨σ',H',I.unmarked hh,q⟩
  | brk => obtain ⟨σ',H',I,q⟩ := h; exact ⟨σ',H',I.unmarked hh,q⟩
  | cont => obtain ⟨σ',H',I,q⟩ := h; exact ⟨σ',H',I.unmarked hh,q⟩
  | ret u => obtain ⟨v,σ',H',I,r,q⟩ := h; exact ⟨v,σ',H',I.unmarked hh,r,q⟩
section
variable {X : Cx} {pins : List (Addr × Obj)} {σ : St} {H : Hp} {s : Shared} {e T : Addr} {C fl : Value} {Q : Unit -> Shared -> Prop} {E : Value -> Shared -> Prop} {A : Around}
theorem zhb (le : Ls X pins H e) (lT : Ls X pins H T) : ∀ z ∈ [e,T],Ls X pins H z := fun z hz => by
  rcases List.mem_cons.mp hz with rfl | hz
  . exact le
  . rw [List.mem_singleton.mp hz]; exact lT
theorem zgY (I : Inv X pins σ H s) (O : Own X) (le : Ls X pins H e) (hm : zia s.heap e C \/ Up X pins H s.heap e C)
    (hq : ∀ h' T,Inv X pins σ H { s with heap := h' } -> Ls X pins H T -> zb3 h' e T C (rawInt X.env.locals) -> Q () { s with heap := h' }) : wpAny (model X.prog X.w) X.A (noteFrame (.ref e) X.env) Q E s := by
  have hfr : X.A.frames = some (X.env :: X.outer) := O.stk ▸ I.ok.frames; have stk := I.stack
  rcases hm with ⟨oe,vs,a0,he,⟨hc,h0⟩,hd,h1⟩ | ⟨T,fl,lT,hfl,oe,vs,oT,ts,a0,he,⟨hc,h0⟩,hd,h1,hTe,hT,hdT,h3⟩
  . have hz : ∀ z ∈ [e],Ls X pins H z := fun z hz => by rw [List.mem_singleton.mp hz]; exact le
    unfold noteFrame; simp only [O.fr]; refine wpAny_bind (wpAny_field he hd h1 ?_); rw [if_neg (by decide)]
    refine wpAny_entryW (base := PySem.W.hideAll s.heap ([e] ++ frs X.stack)) (a0 := a0) hfr (by rw [<- O.stk]; exact zaF stk fun b hb => List.mem_append_right _ hb) O.fr he (fun b o q => PySem.W.of_hideAll _ q) (PySem.W.hideAll_none _ (by simp)) hd (Array.getElem?_eq_some_iff.mp h1).1 h0 fun h' hL => ?_
    obtain ⟨x1,_,⟨oe',vs',T',oT',ts',y1,y2,y3,y4,y5,y6,y7,y8,y9⟩,x4⟩ := hL; have f : Fl (frs X.stack) [e] s.heap h' := zek x1 (zay stk) x4; exact hq h' T' (I.fly hz f) (zbJ I O hz f y5 y7 y8) ⟨oe',vs',oT',ts',a0,y1,⟨y2.1.trans hc,y2.2⟩,y3,y4,y6,y7,y8,y9⟩
  . have hz := zhb le lT
    rcases hfl with rfl | rfl
    . refine wpAny_noteFrame_onW (base := PySem.W.hideAll s.heap ([e,T] ++ frs X.stack)) (cls := C) (a0 := a0) hfr (by rw [<- O.stk]; exact zaF stk fun b hb => List.mem_append_right _ hb) O.fr
        ⟨oe,vs,T,oT,ts,he,⟨hc,h0⟩,hd,h1,PySem.W.hideAll_none _ (by simp),hTe,hT,hdT,h3⟩ (fun b o q => PySem.W.of_hideAll _ q) (PySem.W.hideAll_none _ (by simp)) fun h' hL => ?_
      obtain ⟨x1,_,⟨oe',vs',T',oT',ts',y1,y2,y3,y4,y5,y6,y7,y8,y9⟩,x4⟩ := hL; have f : Fl (frs X.stack) [e,T] s.heap h' := zek x1 (zay stk) x4; exact hq h' T' (I.fly hz f) (zbJ I O hz f y5 y7 y8) ⟨oe',vs',oT',ts',a0,y1,y2,y3,y4,y6,y7,y8,y9⟩
    . exact wpAny_noteFrame_againW (base := PySem.W.hideAll s.heap ([e,T] ++ frs X.stack)) (cls := C) (a0 := a0) O.fr ⟨oe,vs,T,oT,ts,he,⟨hc,h0⟩,hd,h1,PySem.W.hideAll_none _ (by simp),hTe,hT,hdT,h3⟩
        (hq s.heap T I lT ⟨oe,vs,oT,ts,a0,he,⟨hc,h0⟩,hd,h1,hTe,hT,hdT,h3⟩)
theorem zih (I : Inv X pins σ H s) (O : Own X) (le : Ls X pins H e) (lT : Ls X pins H T) (hm : zb3 s.heap e T C fl)
    (hq : ∀ h' T',Inv X pins σ H { s with heap := h' } -> Ls X pins H T' -> zb3 h' e T' C .none -> Q () { s with heap := h' }) : wpAny (model X.prog X.w) A (setFlight (.ref e) none) Q E s := by
  have stk := I.stack; obtain ⟨oe,vs,oT,ts,a0,he,⟨hc,h0⟩,hd,h1,hTe,hT,hdT,h3⟩ := hm; have hz := zhb le lT
  refine wpAny_setFlight_noneW (base := PySem.W.hideAll s.heap ([e,T] ++ frs X.stack)) (l := X.stack) (cls := C) (a0 := a0) (fl := fl) (fun b o q => PySem.W.of_hideAll _ q) (zaF stk fun b hb => List.mem_append_right _ hb)
    ⟨oe,vs,T,oT,ts,he,⟨hc,h0⟩,hd,h1,PySem.W.hideAll_none _ (by simp),hTe,hT,hdT,h3⟩ fun h2 z1 _ ⟨oe2,vs2,T2,oT2,ts2,u1,u2,u3,u4,u5,u6,u7,u8,u9⟩ z4 => ?_
  have f2 : Fl (frs X.stack) [e,T] s.heap h2 := zek z1 (zay stk) fun b o q n => ⟨o.slots,z4 b o q n⟩; exact hq h2 T2 (I.fly hz f2) (zbJ I O hz f2 u5 u7 u8) ⟨oe2,vs2,oT2,ts2,a0,u1,u2,u3,u4,u6,u7,u8,u9⟩
end
def zhm (X : Cx) : List (Addr × TS) -> zcB -> Value -> Hp -> Prop
  | [],_,_,_ => False
  | (c,t) :: r,D,C,H => (PySem.W.exmOne X.K C (.ref c) = some true /\ t D (List.replicate X.N.length none) H) \/ (PySem.W.exmOne X.K C (.ref c) = some false /\ zhm X r D C H)
inductive ze4 (X : Cx) : List ExceptHandler -> List (Addr × TS) -> Prop
  | nil : ze4 X [] []
  | cons {x : Str} {np pos : Pos} {b₀ : Stmt} {suite : List Stmt} {hs : List ExceptHandler} {c : Addr} {t : TS} {r : List (Addr × TS)} (hg : Gl X x) (hm : X.mg x = some (.ref c)) (hd : (x == ("__debug__" : Str)) = false) (ht : ∀ e,PSs (X.marked e) (b₀ :: suite) t) (h : ze4 X hs r) :
      ze4 X (.ExceptHandler (some (.Name x np)) none (b₀ :: suite) pos :: hs) ((c,t) :: r)
def zkB (X : Cx) (tb : XK -> TS) (hs : List (Addr × TS)) : TS := fun D σ H => tb (fun C _ H' => zhm X hs D C H') D σ H
section
variable {X : Cx} {D : zcB}
theorem zew (O : Own X) (hc : X.calm = true) : ∀ {hs : List ExceptHandler} {r : List (Addr × TS)},ze4 X hs r -> ∀ {pins : List (Addr × Obj)} {σ : St} {H : Hp} {s : Shared} {e T : Addr} {C fl : Value},Inv X pins σ H s -> Ls X pins H e -> Ls X pins H T -> zb3 s.heap e T C fl -> zhm X r D C H →
    wpAny (model X.prog X.w) X.A (handleBy (.ref e) X.env hs) (SP X pins D) X.xe s
  | _,_,.nil,_,_,_,_,_,_,_,_,_,_,_,_,h => h.elim
  | _,_,.cons hg hm hd ht hr,pins,σ,H,s,e,T,C,fl,I,le,lT,up,h => by
    have hcls : ∃ oe,s.heap.get? e = some oe /\ oe.cls = C := by
      obtain ⟨oe,vs,oT,ts,a0,he,⟨hc,_⟩,_⟩ := up; exact ⟨oe,he,hc⟩
    obtain ⟨oe,he,hce⟩ := hcls; have LT : PySem.W.Looks (model X.prog X.w) s.heap (typeOf (.ref e)) C := hce ▸ (PySem.W.Looks.ld he).andThen .now; refine wpAny_handleBy_cons (codeAny_handlers_test ?_) (by intro q; cases q)
    refine zcK (X := X.marked e) I.marked hg hm ?_ hd; have I0 := I
    rcases h with ⟨hx,h⟩ | ⟨hx,h⟩
    . refine PySem.W.exm_one I.kIn LT hx _ _ _ s (fun _ _ q => q) ?_; refine codeAny_handlers_suite ?_; refine zih I O le lT up fun h' _ I' _ _ => ?_
      have I2 : Inv X pins (List.replicate X.N.length none) H { s with heap := h' } := I'.weak (by rw [List.length_replicate,I'.len]) fun i v q => by
        rw [List.getElem?_replicate] at q; split at q <;> cases q
      refine wpAny_mono (ht e pins _ _ H D I2.marked h) (fun f s2 q => q.unmarked I.ok.hd) fun _ _ z => False.elim z
    . refine PySem.W.exm_one I.kIn LT hx _ _ _ s (fun _ _ q => q) ?_; exact zew O hc hr I le lT up h
abbrev Cx.pinned (X : Cx) (pn : List (Addr × Obj)) : Cx := { X with pn := pn }
theorem Inv.pinIn {pins : List (Addr × Obj)} {σ : St} {H : Hp} {s : Shared} (I : Inv X pins σ H s) : Inv (X.pinned (X.pn ++ pins)) [] σ H s :=
  ⟨⟨I.ok.mod,I.ok.kind,I.ok.glob,I.ok.blt,I.ok.above,I.ok.inj,I.ok.has,I.ok.cab,I.ok.hd,I.ok.frames,I.ok.stk,I.ok.exf,I.ok.bs,I.ok.bsz,I.ok.noex,I.ok.exfs,I.ok.funs,I.ok.frf⟩,I.os,I.bare,I.base,I.loc,I.cell,I.free,I.freeC,fun p hp => I.pin p (by simpa using hp),I.hok,I.len⟩
theorem Inv.pinOut {pins pins' : List (Addr × Obj)} {σ : St} {H : Hp} {s : Shared} (I : Inv (X.pinned (X.pn ++ pins)) pins' σ H s) : Inv X pins σ H s :=
  ⟨⟨I.ok.mod,I.ok.kind,I.ok.glob,I.ok.blt,I.ok.above,I.ok.inj,I.ok.has,I.ok.cab,I.ok.hd,I.ok.frames,I.ok.stk,I.ok.exf,I.ok.bs,I.ok.bsz,I.ok.noex,I.ok.exfs,I.ok.funs,I.ok.frf⟩,I.os,I.bare,I.base,I.loc,I.cell,I.free,I.freeC,fun p hp => I.pin p (List.mem_append_left _ hp),I.hok,I.len⟩
theorem Ls.pinOut {pins pins' : List (Addr × Obj)} {H : Hp} {z : Addr} (l : Ls (X.pinned (X.pn ++ pins)) pins' H z) : Ls X pins H z := ⟨l.un,l.new,l.loc,l.cell,fun p hp => l.pin p (List.mem_append_left _ hp)⟩
theorem SP.pinOut {pins : List (Addr × Obj)} {f : Flow} {s' : Shared} (h : SP (X.pinned (X.pn ++ pins)) [] D f s') : SP X pins D f s' := by
  cases f with
  | next => obtain ⟨σ',H',I,q⟩ := h; exact ⟨σ',H',I.pinOut,q⟩
  | brk => obtain ⟨σ',H',I,q⟩ := h; exact ⟨σ',H',I.pinOut,q⟩
  | cont => obtain ⟨σ',H',I,q⟩ := h; exact ⟨σ',H',I.pinOut,q⟩
  | ret u => obtain ⟨v,σ',H',I,r,q⟩ := h; exact ⟨v,σ',H',I.pinOut,r,q⟩
abbrev Cx.inTry (X : Cx) (pn : List (Addr × Obj)) (E : XK) : Cx := (X.pinned pn).wish (XQ (X.pinned pn) E)
theorem Own.inTry {pn : List (Addr × Obj)} {E : XK} (O : Own X) : Own (X.inTry pn E) := ⟨O.stk,O.fr,O.ex⟩
theorem zfS {pn : List (Addr × Obj)} {E : XK} (O : Own X) : zbW (CX1 X.prog X.w) (X.inTry pn E) E := zga (X := X.inTry pn E) (F := fun _ _ => True) O.inTry fun _ _ h => h.unwish
theorem ziY {body : List Stmt} {h₀ : ExceptHandler} {hs : List ExceptHandler} {r : List (Addr × TS)} {tb : XK -> TS} {pos : Pos} (O : Own X) (hc : X.calm = true) (hb : ∀ pn E,PSs (X.inTry pn E) body (tb E)) (hh : ze4 X (h₀ :: hs) r) :
    PS X (.Try body (h₀ :: hs) [] [] pos) (zkB X tb r) := by
  intro pins s σ H D I h; refine wpAny_Try_except (wpAny_mono (hb (X.pn ++ pins) _ [] s σ H D (I.pinIn.wish _) h) (fun f s1 q => ?_) fun x s1 z => ?_)
  . have q := q.unwish.pinOut
    cases f with
    | next => exact wpAny_execs_nil q
    | _ => exact q
  . obtain ⟨pins',σ',H',e,C,rfl,I1,le,hm,w⟩ := z; refine zgY I1.pinOut O le.pinOut (hm.imp id fun ⟨T,f,lT,hf,fl⟩ => ⟨T,f,lT.pinOut,hf,fl⟩) fun h' T I2 lT fl => ?_; exact zih I2 O le.pinOut lT fl fun h2 T2 I3 lT2 f2 => zew (D := D) O hc hh I3 le.pinOut lT2 f2 w
end
def zkz (P : Program) (w : World) (K : Fg) (a : Addr) (kvs : List (Key × V)) : Prop :=
  (a == sysModules) = false /\ ∃ vs,KV kvs vs /\ ∀ h : Heap,K.In h -> h.DictOf (zbi P w) a vs
def ziX (P : Program) (w : World) (K : Fg) (a : Addr) (kvs : List (List Key × V)) : Prop :=
  (a == sysModules) = false /\ ∃ xs : List (List Key × Addr × Value),Paired (fun (p : List Key × V) (q : List Key × Addr × Value) => p.1 = q.1 /\ RelV p.2 q.2.2) kvs xs /\ ∀ h : Heap,K.In h -> h.DictOfH (tupleKind (zbi P w)) a xs
theorem zfm {kvs : List (List Key × V)} {xs : List (List Key × Addr × Value)} (r : Paired (fun (p : List Key × V) (q : List Key × Addr × Value) => p.1 = q.1 /\ RelV p.2 q.2.2) kvs xs) (k : List Key) : RelO (zdk kvs k) ((atKey xs k).map (·.2)) := by
  induction r with
  | nil => exact True.intro
  | @cons p q ps qs hq t ih =>
    obtain ⟨e,rv⟩ := hq
    by_cases hk : p.1 = k
    . rw [zfn hk]; have : atKey (q :: qs) k = some q.2 := by simp [atKey,List.find?_cons,<- e,hk]
      rw [this]; exact rv
    . rw [zbe hk]; have : atKey (q :: qs) k = atKey qs k := by simp [atKey,List.find?_cons,<- e,hk]
      rw [this]; exact ih
def zhA (P : Program) (w : World) (K : Fg) (H : Hp) (a : Addr) (y : V) (r : Option V) : Prop :=
  (∃ kvs k,zkz P w K a kvs /\ y = kV k /\ r = zdk kvs k) \/ ∃ kvs k b,ziX P w K a kvs /\ y = .ref b /\ H b = some (.tup (k.map kV)) /\ r = zdk kvs k
section
variable {X : Cx} {pins : List (Addr × Obj)} {σ : St} {H : Hp} {s : Shared} {a : Addr} {y v : V} {u r : Value} {o : Option V} {A : Around} {E : Value -> Shared -> Prop}
theorem zgI {Q : Value -> Shared -> Prop} (hu : A.units + 1 < cLine) (I : Inv X pins σ H s) (g : zhA X.prog X.w X.K H a y (some v)) (ry : RelV y u) (h : ∀ w' s',Inv X pins σ H s' -> RelV v w' -> Q w' s') :
    wpAny (model X.prog X.w) A (getItem (.ref a) u) Q E s := by
  rcases g with ⟨kvs,k,⟨hd,vs,rel,dd⟩,ey,l⟩ | ⟨kvs,k,b,⟨hd,xs,rel,dd⟩,ey,eb,l⟩
  . subst ey; obtain ⟨w',hw,rw'⟩ := RelO.some_of (v := v) (o := valueAt vs k) (by rw [l]; exact rel.val k)
    exact wpAny_getItem_of (zhC ry) (dd _ I.kIn).mapOf hw (h w' _ (I.tok _) rw')
  . subst ey
    cases (show u = Value.ref b from ry)
    obtain ⟨w',hw,rw'⟩ := RelO.some_of (v := v) (o := (atKey xs k).map (·.2)) (by rw [l]; exact zfm rel k)
    obtain ⟨p,hp,hp2⟩ := Option.map_eq_some_iff.mp hw; refine wpAny_getItem_heap (tupleKind_room_in1 hu) (zhw I.hok eb) (dd _ I.kIn) hp ?_; rw [hp2]; exact h w' _ (I.tok _) rw'
theorem zkg {Q : Value -> Shared -> Prop} (hu : A.units + 1 < cLine) (I : Inv X pins σ H s) (g : zhA X.prog X.w X.K H a y o) (ry : RelV y u) (h : ∀ s',Inv X pins σ H s' -> Q (.bool o.isSome) s') :
    wpAny (model X.prog X.w) A (compareOp .In u (.ref a)) Q E s := by
  rcases g with ⟨kvs,k,⟨hd,vs,rel,dd⟩,ey,l⟩ | ⟨kvs,k,b,⟨hd,xs,rel,dd⟩,ey,eb,l⟩
  . subst ey; refine wpAny_in_of (zhC ry) hd (dd _ I.kIn).mapOf ?_; rw [<- (rel.val k).isSome_eq,<- l]; exact h _ (I.tok _)
  . subst ey
    cases (show u = Value.ref b from ry)
    refine wpAny_in_heap (tupleKind_room_in1 hu) (zhw I.hok eb) hd (dd _ I.kIn) ?_; have q := (zfm rel k).isSome_eq; rw [Option.isSome_map] at q; rw [<- q,<- l]; exact h _ (I.tok _)
theorem zhg (I : Inv X pins σ H s) (g : zhA X.prog X.w X.K H a y o) : s.TypeIs (.ref a) "dict" := by
  rcases g with ⟨kvs,k,⟨hd,vs,rel,dd⟩,ey,l⟩ | ⟨kvs,k,b,⟨hd,xs,rel,dd⟩,ey,eb,l⟩
  . exact (dd _ I.kIn).typeIs
  . exact (dd _ I.kIn).typeIs
end
def zj7 (P : Program) (w : World) (K : Fg) (td ty : TE) : TE := fun σ H Q => td σ H fun x H1 => ty σ H1 fun y H2 => ∃ a v,x = .ref a /\ zhA P w K H2 a y (some v) /\ Q v H2
def zkG (P : Program) (w : World) (K : Fg) (ty td : TE) : TE := fun σ H Q => ty σ H fun y H1 => td σ H1 fun x H2 => ∃ a o,x = .ref a /\ zhA P w K H2 a y o /\ Q (.bl o.isSome) H2
section
variable {X : Cx} {o i e value : Expr} {pos pos' tpos : Pos} {td ty tv : TE}
theorem zig (hu : X.A.units + 1 < cLine) (ho : PE X o td) (hi : PE X i ty) (hs : zjx i) : PE X (.Subscript o i pos) (zj7 X.prog X.w X.K td ty) := by
  intro pins s σ H Q I h; refine zib PySem.F.slot_dict_getitem.lookup hs (thn (ho pins s σ H _ I h) fun u s1 ⟨x,H1,I1,rx,q1⟩ => thn (hi pins s1 σ H1 _ I1 q1) fun iv s2 ⟨y,H2,I2,ry,a,v,ex,g,q2⟩ => ?_); subst ex; obtain rfl : u = Value.ref a := rx; exact ⟨zhg I2 g,zgI hu I2 g ry fun w' s3 I3 rw' => ⟨v,H2,I3,rw',q2⟩⟩
theorem ziW (hu : X.A.units + 1 < cLine) (hi : PE X i ty) (ho : PE X o td) : PC X .In i o (zkG X.prog X.w X.K ty td) := by
  intro pins s σ H Q I h; refine thn (hi pins s σ H _ I h) fun iv s1 ⟨y,H1,I1,ry,q1⟩ => thn (ho pins s1 σ H1 _ I1 q1) fun u s2 ⟨x,H2,I2,rx,a,ov,ex,g,q2⟩ => ?_; subst ex; obtain rfl : u = Value.ref a := rx; exact zkg hu I2 g ry fun s3 I3 => ⟨.bl ov.isSome,H2,I3,rfl,q2⟩
end
theorem zfM {P : Program} {w : World} {K : Fg} {a : Addr} {xs : List ((Str × Nat) × (Str × Nat) × Addr × Value)} {kvs : List (List Key × V)} {n : Nat}
    (hl : K.lookup a = some ⟨.type "dict",none,.dict (xs.map fun x => (⟨reduceHash (Builtin.Tuple.tupleHashOf [PyData.keyHash w.params x.1.1,PyData.keyHash w.params x.2.1.1]),.ref x.2.2.1,x.2.2.2⟩ : DictEntry)).toArray n,#[]⟩)
    (ht : ∀ x ∈ xs,K.lookup x.2.2.1 = some ⟨.type "tuple",none,.seq #[.str x.1.1 x.1.2,.str x.2.1.1 x.2.1.2] 0,#[]⟩)
    (hs : (a == sysModules) = false) (hk : Paired (fun (p : List Key × V) (q : List Key × Addr × Value) => p.1 = q.1 /\ RelV p.2 q.2.2) kvs (xs.map fun x => ([(Sum.inr x.1.1 : Key),Sum.inr x.2.1.1],x.2.2.1,x.2.2.2)))
    (nd : (xs.map fun x => (x.1.1,x.2.1.1)).Nodup) : ziX P w K a kvs := by
  refine ⟨hs,_,hk,fun h X => ⟨_,_,_,X _ _ hl,⟨rfl,rfl,rfl⟩,rfl,?_,?_,?_⟩⟩
  . rw [List.map_map]; rfl
  . intro y hy; obtain ⟨x,hx,rfl⟩ := List.mem_map.mp hy; exact ⟨_,_,_,X _ _ (ht x hx),rfl,rfl,.cons (zcS x.1.1 x.1.2) (.cons (zcS x.2.1.1 x.2.1.2) .nil)⟩
  . rw [List.map_map]; have e : (xs.map ((fun y : List Key × Addr × Value => y.1) ∘ fun x => ([(Sum.inr x.1.1 : Key),Sum.inr x.2.1.1],x.2.2.1,x.2.2.2))) = (xs.map fun x => (x.1.1,x.2.1.1)).map fun p => [(Sum.inr p.1 : Key),Sum.inr p.2] := by rw [List.map_map]; rfl
    rw [e]; refine List.pairwise_map.mpr (List.Pairwise.imp (fun {p q} h h' => h ?_) nd); injection h' with h1 h2
    injection h2 with h2 _
    exact Prod.ext (Sum.inr.inj h1) (Sum.inr.inj h2)
open PySem PySem.Spec PyProof.Rows PySem.Builtin
def tFr (tv : TE) : TE := fun σ H Q => tv σ H fun x H1 => ∃ t : Str,x = .str t /\ (reprText t).length <= sizeLine /\ Q (.str (reprText t)) H1
def zfw : List TE -> Str -> TE
  | [],out => fun _ H Q => out.length <= sizeLine /\ Q (.str out) H
  | t :: r,out => fun σ H Q => t σ H fun x H1 => ∃ y : Str,x = .str y /\ (out ++ y).length <= sizeLine /\ zfw r (out ++ y) σ H1 Q
inductive PFs (X : Cx) : List Expr -> List TE -> Prop
  | nil : PFs X [] []
  | cons {e : Expr} {t : TE} {es : List Expr} {ts : List TE} : PE X e t -> PFs X es ts -> PFs X (e :: es) (t :: ts)
section
variable {X : Cx} {e v₁ v₂ : Expr} {es : List Expr} {ts : List TE} {tv : TE} {pos : Pos}
theorem zdy (h : PE X e tv) : PE X (.FormattedValue e 114 none pos) (tFr tv) := by
  intro pins s σ H Q I hq; refine wpAny_FormattedValue_repr (thn (h pins s σ H _ I hq) fun u s1 ⟨x,H1,I1,r,t,ex,hz,q⟩ => ?_); subst ex; obtain ⟨tk,rfl⟩ := r; refine wpAny_pyReprObj_str ?_ hz; exact formatField_str (fun t' tk' => ⟨.str (reprText t),H1,I1.tok tk',⟨t',rfl⟩,q⟩) hz
theorem ziz {pins : List (Addr × Obj)} {σ : St} {Q : VK} : ∀ {es : List Expr} {ts : List TE},PFs X es ts -> ∀ {out : Str} {s : Shared} {H : Hp},Inv X pins σ H s -> zfw ts out σ H Q -> wpAny (model X.prog X.w) X.A (joinParts out (evalEach es X.env)) (EP X pins σ Q) X.xe s
  | _,_,.nil,out,s,H,I,⟨hz,q⟩ => joinParts_nilE (joinParts_nil ⟨.str out,H,I.tok _,⟨_,rfl⟩,q⟩ hz)
  | _,_,.cons he hr,out,s,H,I,hq => by
    refine joinParts_consE (joinParts_cons (thn (he pins s σ H _ I hq) fun u s1 ⟨x,H1,I1,r,y,ex,hz,q⟩ => ?_)); subst ex; obtain ⟨tk,rfl⟩ := r; exact ⟨hz,ziz hr I1 q⟩
theorem zb8 (h : PFs X (v₁ :: v₂ :: es) ts) : PE X (.JoinedStr (v₁ :: v₂ :: es) pos) (zfw ts Str.empty) := by
  intro pins s σ H Q I hq; rw [arm_eval_JoinedStr]; show wpAny _ _ (joinParts Str.empty (evalEach (v₁ :: v₂ :: es) X.env)) _ _ _; exact ziz h I hq
end
structure FnX (P : Program) (w : World) (K : Fg) (mg : Str -> Option Value) (base : Heap) (x : Str) (k : Nat) (sp : Sp) : Prop where
  ex : ∃ (f : Addr) (fd : FuncData) (ps : List Str),FnOk P w K mg base (CX1 P w) k f fd ps sp /\ mg x = some (.ref f) /\ PySem.W.keepIn K (.ref f) = true /\ Binds K fd ps []
theorem FnX.mk' {P : Program} {w : World} {K : Fg} {mg : Str -> Option Value} {base : Heap} {x : Str} {k : Nat} {sp : Sp} {f : Addr} {fd : FuncData} {ps : List Str} (ok : FnOk P w K mg base (CX1 P w) k f fd ps sp) (m : mg x = some (.ref f))
    (kp : PySem.W.keepIn K (.ref f) = true) (b : Binds K fd ps []) : FnX P w K mg base x k sp := ⟨f,fd,ps,ok,m,kp,b⟩
theorem Fn.x {P : Program} {w : World} {K : Fg} {mg : Str -> Option Value} {base : Heap} {x : Str} {k : Nat} {sp : Sp} (G : Fn P w K mg base x k sp) : FnX P w K mg base x k sp :=
  let ⟨f,fd,ps,ok,m,kp,b⟩ := G.ex; ⟨f,fd,ps,ok.calm,m,kp,b⟩
section
variable {X : Cx} {x : Str} {p pos : Pos} {e : Expr} {es : List Expr} {t : TA} {k j : Nat} {sp : Sp} {E : XK}
theorem zav (G : FnX X.prog X.w X.K X.mg X.base x j sp) (hx : zbW (CX1 X.prog X.w) X E) (hr : Room k X.A) (hg : Gl X x) (ha : PA X (e :: es) t) (hj : j <= k := by decide) (hdb : (x == ("__debug__" : Str)) = false := by decide)
    (he : starEach (e :: es) X.env = (false,eval e X.env) :: starEach es X.env := by rfl) (hpl : (backTo pos (starEach es X.env)).any (·.1) = false := by rfl) : PE X (.Call (.Name x p) (e :: es) [] pos) (ziB sp [] E t) := by
  obtain ⟨f,fd,ps,F,hm,hk,hb⟩ := G.ex; exact zh8 F (hr.mono hj) hg hm hk hb .nil hx ha hdb he hpl
theorem za8 : zbW (CX1 X.prog X.w) X E0 := fun _ _ _ _ _ _ _ h => by
  obtain ⟨_,_,_,_,_,_,_,_,_,_,_,_,q⟩ := h; exact False.elim q
theorem zc3 (O : Own X) : zbW (CX1 X.prog X.w) (X.wish (XQ X E)) E := zga (X := X.wish (XQ X E)) (F := fun _ _ => True) O.wish fun _ _ h => h.unwish
end
end L2
namespace HT
open PySem PySem.Spec PyProof.Rows
section
variable {prog : Program} {w : World} {A : Around} {E : Value -> Shared -> Prop} {s : Shared}
theorem getItem_tuple_all {t sl : Addr} {items : Array Value} {vl vu : Value} {lo hi : Option Int} {Q : Value -> Shared -> Prop} (ht : IsTup s.heap t items) (hs : s.heap.IsSliceOf sl vl vu .none) (pl : IsPart vl lo) (pu : IsPart vu hi)
    (hw : sIx items.size 0 lo = 0 /\ sIx items.size items.size hi = items.size) (h : Q (.ref t) s) (hsz : items.size <= sizeLine) : wpAny (model prog w) A (getItem (.ref t) (.ref sl)) Q E s := by
  obtain ⟨os,hos,hcs,hds⟩ := id hs; have hTs : s.TypeIs (.ref sl) "slice" := ⟨os,hos,hcs⟩; unfold getItem; refine wpAny_holding ?_; refine wpAny_bind (wpAny_sequenceKey ht.typeIs (by decide) ?_)
  refine wpAny_bind (wpAny_callSpecial?_slot (name := Str.ofString "__getitem__") ht.typeIs PyProof.Rows.slot_tuple_getitem
    (wpAny_call_entry PyProof.Rows.slot_tuple_getitem ht.typeIs entry_tuple_getitem ?_ (args_tuple_getitem _ _)))
  show wpAny _ _ (Builtin.Tuple.tupleItemsOf (.ref t) >>= _) _ _ s; refine wpAny_bind (tupleItemsOf_ ht ?_); refine wpAny_bind (wpAny_typeOf hTs ?_); rw [if_pos (by decide)]
  refine wpAny_bind (zbE hs pl pu ?_); have hyes : (((sIx items.size 0 lo : Nat) : Int) == 0 && (1 : Int) == 1 && (sIx items.size items.size hi - sIx items.size 0 lo) == items.size) = true := by rw [hw.1,hw.2]; simp
  show wpAny _ _ (if (((sIx items.size 0 lo : Nat) : Int) == 0 && (1 : Int) == 1 && (sIx items.size items.size hi - sIx items.size 0 lo) == items.size) = true then _ else _) _ _ s; rw [if_pos hyes]; refine wpAny_bind (m := Builtin.Tuple.tupleIsExact _) ?_; unfold Builtin.Tuple.tupleIsExact; refine wpAny_bind (wpAny_typeOf ht.typeIs ?_); refine wpAny_pure ?_; rw [if_pos (by decide)]
  exact wpAny_bind (wpAny_rule (wpAny_pure ⟨_,rfl,wpAny_pure h⟩))
end
end HT
namespace L2
open PySem PySem.Spec PyProof.Rows
def zjB (K : Fg) : V -> Option Int -> Option Int -> Hp -> VK -> Prop := fun x lo hi H Q => ∃ a xs,x = .ref a /\ SqT K H a xs ∧
  ((HT.sIx xs.length 0 lo = 0 /\ HT.sIx xs.length xs.length hi = xs.length /\ Q (.ref a) H) \/ (¬ (HT.sIx xs.length 0 lo = 0 /\ HT.sIx xs.length xs.length hi = xs.length) /\ ∀ p,H p = none -> Q (.ref p) (upd H p (.tup (zbM xs lo hi)))))
theorem zeV {X : Cx} : SlR X (zjB X.K) := by
  intro pins s σ H x v vl vu lo hi sl Q I rx hs pl pu h; obtain ⟨a,xs,rfl,hx,h⟩ := h
  rcases h with ⟨h1,h2,q⟩ | ⟨hw,q⟩
  . cases rx; obtain ⟨its,r,ht,hz⟩ := I.tuple hx; have hlen : its.toArray.size = xs.length := by rw [List.size_toArray]; exact r.length.symm
    refine ⟨"tuple",_,PyProof.Rows.slot_tuple_getitem.lookup,ht.typeIs,?_⟩; exact HT.getItem_tuple_all ht hs pl pu (by rw [hlen]; exact ⟨h1,h2⟩) ⟨.ref a,H,I,rfl,q⟩ (by rw [hlen]; exact hz)
  . exact zjg pins s σ H _ v vl vu lo hi sl Q I rx hs pl pu ⟨a,xs,rfl,hx,hw,q⟩
open PySem.SeqAt (noMix noMixAll)
section
variable {X : Cx}
theorem zeM : ∀ {bs : List Bool} {us : List Value},Vals (bs.map V.bl) us -> us = bs.map Value.bool
  | [],us,r => by cases r; rfl
  | b :: bs,us,r => by
    cases r with
    | cons r1 r2 =>
      rw [show _ = Value.bool b from r1,zeM r2]
      rfl
theorem zgG (hc : X.calm = true) : CallR X (.builtin "any") (fun xs H Q => ∃ (p : Addr) (bs : List Bool),xs = [.ref p] /\ SqL X.K H p (bs.map V.bl) /\ Q (.bl (bs.any id)) H) := by
  intro pins s σ H xs us Q I r h; obtain ⟨p,bs,rfl,hq,q⟩ := h; obtain ⟨u,rfl,ru⟩ := zda r
  cases (show u = Value.ref p from ru)
  obtain ⟨its,rv,pl,hz⟩ := I.list hq; have hl := pl.isList; have hb := zeM rv; subst hb; have hlt : p < s.heap.objs.size := by obtain ⟨_,e,_⟩ := hl; exact Heap.lt_size e
  refine call_any_walk (wpAny_pyIter_list hl ?_)
  refine ⟨s.heap.objs.size,[s.heap.objs.size,p],[s.heap.objs.size],(bs.map Value.bool).toArray.size,_,_,fun i => (bs[i]?).getD false,rfl,Walks.list (A := X.A.in1) (I.ok.hd hc) _ p (Nat.ne_of_lt hlt) (bs.map Value.bool).toArray,
    ⟨⟨_,Heap.get?_push_size _ rfl,rfl,rfl⟩,hl.push _⟩,fun i v s' Q' E' hP hQ => ?_,fun h' tk hk => ?_⟩
  . have hP' : (bs.map Value.bool)[i]? = some v := by simpa using hP
    rw [List.getElem?_map] at hP'; obtain ⟨b,e,rfl⟩ := Option.map_eq_some_iff.mp hP'; simp only [e,Option.getD_some] at hQ; exact wpAny_truthy_bool hQ
  . have e : ((List.range (bs.map Value.bool).toArray.size).any fun i => (bs[i]?).getD false) = bs.any id := by
      rw [List.size_toArray,List.length_map]; exact LSm.range_any bs
    rw [e]; exact ⟨.bl (bs.any id),H,I.kept (t' := tk) (LSm.kept_iter hk),rfl,q⟩
theorem zgF (hc : X.calm = true) : CallR X (.builtin "all") (fun xs H Q => ∃ (p : Addr) (bs : List Bool),xs = [.ref p] /\ SqL X.K H p (bs.map V.bl) /\ Q (.bl (bs.all id)) H) := by
  intro pins s σ H xs us Q I r h; obtain ⟨p,bs,rfl,hq,q⟩ := h; obtain ⟨u,rfl,ru⟩ := zda r
  cases (show u = Value.ref p from ru)
  obtain ⟨its,rv,pl,hz⟩ := I.list hq; have hl := pl.isList; have hb := zeM rv; subst hb; have hlt : p < s.heap.objs.size := by obtain ⟨_,e,_⟩ := hl; exact Heap.lt_size e
  refine call_all_walk (wpAny_pyIter_list hl ?_)
  refine ⟨s.heap.objs.size,[s.heap.objs.size,p],[s.heap.objs.size],(bs.map Value.bool).toArray.size,_,_,fun i => (bs[i]?).getD true,rfl,Walks.list (A := X.A.in1) (I.ok.hd hc) _ p (Nat.ne_of_lt hlt) (bs.map Value.bool).toArray,
    ⟨⟨_,Heap.get?_push_size _ rfl,rfl,rfl⟩,hl.push _⟩,fun i v s' Q' E' hP hQ => ?_,fun h' tk hk => ?_⟩
  . have hP' : (bs.map Value.bool)[i]? = some v := by simpa using hP
    rw [List.getElem?_map] at hP'; obtain ⟨b,e,rfl⟩ := Option.map_eq_some_iff.mp hP'; simp only [e,Option.getD_some] at hQ; exact wpAny_truthy_bool hQ
  . have e : ((List.range (bs.map Value.bool).toArray.size).all fun i => (bs[i]?).getD true) = bs.all id := by
      rw [List.size_toArray,List.length_map]; exact LSm.range_all bs
    rw [e]; exact ⟨.bl (bs.all id),H,I.kept (t' := tk) (LSm.kept_iter hk),rfl,q⟩
end
def zj0 (t : TS) : TS := fun D σ H => ∃ J : St -> Hp -> Prop,t { D with nx := J } σ H /\ ∀ σ' H',J σ' H' -> D.nx σ' H'
theorem zeN {X : Cx} {st : Stmt} {t : TS} (h : PS X st t) : PS X st (zj0 t) := by
  intro pins s σ H D I ⟨J,h1,h2⟩; refine thn (h pins s σ H _ I h1) fun f s' q => ?_
  cases f with
  | next => obtain ⟨σ',H',I',q⟩ := q; exact ⟨σ',H',I',h2 _ _ q⟩
  | brk => exact q
  | cont => exact q
  | ret u => exact q
theorem zgH {lo : Int} {n : Nat} {idx : List Nat} {te : TE} {σ : St} {H : Hp} {Q : VK} (Iv : Addr -> Nat -> List V -> Hp -> Prop) (hl : n <= sizeLine)
    (h0 : ∀ D,H D = none -> Iv D 0 [] (upd H D (.lst []))) (hD : ∀ D i ys H',Iv D i ys H' -> H' D = some (.lst ys) /\ ys.length = i)
    (he : ∀ D i ys H' (R : VK),H D = none -> i < n -> Iv D i ys H' -> (∀ v H4,H4 D = some (.lst ys) -> Iv D (i + 1) (ys ++ [v]) (upd H4 D (.lst (ys ++ [v]))) -> R v H4) -> te (some (.int (lo + (i : Nat))) :: cap σ idx) H' R)
    (hQ : ∀ D ys H',H D = none -> Iv D n ys H' -> Q (.ref D) H') : LCW idx (Itr lo n) (zbG 0) zcE te Q σ H := by
  intro D hn; refine ⟨fun i m ys ρ H' => m = n - i /\ i <= n /\ (∃ y0,ρ = y0 :: cap σ idx) /\ Iv D i ys H',⟨n,by simp,Nat.zero_le _,⟨none,rfl⟩,h0 D hn⟩,?_⟩
  rintro i m ys ρ H' ⟨rfl,hi,⟨y0,rfl⟩,hv⟩; obtain ⟨d1,d2⟩ := hD D i ys H' hv; refine ⟨d1,?_⟩
  by_cases hlt : i < n
  . refine .inr ⟨hlt,by omega,fun x H2 y => ?_⟩
    obtain ⟨e,y⟩ := y; subst e y; show te (some (.int (lo + i)) :: cap σ idx) H2 _; exact he D i ys H2 _ hn hlt hv fun v H4 h1 h2 => ⟨h1,n - (i + 1),by omega,rfl,hlt,⟨_,rfl⟩,h2⟩
  . have e : i = n := by omega
    subst e; exact .inl ⟨Nat.le_refl _,hQ D ys H' hn hv⟩
theorem zcF {K : Fg} {a : Addr} {xs : List V} {idx : List Nat} {te : TE} {σ : St} {H : Hp} {Q : VK} (Iv : Addr -> Nat -> List V -> Hp -> Prop) (hl : xs.length <= sizeLine)
    (h0 : ∀ D,H D = none -> Iv D 0 [] (upd H D (.lst []))) (hD : ∀ D i ys H',Iv D i ys H' -> H' D = some (.lst ys) /\ ys.length = i /\ SqL K H' a xs)
    (he : ∀ D (i : Nat) x ys H' (R : VK),H D = none -> xs[i]? = some x -> Iv D i ys H' -> (∀ v H4,H4 D = some (.lst ys) -> Iv D (i + 1) (ys ++ [v]) (upd H4 D (.lst (ys ++ [v]))) -> R v H4) -> te (some x :: cap σ idx) H' R)
    (hQ : ∀ D ys H',H D = none -> Iv D xs.length ys H' -> Q (.ref D) H') : LCW idx (Itl K a) (zbG 0) zcE te Q σ H := by
  intro D hn; refine ⟨fun i m ys ρ H' => m = xs.length - i /\ i <= xs.length /\ (∃ y0,ρ = y0 :: cap σ idx) /\ Iv D i ys H',⟨xs.length,by simp,Nat.zero_le _,⟨none,rfl⟩,h0 D hn⟩,?_⟩
  rintro i m ys ρ H' ⟨rfl,hi,⟨y0,rfl⟩,hv⟩; obtain ⟨d1,d2,d3⟩ := hD D i ys H' hv; refine ⟨d1,?_⟩
  by_cases hlt : i < xs.length
  . refine .inr ⟨⟨xs,xs[i],d3,List.getElem?_eq_getElem hlt⟩,by omega,fun x H2 y => ?_⟩
    obtain ⟨e,y⟩ := y; subst e; exact he D i x ys H2 _ hn (y xs d3) hv fun v H4 h1 h2 => ⟨h1,xs.length - (i + 1),by omega,rfl,hlt,⟨_,rfl⟩,h2⟩
  . have e : i = xs.length := by omega
    subst e; exact .inl ⟨⟨xs,d3,Nat.le_refl _⟩,hQ D ys H' hn hv⟩
open PySem PySem.Spec PyProof.Rows PySem.W
section
variable {N : Nat} (h0 : 0 < N)
include h0
end
end L2
set_option maxHeartbeats 4000000
namespace L2
open PySem PySem.Spec PyProof.Rows
theorem zi5 {K : Fg} {a : Addr} {xs : List V} {idx : List Nat} {te : TE} {σ : St} {H : Hp} {Q : VK} (f : V -> V) (hq : SqT K H a xs) (hl : xs.length <= sizeLine)
    (he : ∀ x ∈ xs,∀ D ys (R : VK),H D = none -> R (f x) (upd H D (.lst ys)) -> te (some x :: cap σ idx) (upd H D (.lst ys)) R)
    (hQ : ∀ D,H D = none -> Q (.ref D) (upd H D (.lst (xs.map f)))) : LCW idx (Itt K a) (zbG 0) zcE te Q σ H := by
  intro D hD; refine ⟨fun i m ys ρ H' => m = xs.length - i /\ i <= xs.length /\ ys = (xs.take i).map f /\ (∃ y0,ρ = y0 :: cap σ idx) /\ H' = upd H D (.lst ys),⟨xs.length,by simp,Nat.zero_le _,by simp,⟨none,rfl⟩,rfl⟩,?_⟩
  rintro i m ys ρ H' ⟨rfl,hi,hys,⟨y0,rfl⟩,rfl⟩; refine ⟨zab,?_⟩; have hqD : ∀ zs,SqT K (upd H D (.lst zs)) a xs := fun zs => Same.tup (Same.upd hD) hq
  by_cases hlt : i < xs.length
  . refine .inr ⟨⟨xs,xs[i],hqD ys,by simp [hlt]⟩,?_,fun x H' y => ?_⟩
    . rw [hys,List.length_map,List.length_take]; omega
    . obtain ⟨e,y⟩ := y; subst e; have hx : xs[i]? = some x := y xs (hqD ys); have htk : xs.take (i + 1) = xs.take i ++ [x] := by rw [List.take_add_one,hx]; rfl
      show te (some x :: cap σ idx) (upd H D (.lst ys)) _; refine he x (List.mem_of_getElem? hx) D ys _ hD ⟨zab,xs.length - (i + 1),by omega,rfl,hlt,?_,⟨some x,rfl⟩,zf7⟩
      rw [htk,List.map_append,hys]
      rfl
  . have e : i = xs.length := by omega
    subst e; refine .inl ⟨⟨xs,hqD ys,Nat.le_refl _⟩,?_⟩; rw [hys,List.take_length]; exact hQ D hD
end L2
namespace HT
open PySem PyProof.Rows
section
open PySem.SeqAt
open PySem.AutoSeq1 (wpAny_loadPart')
open PySem.MeetsSeq PySem.MeetsSeq2 PySem.MeetsSeq3
end
end HT
namespace L2
open PySem PySem.Spec PyProof.Rows
end L2
namespace HT
open PySem PySem.SeqAt PySem.MeetsSeq PySem.MeetsSeq2 PySem.MeetsSeq3 PySem.SeqRoads2
open PySem.AutoSeq1 (wpAny_loadPart')
end HT
namespace L2
open PySem PySem.Spec PyProof.Rows
end L2
namespace HT
open PySem PySem.SeqAt PySem.MeetsSeq PySem.MeetsSeq2 PySem.MeetsSeq3 PySem.SeqRoads2
open PySem.AutoSeq1 (wpAny_loadPart')
end HT
namespace L2
open PySem PySem.Spec PyProof.Rows
end L2
namespace HT
open PySem L2 PyProof.Rows
section
variable {P : Program} {w : World} {A : Around} {E : Value -> Shared -> Prop} {s : Shared} {d : Addr} {ob : Obj} {ep : Nat} {es : Array DictEntry}
theorem iter_keys {Q : Value -> Shared -> Prop} (hS : (d == sysModules) = false) (ho : s.heap.get? d = some ob) (hx : ob.ExactDict) (hd : ob.data = .dict es ep)
    (q : Q (.ref s.heap.objs.size) { s with heap := s.heap.push { cls := .type "dict_keyiterator",data := .fields #[.ref d,.int 0 0,.int es.size 0,.int ep 0] } }) : wpAny (model P w) A (pyIter (.ref d)) Q E s := by
  have hT : s.TypeIs (.ref d) "dict" := ⟨ob,ho,hx.1⟩; refine wpAny_pyIter_slot hT PySem.F.slot_dict_iter (wpAny_call_entry PySem.F.slot_dict_iter hT PySem.F.entry_dict_iter ?_ (PySem.F.args_dict_iter_1 _)); unfold Builtin.«dict.__iter__»; refine wpAny_bind ?_; unfold Builtin.Dict.dictSlotNone; refine wpAny_bind (wpAny_notOrdered_dict hT ?_); show wpAny _ _ (pure (Value.ref d)) _ _ s; refine wpAny_pure ?_; show wpAny _ _ (Builtin.Dict.showsAll d >>= _) _ _ s; unfold Builtin.Dict.showsAll; rw [if_neg (by rw [hS]; exact fnt)]
  refine wpAny_bind (wpAny_pure ?_); refine wpAny_bind (wpAny_dictEntries ho hd ?_); refine wpAny_bind (wpAny_dictEpoch ho hd ?_); exact wpAny_bind (wpAny_newObj_type (wpAny_pure ⟨_,rfl,"dict_keyiterator",_,⟨_,Heap.get?_push_size _ rfl,rfl⟩,PySem.F.slot_dict_keyiterator_next.lookup,q⟩))
theorem next_key {Q : Option Value -> Shared -> Prop} {it : Addr} {i : Nat} {e : DictEntry} (hit : s.heap.IsKeyIter it d i es.size ep) (ho : s.heap.get? d = some ob) (hd : ob.data = .dict es ep) (he : es[i]? = some e)
    (q : ∀ h',h'.IsKeyIter it d (i + 1) es.size ep -> Heap.SameBut it s.heap h' -> Q (some e.key) { s with heap := h' }) : wpAny (model P w) A (pyNext (.ref it)) Q E s := by
  obtain ⟨oi,hoi,hci,hdi⟩ := id hit; have hT := hit.typeIs; unfold pyNext
  refine wpAny_bind (wpAny_attempt (wpAny_callSpecial?_slot (name := Str.ofString "__next__") hT PySem.F.slot_dict_keyiterator_next
    (wpAny_call_entry PySem.F.slot_dict_keyiterator_next hT PySem.F.entry_dict_keyiterator_next ?_ (PySem.F.args_dict_keyiterator_next_1 _))))
  refine wpAny_bind (wpAny_pure ?_); refine wpAny_bind ?_; refine wpAny_bind ?_
  first | refine wpAny_bind (wpAny_typeNameOfWhole_keyiter hT (wpAny_pure ?_)) | refine wpAny_bind (wpAny_typeNameOf_keyiter hT (wpAny_pure ?_))
  refine wpAny_bind (wpAny_fieldsOf hoi hdi ?_); simp only [show Builtin.Dict_items.ownsTuple "dict_keyiterator" = false by decide,Bool.false_eq_true,if_false]
  show wpAny _ _ (if (Value.ref d == Value.none) = true then _ else _) _ _ s; rw [if_neg (show ¬ ((Value.ref d == Value.none) = true) from fnt)]; refine wpAny_bind (wpAny_pure ?_); refine wpAny_bind (wpAny_dictEntries ho hd ?_); rw [if_neg (by simp)]
  refine wpAny_bind (wpAny_pure ?_); refine wpAny_bind (wpAny_dictEpoch ho hd ?_); rw [if_neg (by simp)]
  refine wpAny_pure ?_; simp only [show ¬ ((i : Int) < 0) from by omega,if_false,Int.toNat_natCast,he]
  refine wpAny_bind ?_
  first | refine wpAny_bind (wpAny_typeNameOfWhole_keyiter hT (wpAny_pure ?_)) | refine wpAny_bind (wpAny_typeNameOf_keyiter hT (wpAny_pure ?_))
  refine wpAny_bind (wpAny_isOneOf_keyiter hT ?_); show wpAny _ _ (setField (.ref it) 1 (rawInt ((i : Int) + 1)) >>= _) _ _ s; refine wpAny_bind (wpAny_setField hoi hdi (by simp) ?_)
  have hit' : (s.heap.update it (Obj.mapFields (·.setIfInBounds 1 (rawInt ((i : Int) + 1))))).IsKeyIter it d (i + 1) es.size ep :=
    ⟨_,Heap.get?_update_self _ hoi (Obj.isFreed_of_fields (Obj.data_mapFields hdi _)),(Obj.cls_mapFields ..).trans hci,by rw [Obj.data_mapFields hdi]; simp [rawInt]⟩
  refine wpAny_bind (wpAny_holding ?_); refine wpAny_bind (wpAny_isOneOf_keyiter (s := { s with heap := s.heap.update it (Obj.mapFields (·.setIfInBounds 1 (rawInt ((i : Int) + 1)))) }) hit'.typeIs ?_)
  show wpAny _ _ (pure e.key) _ _ _; exact wpAny_pure (wpAny_pure ⟨_,rfl,wpAny_pure (q _ hit' (Heap.SameBut.update ..))⟩)
theorem next_end {Q : Option Value -> Shared -> Prop} {it : Addr} {i : Nat} (hh : A.handled = none) (hit : s.heap.IsKeyIter it d i es.size ep) (ho : s.heap.get? d = some ob) (hd : ob.data = .dict es ep) (hi : es.size <= i)
    (q : ∀ h',Heap.ExtBut it s.heap h' -> Q none { s with heap := h' }) : wpAny (model P w) A (pyNext (.ref it)) Q E s := by
  obtain ⟨oi,hoi,hci,hdi⟩ := id hit; have hT := hit.typeIs; unfold pyNext
  refine wpAny_bind (wpAny_attempt (wpAny_callSpecial?_slot (name := Str.ofString "__next__") hT PySem.F.slot_dict_keyiterator_next
    (wpAny_call_entry PySem.F.slot_dict_keyiterator_next hT PySem.F.entry_dict_keyiterator_next ?_ (PySem.F.args_dict_keyiterator_next_1 _))))
  refine wpAny_bind (wpAny_pure ?_); refine wpAny_bind ?_; refine wpAny_bind ?_
  first | refine wpAny_bind (wpAny_typeNameOfWhole_keyiter hT (wpAny_pure ?_)) | refine wpAny_bind (wpAny_typeNameOf_keyiter hT (wpAny_pure ?_))
  refine wpAny_bind (wpAny_fieldsOf hoi hdi ?_); simp only [show Builtin.Dict_items.ownsTuple "dict_keyiterator" = false by decide,Bool.false_eq_true,if_false]
  show wpAny _ _ (if (Value.ref d == Value.none) = true then _ else _) _ _ s; rw [if_neg (show ¬ ((Value.ref d == Value.none) = true) from fnt)]; refine wpAny_bind (wpAny_pure ?_); refine wpAny_bind (wpAny_dictEntries ho hd ?_); rw [if_neg (by simp)]
  refine wpAny_bind (wpAny_pure ?_); refine wpAny_bind (wpAny_dictEpoch ho hd ?_); rw [if_neg (by simp)]
  refine wpAny_pure ?_; simp only [show ¬ ((i : Int) < 0) from by omega,if_false,Int.toNat_natCast,Array.getElem?_eq_none hi]
  refine wpAny_bind ?_
  first | refine wpAny_bind (wpAny_typeNameOfWhole_keyiter hT (wpAny_pure ?_)) | refine wpAny_bind (wpAny_typeNameOf_keyiter hT (wpAny_pure ?_))
  show wpAny _ _ (setField (.ref it) 0 .none >>= _) _ _ s; refine wpAny_bind (wpAny_setField hoi hdi (by simp) ?_)
  show wpAny _ _ (newExc (.type "StopIteration") [] >>= _) _ _ _; refine wpAny_bind ?_; simp only [newExc,newTuple]; refine wpAny_bind (wpAny_newObj_type ?_ (by size_fits))
  refine wpAny_bind (m := firstArgMember _ _) (wpAny_of_eq (a := Value.none) (by first | rfl | (simp only [firstArgMember]; rfl)) ?_)
  refine wpAny_newObj_type ?_ (by size_fits)
  simp only [raiseNew]; refine wpAny_bind (wpAny_handled ?_); rw [show A.in1.handled = none from hh]; refine wpAny_bind (wpAny_pure (wpAny_throw ?_)); refine wpAny_bind (wpAny_isInstance (T := "StopIteration") (b := true) ⟨_,Heap.get?_push_size _ rfl,rfl⟩ isSubtype_stop ?_); exact wpAny_pure (q _ (((Heap.SameBut.update ..).extBut.push _).push _))
end
end HT
namespace L2
open PySem PySem.Spec PyProof.Rows
open PySem PySem.Spec PyProof.Rows PySem.W
structure FnAt (K : Fg) (x : Str) (st : Stmt) (f : Addr) (fd : FuncData) : Prop where
  ns : PySem.W.nsIn K mainGlobals x = some (some (.ref f))
  fn : Fun K x x st f fd
section
variable {P : Program} {w : World} {K : Fg} {mg : Str -> Option Value} {base h : Heap} {x : Str} {st : Stmt} {f c : Addr} {fd : FuncData} {k : Nat} {sp : Sp} {ps : List Str} {oc kV doc pm cdv ct : Value} {od an : Option Addr} {osl : Array (Option Value)}
theorem fnAt (a : PySem.W.nsIn K mainGlobals x = some (some (.ref f))) (l : K.lookup f = some ⟨oc,od,.func (PySem.W.fnOf x x (zbk st) (zaS st) (zaf st) .none kV doc pm an cdv ct),osl⟩) (hc : PySem.W.codeIn K cdv x = true) (hk : PySem.W.keepIn K (.ref f) = true) :
    FnAt K x st f (PySem.W.fnOf x x (zbk st) (zaS st) (zaf st) .none kV doc pm an cdv ct) := ⟨a,zi3 l hc hk⟩
abbrev zfV (x : Str) (st : Stmt) (ps : List Str) : Prop := ∀ (kV doc pm : Value) (an : Option Addr) (cdv ct : Value) (us : List Value),us.length = ps.length -> bindArgs (PySem.W.fnOf x x (zbk st) (zaS st) (zaf st) .none kV doc pm an cdv ct) ⟨us,[]⟩ = pure (ps.zip us)
theorem FnAt.g (a : FnAt K x st f fd) (X : K.In h) (G : h.Ns mainGlobals mg) (ok : FnOk P w K mg base CX0 k f fd ps sp) (b : zfV x st ps) : FnX P w K mg base x k sp := (Fn.mk' ok (PySem.W.mg_of X G a.ns) a.fn.kp (a.fn.binds b)).x
theorem FnAt.gX (a : FnAt K x st f fd) (X : K.In h) (G : h.Ns mainGlobals mg) (ok : FnOk P w K mg base (CX1 P w) k f fd ps sp) (b : zfV x st ps) : FnX P w K mg base x k sp := FnX.mk' ok (PySem.W.mg_of X G a.ns) a.fn.kp (a.fn.binds b)
end
end L2
namespace HT
open PySem PySem.W PySem.Calls PyProof.Rows Builtin Builtin.ObjectAttr Builtin.Getset_descriptor
def excCls (K : Frag) (C : Addr) : Bool :=
  findIn K (.ref C) "__getattribute__" == some (some (.builtin "BaseException.__getattribute__")) && (findIn K (.ref C) "__getattr__" == some none && (findIn K (.ref C) "__class__" == some (some (.builtin "object.__class__")) &&
    (specialIn K (.builtin "object.__class__") "__get__" == some (some (.builtin "getset_descriptor.__get__")) && (takesIn K (.builtin "object.__class__") == some true && (mroIn K C (.type "object") == some true && mroIn K C (.type "BaseException") == some true)))))
section
variable {prog : Program} {w : World} {A : Around} {E : Value -> Shared -> Prop} {s : Shared} {K : Frag} {x C : Addr} {ox : Obj}
theorem zif {tp : Value} {R : Result -> Shared -> Prop} (X : K.In s.heap) (hx : s.heap.get? x = some ox) (hc : ox.cls = .ref C) (hm : mroIn K C (.type "object") = some true) (q : R (.ok (.ret (.ref C))) s) :
    codeAny (model prog w) A (.call (.builtin "getset_descriptor.__get__") ⟨[.builtin "object.__class__",.ref x,tp],[]⟩) R s := by
  obtain ⟨hp,gn,dr,tk,o5⟩ := s; have LT : Looks (model prog w) hp (typeOf (.ref x)) (.ref C) := hc ▸ (Looks.ld hx).andThen .now; have LM := looks_mroIn (M := model prog w) X hm; refine codeAny_call_builtin KF.slot_gs.plain KF.entry_gs (KF.slot_gs.check _ _ _ _ _ _ _ _ KF.type_class (KF.args_gs _ _ _) ?_); unfold Builtin.«getset_descriptor.__get__»; unfold descrGet; rw [dga_obj]; refine wpAny_bind (m := _) (wpAny_pure ?_); unfold descrGetter; unfold descrCheckInstance; unfold descrNameAndClass; unfold isInstance; simp only [KF.owner_class]
  repeat lk
  refine ⟨Code.quiet_builtin _ (by decide +kernel),codeAny_builtin KF.entry_class ?_⟩
  unfold Builtin.«object.__class__»; unfold shownTypeOf
  repeat lk
  exact q
theorem zgV (X : K.In s.heap) (h1 : findIn K (.ref C) "__class__" = some (some (.builtin "object.__class__"))) (h2 : specialIn K (.builtin "object.__class__") "__get__" = some (some (.builtin "getset_descriptor.__get__"))) (h3 : takesIn K (.builtin "object.__class__") = some true) :
    Looks (model prog w) s.heap (find (.ref x) (.ref C) "__class__") (.bind (.builtin "getset_descriptor.__get__") (.builtin "object.__class__")) := by
  have a1 := looks_findIn (M := model prog w) X h1; have a2 : Looks (model prog w) s.heap (getOf (some (.builtin "object.__class__"))) (some (.builtin "getset_descriptor.__get__")) := looks_specialIn X h2; have a3 : Looks (model prog w) s.heap (dataDescriptor? (some (.builtin "object.__class__")) (some (.builtin "getset_descriptor.__get__"))) (some (.builtin "getset_descriptor.__get__",.builtin "object.__class__")) := (looks_takesIn X h3).andThen .now; exact a1.andThen (a2.andThen (a3.andThen (Looks.tag .now)))
theorem exc_class {Q : Option Value -> Shared -> Prop} (X : K.In s.heap) (hx : s.heap.get? x = some ox) (hc : ox.cls = .ref C) (hk : excCls K C = true) (q : Q (some (.ref C)) { s with toks := s.toks + 1 }) :
    wpAny (model prog w) A (getAttr? (.ref x) "__class__") Q E s := by
  unfold excCls at hk; simp only [Bool.and_eq_true,beq_iff_eq] at hk; obtain ⟨k1,k2,k3,k4,k5,k6,k7⟩ := hk; obtain ⟨hp,gn,dr,tk,o5⟩ := s; have LT : Looks (model prog w) hp (typeOf (.ref x)) (.ref C) := hc ▸ (Looks.ld hx).andThen .now; have L1 := looks_findIn (M := model prog w) X k1; have L2 := looks_findIn (M := model prog w) X k2; have LF := zgV (prog := prog) (w := w) (s := ⟨hp,gn,dr,tk,o5⟩) (x := x) X k3 k4 k5; have LB := looks_mroIn (M := model prog w) X k7; unfold getAttr? getAttrBy?; refine wpAny_bind (wpAny_mkText (wpAny_bind (wpAny_attempt ?_))); unfold getAttrBy; refine wpAny_holding (wpAny_bind (LT.at (wpAny_bind (L1.at ?_)))); dsimp only; rw [if_neg (fun z => absurd (Bool.and_eq_true_iff.mp z).2 (by decide +kernel))]
  unfold getAttrByItsOwn; refine wpAny_bind (L2.at ?_); refine wpAny_bind (wpAny_attempt (wpAny_holding ?_)); unfold callGetattribute; rw [if_neg (by decide)]
  unfold boundAndCalled; have fb := PySem.F.attr_ValueError.ga.bind (.ref x); rw [fb]; refine wpAny_bind (wpAny_pure ?_); show wpAny _ _ (call (.builtin "BaseException.__getattribute__") [.ref x,.str "__class__" tk]) _ _ _; have LI : Looks (model prog w) hp (isInstance (.ref x) (.type "BaseException")) true := LT.andThen LB; refine wpAny_call (codeAny_call_builtin PySem.F.attr_ValueError.ga.plain PySem.F.entry_bexc_ga ?_); have hkd : builtinKind "BaseException.__getattribute__" = some .slot := by decide +kernel
  have hsp : splitId "BaseException.__getattribute__" = some ("BaseException","__getattribute__") := by decide +kernel
  have hag := PySem.F.args_bexc_ga (.ref x) (.str "__class__" tk); simp only [checkBuiltinCall,hkd,hsp]; refine wpAny_bind (LI.at ?_); rw [if_neg (by decide)]
  unfold argsOk at hag
  have done : ∀ {Q' : Unit -> Shared -> Prop} {E' : Value -> Shared -> Prop} {s' : Shared},Q' () s' -> wpAny (model prog w) A.in1 (match Manifest.signature? "BaseException.__getattribute__" with
      | some sig => Bind.checkArgs "BaseException.__getattribute__" sig ⟨[.ref x,.str "__class__" tk],[]⟩
      | x => pure ()) Q' E' s' := fun z => by
    generalize Manifest.signature? "BaseException.__getattribute__" = sg at hag
    cases sg with
    | none => exact wpAny_pure z
    | some sig =>
      dsimp only at hag ⊢; rw [hag]; exact wpAny_pure z
  refine done ?_; show wpAny _ _ (Builtin.«object.__getattribute__» ⟨[.ref x,.str "__class__" tk],[]⟩) _ _ _; refine wpAny_bind (wpAny_pure ?_); refine wpAny_bind (wpAny_pure ?_); refine wpAny_bind (LT.at (wpAny_bind (LF.at ?_))); show wpAny _ _ (bindTo (.builtin "getset_descriptor.__get__") (.builtin "object.__class__") (.ref x) (.ref C)) _ _ _; show wpAny _ _ (holding [.builtin "object.__class__"] (call (.builtin "getset_descriptor.__get__") [.builtin "object.__class__",.ref x,.ref C]) >>= ret) _ _ _; refine wpAny_bind (wpAny_holding (wpAny_call (zif (s := ⟨hp,gn,dr,tk + 1,o5⟩) (K := K) X hx hc k6 ?_))); exact wpAny_pure (handed_on rfl (wpAny_pure q))
end
end HT
namespace L2
open PySem PySem.Spec PyProof.Rows
def zbR (e C : Addr) : Heap -> Prop := fun h => ∃ ox,h.get? e = some ox /\ ox.cls = .ref C
theorem zhl {P : Program} {w : World} {H : Hp} {h : Heap} {e C : Addr} (x : zbR e C h) : ObjOk P w H h e (.ext (zbR e C)) :=
  ⟨x,⟨x.choose,x.choose_spec.1⟩,fun h1 h2 ⟨o,q,c⟩ k => ⟨o,k _ q,c⟩⟩
theorem zfh {K : Fg} {e C : Addr} (hk : HT.excCls K C = true) : PySem.W.KitX K (.ref e) (.ref C) (zbR e C) := by
  have hcl : ∃ cd,PySem.W.clsIn K C = some cd := by
    unfold HT.excCls at hk; simp only [Bool.and_eq_true,beq_iff_eq] at hk; obtain ⟨_,_,_,_,_,k6,_⟩ := hk; obtain ⟨cd,h1,_⟩ := Option.bind_eq_some_iff.mp k6; exact ⟨cd,h1⟩
  obtain ⟨cd,hcl⟩ := hcl
  have hob : ∃ c d sl,K.lookup C = some ⟨c,d,.cls cd,sl⟩ := by
    unfold PySem.W.clsIn at hcl
    split at hcl
    . rename_i c d cd' sl ho
      cases hcl; exact ⟨c,d,sl,ho⟩
    . cases hcl
  obtain ⟨c,d,sl,ho⟩ := hob; refine ⟨fun M h _ ⟨ox,h1,h2⟩ => h2 ▸ (PySem.W.Looks.ld h1).andThen .now,fun M h X _ => ?_,fun h tp dd its n sl2 X htp => ?_,fun {prog w A E Q s} X ⟨ox,h1,h2⟩ q => HT.exc_class X h1 h2 hk q⟩
  . intro A' Q' E' s' k q; unfold isType loadHead; exact wpAny_bind (wpAny_loadPart (k _ _ (X _ _ ho)) (wpAny_pure q))
  . refine Bool.eq_false_iff.mpr fun q => ?_; have e : C = tp := Value.ref.inj (beq_iff_eq.mp q); subst e; have z := (X _ _ ho).symm.trans htp; cases z
def ziA (K : Fg) : List V -> Hp -> VK -> Prop := fun xs H Q => ∃ e C c b,xs = [.ref e,c] /\ H e = some (.ext (zbR e C)) /\ HT.excCls K C = true ∧
  ((∃ T,c = .ty T /\ PySem.W.kitOne K (.ref C) (.type T) = some b) \/ ∃ D,c = .ref D /\ PySem.W.kitOne K (.ref C) (.ref D) = some b) /\ Q (.bl b) H
section
variable {X : Cx}
theorem zgM : CallR X (.builtin "isinstance") (ziA X.K) := by
  intro pins s σ H xs us Q I r h; obtain ⟨e,C,c,b,rfl,he,hk,hc,q⟩ := h; obtain ⟨u,w',rfl,rx,rt⟩ := zg5 r
  cases (show u = Value.ref e from rx)
  have hp : zbR e C s.heap := (I.hok e _ he).1
  rcases hc with ⟨T,rfl,k⟩ | ⟨D,rfl,k⟩
  . cases (show w' = Value.type T from rt)
    exact PySem.W.kia_one (zfh hk) I.kIn hp k (fun z => nomatch z) fun tk => ⟨.bl b,H,I.tok tk,rfl,q⟩
  . cases (show w' = Value.ref D from rt)
    exact PySem.W.kia_one (zfh hk) I.kIn hp k (fun z => nomatch z) fun tk => ⟨.bl b,H,I.tok tk,rfl,q⟩
def zji : V -> List V -> Hp -> VK -> Prop := fun x vs H Q => ∃ (l : Addr) (bs : List Bool) (k : Bool),x = .ref l /\ vs = [.bl k] /\ H l = some (.lst (bs.map V.bl)) /\ Q (.int (bs.count k : Nat)) H
theorem zdF : ∀ {bs : List Bool} {us : List Value},Vals (bs.map V.bl) us -> us = bs.map Value.bool
  | [],_,r => by cases r; rfl
  | b :: bs,_,r => by
    cases r with
    | cons r1 r2 => rw [show _ = Value.bool b from r1,zdF r2]; rfl
theorem zc9 (k : Bool) : ∀ bs : List Bool,(bs.map Value.bool).countP (isBoolOf k) = bs.count k
  | [] => rfl
  | b :: bs => by
    rw [List.map_cons,List.countP_cons,List.count_cons,zc9 k bs]
    rfl
theorem zhq : MtM X "list.count" zji := by
  intro pins s σ H x vs v us Q I rx rv h; obtain ⟨l,bs,k,rfl,rfl,hH,q⟩ := h; cases rx; obtain ⟨u,rfl,ru⟩ := rv.one
  cases (show u = Value.bool k from ru)
  obtain ⟨z,its,n,r,hl,e⟩ := I.lstM hH; have ei := zdF r; subst ei; refine call_meets PySem.F.slot_list_count ⟨_,e,rfl⟩ PySem.F.entry_list_count (PySem.F.args_list_count_2 _ _) (PySem.SeqAt.list_countAt l (bs.map Value.bool).toArray n none #[] (.bool k) (isBoolOf k)) ⟨e,fun y hy => ?_,?_⟩
  . have hy' : y ∈ bs.map Value.bool := by simpa using hy
    obtain ⟨b,_,rfl⟩ := List.mem_map.mp hy'; exact PySem.SeqAt.EqAt.bool_bool b k
  . refine ⟨.int _,H,I.tok _,⟨_,rfl⟩,?_⟩; have : (bs.map Value.bool).toArray.toList.countP (isBoolOf k) = bs.count k := zc9 k bs; rw [this]; exact q
end
section
variable {X : Cx} {pins : List (Addr × Obj)} {σ : St} {H : Hp} {s : Shared} {e : Addr} {o : HO}
theorem Inv.take (I : Inv X pins σ H s) (l : Ls X pins H e) (ok : ObjOk X.prog X.w (upd H e o) s.heap e o) : Inv X pins σ (upd H e o) s := by
  have ne : ∀ {b : Addr} {u : HO},H b = some u -> b ≠ e := fun {b u} q z => by rw [z,l.un] at q; cases q
  have H0 : ∀ {b : Addr} {u : HO},H b = some u -> (upd H e o) b = some u := fun {b u} q => by rw [zax (ne q)]; exact q
  refine ⟨I.ok,I.os,I.bare,⟨I.base.keep,I.base.slot,fun b ob q n hx => ?_,I.base.there,fun b xs q => H0 (I.base.tups b xs q),fun b ob u q => H0 (I.base.frzs b ob u q),fun b ps q => ?_⟩,I.loc,I.cell,?_,fun x c q => ?_,fun p hp => ?_,fun b u q => ?_,I.len⟩
  . have : b ≠ e := fun z => by rw [z,l.new] at q; cases q
    rw [zax this]; exact I.base.free b ob q n hx
  . obtain ⟨more,z⟩ := I.base.tbls b ps q; exact ⟨more,H0 z⟩
  . rw [zax (Ne.symm l.loc)]; exact I.free
  . rw [zax (l.cell x c q)]; exact I.freeC x c q
  . obtain ⟨h1,h2,h3⟩ := I.pin p hp; exact ⟨h1,by rw [zax (l.pin p hp)]; exact h2,h3⟩
  . by_cases hb : b = e
    . subst hb; rw [zab] at q; cases q; exact ok
    . rw [zax hb] at q; exact (I.hok b u q).stay (fun _ _ _ z => z) (fun c z => H0 z) fun c xs z => H0 z
theorem Inv.lost {h' : Heap} {t' : Nat} {m' : Str -> Option Value} (I : Inv X pins σ H s) (hn' : h'.Ns X.env.locals m') (hs : Heap.SameBut X.env.locals s.heap h') : Inv X pins (List.replicate X.N.length none) H { s with heap := h',toks := t' } := by
  have old : ∀ b ob,X.s₀.heap.get? b = some ob -> b ≠ X.env.locals := fun b ob q => Nat.ne_of_lt (Nat.lt_of_lt_of_le (Heap.lt_size q) I.ok.above); have tr : ∀ b u,H b = some u -> b ≠ X.env.locals := fun b u q z => by rw [z,I.free] at q; cases q
  refine ⟨I.ok,I.os,I.bare,⟨fun b ob q n hb hx => (hs.2 b (old b ob q)).trans (I.base.keep b ob q n hb hx),fun b ob q n hb hx => ?_,I.base.free,fun b ob q hx => ?_,I.base.tups,I.base.frzs,I.base.tbls⟩,⟨m',hn',fun i x v e1 e2 e3 => ?_⟩,fun y c q => ?_,I.free,I.freeC,fun p hp => ?_,fun b u q => ?_,by simp⟩
  . obtain ⟨sl,z⟩ := I.base.slot b ob q n hb hx; exact ⟨sl,(hs.2 b (old b ob q)).trans z⟩
  . obtain ⟨o',z⟩ := I.base.there b ob q hx; exact ⟨o',(hs.2 b (old b ob q)).trans z⟩
  . rw [List.getElem?_replicate] at e2
    split at e2 <;> cases e2
  . obtain ⟨w',z⟩ := I.cell y c q; exact ⟨w',z.sameBut hs (I.cne y c q)⟩
  . obtain ⟨h1,h2,h3,h4⟩ := I.pin p hp; exact ⟨(hs.2 p.1 h3).trans h1,h2,h3,h4⟩
  . exact (I.hok b u q).stay (fun c v hc z => (hs.2 c (by rcases hc with rfl | hc; exact tr c u q; exact tr c _ hc)).trans z) (fun _ z => z) fun _ _ z => z
end
def zhn (n : Nat) (D : zcB) : zcB := { nx := fun _ H => D.nx (List.replicate n none) H,bk := fun _ H => D.bk (List.replicate n none) H,ct := fun _ H => D.ct (List.replicate n none) H,rt := D.rt }
def zi6 (X : Cx) (tb : XK -> TS) (c : Addr) (i : Nat) (t : TS) : TS := fun D σ H =>
  tb (fun C _ H' => ∃ Ca,C = .ref Ca /\ PySem.W.exmOne X.K C (.ref c) = some true /\ ∀ e,H' e = none -> t (zhn X.N.length D) ((List.replicate X.N.length none).set i (some (.ref e))) (upd H' e (.ext (zbR e Ca)))) D σ H
section
variable {X : Cx} {D : zcB}
theorem zhu {body : List Stmt} {x n : Str} {np hpos pos : Pos} {b₀ : Stmt} {suite : List Stmt} {c : Addr} {i : Nat} {t : TS} {tb : XK -> TS} (O : Own X) (hc : X.calm = true) (hb : ∀ pn E,PSs (X.inTry pn E) body (tb E))
    (hg : Gl X x) (hm : X.mg x = some (.ref c)) (hd : (x == ("__debug__" : Str)) = false) (ht : ∀ e,PSs (X.marked e) (b₀ :: suite) t)
    (hN : X.N.Nodup) (hi : X.N[i]? = some n) (hl : X.env.kindOf n = some .local) (hx : Loc X.env.scope n) (hf : X.fn n = true \/ X.env.scope.names.lookup n = some .local := by first | exact .inl rfl | exact .inr rfl | assumption) :
    PS X (.Try body [.ExceptHandler (some (.Name x np)) (some n) (b₀ :: suite) hpos] [] [] pos) (zi6 X tb c i t) := by
  intro pins s σ H D I h; refine wpAny_Try_except (wpAny_mono (hb (X.pn ++ pins) _ [] s σ H D (I.pinIn.wish _) h) (fun f s1 q => ?_) fun y s1 z => ?_)
  . have q := q.unwish.pinOut
    cases f with
    | next => exact wpAny_execs_nil q
    | _ => exact q
  . obtain ⟨pins',σ',H',e,C,rfl,I1,le,hm1,w⟩ := z; refine zgY I1.pinOut O le.pinOut (hm1.imp id fun ⟨T,f,lT,hf,fl⟩ => ⟨T,f,lT.pinOut,hf,fl⟩) fun h' T I2 lT fl => ?_; refine zih I2 O le.pinOut lT fl fun h2 T2 I3 lT2 f2 => ?_; obtain ⟨Ca,rfl,hx1,w⟩ := w; have le' := le.pinOut
    have hcls : ∃ oe,h2.get? e = some oe /\ oe.cls = .ref Ca := by
      obtain ⟨oe,vs,oT,ts,a0,he,⟨hc,_⟩,_⟩ := f2; exact ⟨oe,he,hc⟩
    obtain ⟨oe,he,hce⟩ := hcls; have LT : PySem.W.Looks (model X.prog X.w) h2 (typeOf (.ref e)) (.ref Ca) := hce ▸ (PySem.W.Looks.ld he).andThen .now; refine wpAny_handleBy_cons (codeAny_handlers_test ?_) (by intro q; cases q)
    refine zcK (X := X.marked e) I3.marked hg hm ?_ hd; refine PySem.W.exm_one I3.kIn LT hx1 _ _ _ _ (fun _ _ q => q) ?_; refine codeAny_handlers_suite_as ?_; refine zih I3 O le' lT2 f2 fun h3 T3 I4 lT3 f3 => ?_
    have hcls3 : zbR e Ca h3 := by
      obtain ⟨oe,vs,oT,ts,a0,he,⟨hc,_⟩,_⟩ := f3; exact ⟨oe,he,hc⟩
    have I5 := (I4.take le' (o := .ext (zbR e Ca)) (zhl hcls3)).weak (σ' := List.replicate X.N.length none) (by rw [List.length_replicate,I4.len]) fun i v q => by
        rw [List.getElem?_replicate] at q; split at q <;> cases q
    refine zdB I5 hN hi hx (show RelV (.ref e) (Value.ref e) from rfl) (fun s4 I6 => ?_) hf; refine wpAny_mono (ht e pins _ _ _ (zhn X.N.length D) I6.marked (w e le'.un)) (fun f s5 q => ?_) fun _ _ z => False.elim z; have q := q.unmarked I.ok.hd; have hp : (X.env.scope.kind == .class || (X.env.scope.kind == .module && X.env.locals != X.env.globals)) = false := by rw [I.ok.kind]; rfl
    have fin : ∀ {σ' : St} {H' : Hp} {f : Flow},Inv X pins σ' H' s5 -> (∀ s6,Inv X pins (List.replicate X.N.length none) H' s6 -> SP X pins D f s6) -> wpAny (model X.prog X.w) X.A (do bindName X.env n .none; unbindBehindTheSuite X.env n hpos) (fun _ s6 => SP X pins D f s6) X.xe s5 := fun I7 k => by
      obtain ⟨m,hn,_⟩ := I7.loc; exact wpAny_nameGoes hl hn hp fun h' m' hn' hs => k _ (I7.lost hn' hs)
    cases f with
    | next => obtain ⟨σ',H',I7,q⟩ := q; exact fin I7 fun s6 I8 => ⟨_,H',I8,q⟩
    | brk => obtain ⟨σ',H',I7,q⟩ := q; exact fin I7 fun s6 I8 => ⟨_,H',I8,q⟩
    | cont => obtain ⟨σ',H',I7,q⟩ := q; exact fin I7 fun s6 I8 => ⟨_,H',I8,q⟩
    | ret u => obtain ⟨v,σ',H',I7,r,q⟩ := q; exact fin I7 fun s6 I8 => ⟨v,_,H',I8,r,q⟩
end
theorem zbp (K : Fg) {X : Cx} (h : X.K = K := by rfl) : CallR X (.builtin "isinstance") (ziA K) := h ▸ zgM
theorem zid : bootBuiltins "ValueError" = some (.type "ValueError") := by decide +kernel
theorem zjp (K : Fg) {X : Cx} {o e : Expr} {es : List Expr} {to : TE} {t : TA} {name : Str} {apos cpos : Pos} {T id : String} {r : V -> List V -> Hp -> VK -> Prop} (pa : PlainAttrs T) (slot : Slot T name id) (hty : typeOf (.builtin id) = pure (.type "method_descriptor")) (hm : MtR X id r) (ho : PE X o to) (ha : PA X (e :: es) t)
    (hbase : attributeBase o name X.env (eval o X.env) = eval o X.env := by rfl)
    (hfew : ((backTo cpos (starEach (e :: es) X.env)).all (fun x => !x.1) && (backToKw cpos (keywordEach [] X.env)).all (fun x => x.1.isSome)
      && decide ((e :: es).length + ([] : List Keyword).length + (if ([] : List Keyword).isEmpty then 0 else 1) < 30)) = true := by rfl)
    (hline : (apos.endLine == cpos.line) = true := by rfl) (hs : starEach (e :: es) X.env = (false,eval e X.env) :: starEach es X.env := by rfl) (hplain : (backTo cpos (starEach es X.env)).any (·.1) = false := by rfl) (hK : X.K = K := by rfl) :
    PE X (.Call (.Attribute o name apos) (e :: es) [] cpos) (tBM K T r to t) := by
  subst hK; exact zfa pa slot hty hm ho ha hbase hfew hline hs hplain
theorem bt1 {x : Str} {st : Stmt} {a0 : Str} (h : ∀ (kV doc pm : Value) (an : Option Addr) (cdv ct u0 : Value),bindArgs (PySem.W.fnOf x x (zbk st) (zaS st) (zaf st) .none kV doc pm an cdv ct) ⟨[u0],[]⟩ = pure [(a0,u0)]) : zfV x st [a0] := fun kV doc pm an cdv ct us e => by
  rcases us with _ | ⟨u0,_ | ⟨u1,us⟩⟩
  . cases e
  . exact h kV doc pm an cdv ct u0
  . cases e
theorem bt2 {x : Str} {st : Stmt} {a0 a1 : Str} (h : ∀ (kV doc pm : Value) (an : Option Addr) (cdv ct u0 u1 : Value),bindArgs (PySem.W.fnOf x x (zbk st) (zaS st) (zaf st) .none kV doc pm an cdv ct) ⟨[u0,u1],[]⟩ = pure [(a0,u0),(a1,u1)]) : zfV x st [a0,a1] := fun kV doc pm an cdv ct us e => by
  rcases us with _ | ⟨u0,_ | ⟨u1,_ | ⟨u2,us⟩⟩⟩
  . cases e
  . cases e
  . exact h kV doc pm an cdv ct u0 u1
  . cases e
def Its (x : Str) : It := ⟨fun i _ => i < x.cps.size,fun i H v H' => H' = H /\ ∃ c,x.cps[i]? = some c /\ v = .str ⟨#[c]⟩,fun i _ => x.cps.size <= i⟩
theorem zgN {P : Program} {w : World} {A : Around} {E : Value -> Shared -> Prop} {s : Shared} {it : Addr} {x : Str} {t : Tok} {i c : Nat} {Q : Option Value -> Shared -> Prop} (hit : s.heap.IsStrIter it (strIterType x) x t i) (hx : x.cps[i]? = some c)
    (hQ : ∀ h',h'.IsStrIter it (strIterType x) x t (i + 1) -> Heap.SameBut it s.heap h' -> Q (some (.str ⟨#[c]⟩ s.toks)) { s with heap := h',toks := s.toks + 1 }) : wpAny (model P w) A (pyNext (.ref it)) Q E s := by
  unfold strIterType at hit hQ
  split at hit
  . rename_i h; rw [if_pos h] at hQ; exact wpAny_pyNext_ascii_item hit hx hQ
  . rename_i h; rw [if_neg h] at hQ; exact wpAny_pyNext_wide_item hit hx hQ
theorem zeI {P : Program} {w : World} {A : Around} {E : Value -> Shared -> Prop} {s : Shared} {it : Addr} {x : Str} {t : Tok} {i : Nat} {Q : Option Value -> Shared -> Prop} (hh : A.handled = none) (hit : s.heap.IsStrIter it (strIterType x) x t i) (hx : x.cps[i]? = none)
    (hQ : ∀ h',Heap.ExtBut it s.heap h' -> Q none { s with heap := h' }) : wpAny (model P w) A (pyNext (.ref it)) Q E s := by
  unfold strIterType at hit
  split at hit
  . exact wpAny_pyNext_ascii_end hh hit hx hQ
  . exact wpAny_pyNext_wide_end hh hit hx hQ
theorem zgB {P : Program} {w : World} {K : Fg} {tg : Expr} (x : Str) (t : Tok) (it : Addr) : ze7 P w K tg (Its x) [it] it (fun i h => h.IsStrIter it (strIterType x) x t i) where
  mem := by simp
  obj := fun i h st b hb => by
    have e : b = it := by simpa using hb
    subst e; obtain ⟨o,e,c,d⟩ := st; exact ⟨o,e,fun v z => by rw [d] at z; cases z⟩
  keep := fun i h h' st k => let ⟨o,e,r⟩ := st; ⟨o,k it (by simp) o e,r⟩
  item := by
    intro X hP hw hK hc i pins s σ H E I hf st hg; subst hP hw hK; have hi : i < x.cps.size := hg; obtain ⟨f0,f1,f2,f3,f4,f5⟩ := hf it (by simp)
    refine zgN st (Array.getElem?_eq_getElem hi) fun h' st' sb => ?_; have I1 : Inv X pins σ H { s with heap := h',toks := s.toks + 1 } := I.turned (t' := s.toks + 1) (fun b o hb e => (sb.2 b hb).trans e) f0 f1 f3 f4 f5
    obtain ⟨oi,ei,ci,di⟩ := id st'; exact ⟨_,rfl,zfp (s := { s with heap := h',toks := s.toks + 1 }) ei ci di (by unfold strIterType; split <;> decide) ⟨.str ⟨#[x.cps[i]]⟩,H,I1,⟨_,rfl⟩,⟨rfl,_,Array.getElem?_eq_getElem hi,rfl⟩,st',fun b hb => (hf b hb).1⟩⟩
  done := by
    intro X hP hw hK hc i pins s σ H E I hf st hg; subst hP hw hK; have hi : x.cps.size <= i := hg; obtain ⟨f0,f1,f2,f3,f4,f5⟩ := hf it (by simp)
    exact zeI (I.ok.hd hc) st (Array.getElem?_eq_none hi) fun h' eb => ⟨rfl,I.turned (t' := s.toks) (fun b o hb e => eb b o hb e) f0 f1 f3 f4 f5⟩
  self := fun A i s Q E st h => by
    unfold strIterType at st
    split at st
    . exact wpAny_pyIter_striter_ascii st h
    . exact wpAny_pyIter_striter_wide st h
def zjH (tl : TE) : TI := fun σ H R => tl σ H fun v H1 => ∃ x,v = .str x /\ R (Its x) H1
section
variable {X : Cx} {tg : Expr}
theorem zh9 {l : Expr} {tl : TE} (hl : PE X l tl) : PI X tg l (zjH tl) := by
  intro pins s σ H R I h; refine thn (hl pins s σ H _ I h) fun v s1 ⟨y,H1,I1,r1,q1⟩ => ?_; obtain ⟨x,e,q⟩ := q1; subst e; obtain ⟨t,rfl⟩ := (show ∃ t,v = Value.str x t from r1); refine wpAny_pyIter_strU ?_; refine ⟨s1.heap.objs.size,[s1.heap.objs.size],_,_,H1,rfl,I1.kept (t' := s1.toks) fun b o e => Heap.get?_push_of_some _ e,zgB x t _,⟨_,Heap.get?_push_size _ rfl,rfl,rfl⟩,fun b hb => ?_,q⟩; have e : b = s1.heap.objs.size := by simpa using hb
  subst e; exact I1.fpOk (Nat.le_refl _) (I1.hok.fresh (Nat.le_refl _))
end
theorem zis {x : Str} {idx : List Nat} {te : TE} {σ : St} {H : Hp} {Q : VK} (f : Nat -> V) (hl : x.cps.size <= sizeLine)
    (he : ∀ c ∈ x.cps.toList,∀ D ys (R : VK),H D = none -> R (f c) (upd H D (.lst ys)) -> te (some (.str ⟨#[c]⟩) :: cap σ idx) (upd H D (.lst ys)) R)
    (hQ : ∀ D,H D = none -> Q (.ref D) (upd H D (.lst (x.cps.toList.map f)))) : LCW idx (Its x) (zbG 0) zcE te Q σ H := by
  intro D hD; have hsz : x.cps.toList.length = x.cps.size := Array.length_toList; refine ⟨fun i m ys ρ H' => m = x.cps.size - i /\ i <= x.cps.size /\ ys = (x.cps.toList.take i).map f /\ (∃ y0,ρ = y0 :: cap σ idx) /\ H' = upd H D (.lst ys),⟨x.cps.size,by simp,Nat.zero_le _,by simp,⟨none,rfl⟩,rfl⟩,?_⟩
  rintro i m ys ρ H' ⟨rfl,hi,hys,⟨y0,rfl⟩,rfl⟩; refine ⟨zab,?_⟩
  by_cases hlt : i < x.cps.size
  . refine .inr ⟨hlt,?_,fun v H' y => ?_⟩
    . rw [hys,List.length_map,List.length_take]; omega
    . obtain ⟨e,c,hc,rfl⟩ := y; subst e; have hc' : x.cps.toList[i]? = some c := by rw [Array.getElem?_toList]; exact hc
      show te (some (.str ⟨#[c]⟩) :: cap σ idx) (upd H D (.lst ys)) _; refine he c (List.mem_of_getElem? hc') D ys _ hD ⟨zab,x.cps.size - (i + 1),by omega,rfl,hlt,?_,⟨_,rfl⟩,zf7⟩
      rw [List.take_add_one,hc',List.map_append,hys]
      rfl
  . have e : i = x.cps.size := by omega
    subst e; refine .inl ⟨Nat.le_refl _,?_⟩; rw [hys,<- hsz,List.take_length]; exact hQ D hD
open PySem PySem.Spec PyProof.Rows PySem.Builtin PySem.Builtin.Str
def zjc : V -> List V -> Hp -> VK -> Prop := fun x vs H Q => ∃ (z y : Str),x = .str z /\ vs = [.str y] /\ (y.length == 0) = false /\ z.length + 2 <= sizeLine /\ ∀ l,H l = none -> Q (.ref l) (upd H l (.lst ((Txt.split z y).map V.str)))
theorem zbT : ∀ (l : List (Str × Tok)),Vals ((l.map (·.1)).map V.str) (strValues l)
  | [] => .nil
  | p :: r => .cons ⟨_,rfl⟩ (zbT r)
theorem zgD (x y : Str) : (Txt.split x y).length <= x.length + 2 := by
  unfold Txt.split; have e1 := StrLaws.occ_length_le x y 0 x.length (x.length + 1)
  split
  . simp
  . split
    . simp
    . rw [length_partsBetween]; omega
theorem zg3 {X : Cx} : MtM X "str.split" zjc := by
  intro pins s σ H x vs v us Q I rx rv h; obtain ⟨z,y,rfl,rfl,hy,hsz,q⟩ := h; obtain ⟨t,rfl⟩ := (show ∃ t,v = Value.str z t from rx); obtain ⟨u',rfl,ru⟩ := rv.one; obtain ⟨u,rfl⟩ := (show ∃ t,u' = Value.str y t from ru)
  have hn : (partsBetween z (occurrences z y 0 z.length (z.length + 1)) y.length).length <= sizeLine := by
    have e1 := StrLaws.occ_length_le z y 0 z.length (z.length + 1); rw [length_partsBetween]; omega
  have fin : ∀ (l : List (Str × Tok)) (k : Nat),l.map (·.1) = Txt.split z y -> EP X pins σ Q (.ref s.heap.objs.size) { s with heap := s.heap.push { cls := .type "list",data := .seq (strValues l).toArray },toks := k } := fun l k e => by
    have hl : (strValues l).length = (Txt.split z y).length := by rw [<- e]; unfold strValues; simp
    have hls := zgD z y; refine ⟨.ref s.heap.objs.size,_,I.laid (a := s.heap.objs.size) (o := .lst ((Txt.split z y).map V.str)) (t' := k) (fun b o q => Heap.get?_push_of_some _ q) (Nat.le_refl _) ⟨by rw [List.length_map]; omega,strValues l,0,?_,Heap.get?_push_size _ rfl⟩,rfl,q _ (I.hok.fresh (Nat.le_refl _))⟩
    rw [<- e]; exact zbT l
  cases h1 : (decide (z.length < y.length) || decide (strKind z < strKind y))
  . cases hf : (occurrences z y 0 z.length (z.length + 1)).isEmpty
    . refine call_meets F.slot_str_split (typeIs_str _ _ _) F.entry_str_split (F.args_str_split_2 _ _) (meets_str_split_sep z y t u h1 hy hf (by omega) hn) ?_
      show wants _ _ _ { s with toks := _,heap := s.heap.push { cls := .type "list",data := .seq (strsFrom s.toks (partsBetween z (occurrences z y 0 z.length (z.length + 1)) y.length)).toArray } }
      rw [strsFrom_eq]; exact fin (numbered s.toks _) _ ((numbered_texts _ _).trans ((if_neg (ne_true_of_eq_false h1)).trans (if_neg (ne_true_of_eq_false hf))).symm)
    . exact call_meets F.slot_str_split (typeIs_str _ _ _) F.entry_str_split (F.args_str_split_2 _ _) (meets_str_split_not_found z y t u h1 hy hf) (fin [(z,t)] s.toks ((if_neg (ne_true_of_eq_false h1)).trans (if_pos hf)).symm)
  . exact call_meets F.slot_str_split (typeIs_str _ _ _) F.entry_str_split (F.args_str_split_2 _ _) (meets_str_split_cannot_occur z y t u h1) (fin [(z,t)] s.toks (if_pos h1).symm)
def zhX : V -> List V -> Hp -> VK -> Prop := fun x vs H Q => ∃ (z y : Str),x = .str z /\ vs = [.str y] /\ Q (.bl (Txt.startswith z y)) H
theorem zd5 {X : Cx} : MtM X "str.startswith" zhX := by
  intro pins s σ H x vs v us Q I rx rv h; obtain ⟨z,y,rfl,rfl,q⟩ := h; obtain ⟨t,rfl⟩ := (show ∃ t,v = Value.str z t from rx); obtain ⟨u',rfl,ru⟩ := rv.one; obtain ⟨u,rfl⟩ := (show ∃ t,u' = Value.str y t from ru); exact call_meets F.slot_str_startswith (typeIs_str _ _ _) F.entry_str_startswith (F.args_str_startswith_2 _ _) (gives_str_startswith z y t u).meets ⟨.bl (Txt.startswith z y),H,I,rfl,q⟩
def zjL (K : Fg) : V -> List V -> Hp -> VK -> Prop := fun x vs H Q => ∃ (z : Str) (a : Addr) (ss : List Str),x = .str z /\ vs = [.ref a] /\ SqL K H a (ss.map V.str) /\ JoinOk z ss = true /\ Q (.str (Txt.join z ss)) H
theorem zeg : ∀ {ss : List Str} {us : List Value},Vals (ss.map V.str) us -> ∃ l : List (Str × Tok),strValues l = us /\ l.map (·.1) = ss
  | [],us,r => by cases r; exact ⟨[],rfl,rfl⟩
  | x :: ss,us,r => by
    cases r with
    | cons r1 r2 =>
      obtain ⟨t,rfl⟩ := (show ∃ t,_ = Value.str x t from r1); obtain ⟨l,e1,e2⟩ := zeg r2; exact ⟨(x,t) :: l,by rw [<- e1]; rfl,by rw [<- e2]; rfl⟩
theorem zhN {X : Cx} : MtM X "str.join" (zjL X.K) := by
  intro pins s σ H x vs v us Q I rx rv h; obtain ⟨z,a,ss,rfl,rfl,hS,hok,q⟩ := h; obtain ⟨t,rfl⟩ := (show ∃ t,v = Value.str z t from rx); obtain ⟨u',rfl,ru⟩ := rv.one
  cases (show u' = Value.ref a from ru)
  obtain ⟨its,rv',p,hz⟩ := I.list hS; obtain ⟨l,e1,e2⟩ := zeg rv'; subst e1; rw [<- e2] at hok q; have hok' := hok; unfold JoinOk at hok'; rw [Bool.not_eq_true'] at hok'; exact call_meets F.slot_str_join (typeIs_str _ _ _) F.entry_str_join (F.args_str_join_2 _ _) (meets_str_join_list z t a l hok') ⟨p.isList,post_join l ⟨joinFit_length hok',fun t' k => ⟨.str (Txt.join z (l.map (·.1))),H,I.tok _,⟨_,rfl⟩,q⟩⟩⟩
def zhY (M : Model) (A : Around) (E : Value -> Shared -> Prop) (Q : Value -> Shared -> Prop) (acc : Value) (ce : Env) : Result -> Shared -> Prop
  | .ok _,t => ∃ m,t.heap.Ns ce.locals m /\ ∀ h',Heap.SameBut ce.locals t.heap h' -> Q acc { t with heap := h' }
  | .error x,t => ∃ m,t.heap.Ns ce.locals m /\ ∀ h',Heap.SameBut ce.locals t.heap h' -> wpAny M A (passOn "comprehension.variables-let-go" x ce : Sem Value) (fun _ _ => False) E { t with heap := h' }
theorem zjv {M : Model} {A : Around} {E : Value -> Shared -> Prop} {s : Shared} {env : Env} {e : Expr} {sc : Scope} {pos : Pos} {mk fst : Sem Value} {c0 : Comprehension} {cr : List Comprehension} {clo : List (Str × Addr)} {Q : Value -> Shared -> Prop}
    (h1 : clausesOf e = c0 :: cr) (h2 : ∀ x,foldedSetIterable c0.iter env x = pure x) (h3 : closureFor sc env = pure clo) (h4 : sc.kind = .function) (h5 : ∀ x ∈ sc.names,x.2 = .local -> sc.names.lookup x.1 = some .local)
    (h : wpAny M A fst (fun x t1 => wpAny M A (pyIter x) (fun it t2 => wpAny M A mk (fun acc t3 => wpAny M A (newFunctionEnv sc env.globals clo [] env.qual none .none (some env)) (fun ce t4 =>
      codeAny M A (.compStart e 0 it acc { ce with scope := relabel sc env }) (zhY M A E Q acc { ce with scope := relabel sc env }) t4) E t3) E t2) E t1) E s) :
    wpAny M A (comprehension e sc env pos mk false fst none) Q E s := by
  unfold comprehension; rw [h3,h1]; have up : ∀ (y : Value) (t : Shared),E y t -> E y t := fun _ _ q => q; refine wpAny_bind (wpAny_mono h (fun x t1 q1 => ?_) up); refine wpAny_bind (wpAny_standAt (wpAny_bind (wpAny_of_eq (h2 x) (wpAny_bind (wpAny_holding (wpAny_mono q1 (fun it t2 q2 => ?_) up)))))); refine wpAny_standIf (wpAny_bind (wpAny_mono q2 (fun acc t3 q3 => ?_) up)); refine wpAny_bind (wpAny_pure (wpAny_bind (wpAny_mono q3 (fun ce t4 q4 => ?_) up))); dsimp only
  have loc : ∀ y ∈ (sc.names.filter fun y => (y.2 == .local || y.2 == .cell) && y.1 != (".0" : Str)).reverse,y.2 = .local -> Env.kindOf { ce with scope := relabel sc env } y.1 = some .local :=
    fun y hy hl => lookup_relabel_local (h5 y (List.mem_filter.mp (List.mem_reverse.mp hy)).1 hl)
  refine wpAny_holding (wpAny_bind (wpAny_attempt (wpAny_holding (wpAny_run (codeAny_mono q4 fun r t5 q5 => ?_)))))
  cases r with
  | ok f =>
    obtain ⟨m,hn,q⟩ := q5; exact wpAny_bind (wpAny_holding (wpAny_comp_letGo (cenv := { ce with scope := relabel sc env }) h4 _ t5 m loc hn fun h' _ _ sb => wpAny_pure (q h' sb)))
  | error x =>
    obtain ⟨m,hn,q⟩ := q5; exact wpAny_bind (wpAny_holding (wpAny_comp_letGo (cenv := { ce with scope := relabel sc env }) h4 _ t5 m loc hn fun h' _ _ sb => wpAny_mono (q h' sb) (fun _ _ z => z.elim) fun _ _ z => z))
theorem zgr {e : Value} {env env' : Env} (h : env.frame = env'.frame) : noteFrame e env = noteFrame e env' := by
  unfold noteFrame PySem.frameOf; rw [h]
section
variable {prog : Program} {w : World} {A : Around} {R : Result -> Shared -> Prop} {s : Shared}
theorem zdY {elt target iter : Expr} {scope : Scope} {pos : Pos} {it acc : Value} {env : Env} (I : Nat -> Shared -> Prop)
    (turn : ∀ n s,I n s -> wpAny (model prog w) A (pyNext it) (fun r s₁ => match r with
      | none => R (.ok .next) s₁
      | some v => wpAny (model prog w) A (letOwnedTupleGo target it v) (fun _ s₁' => wpAny (model prog w) A (assign target env v) (fun _ s₂ =>
            wpAny (model prog w) A (eval elt env) (fun x s₄ =>
              wpAny (model prog w) A (call (.builtin "list.append") [acc,x]) (fun _ s₅ => ∃ m,m < n /\ I m s₅) (fun _ _ => False) s₄) (notedBy (model prog w) A env fun x t => R (.error x) t) s₂) (fun _ _ => False) s₁') (fun _ _ => False) s₁) (fun _ _ => False) s)
    (n : Nat) (h : I n s) :
    codeAny (model prog w) A (.compLoop (.ListComp elt [⟨target,iter,[],0⟩] scope pos) 0 it acc env) R s := by
  refine codeAny_loop rfl I (fun n s hI => ?_) n h; show wpAny _ A ((compTurn (.ListComp elt [⟨target,iter,[],0⟩] scope pos) 0 it acc env).onRaise (fun x => do noteFrame x env; theTreesLotGoes x)) _ _ s
  refine wpAny_noted ?_; rw [compTurn_list]; refine wpAny_bind (wpAny_standAt (wpAny_bind (wpAny_mono (turn n s hI) (fun r s₁ h₁ => ?_) fun _ _ h' => h'.elim)))
  cases r with
  | none => exact wpAny_pure h₁
  | some v =>
    refine wpAny_bind (wpAny_mono h₁ (fun _ s₁' h₁' => ?_) fun _ _ h' => h'.elim); refine wpAny_bind (wpAny_mono h₁' (fun _ s₂ h₂ => wpAny_bind (wpAny_tests_nil ?_)) fun _ _ h' => h'.elim); exact wpAny_bind (wpAny_bind (wpAny_mono h₂ (fun x s₄ h₄ => wpAny_bind (wpAny_mono h₄ (fun _ s₅ h₅ => wpAny_pure (wpAny_pure ⟨rfl,h₅⟩)) fun _ _ h' => h'.elim)) fun _ _ h' => h'))
end
def XC (Y : Cx) (E : XK) (x : Value) (s' : Shared) : Prop := ∃ pins σ H e T K,x = .ref e /\ Inv Y pins σ H s' /\ Ls Y pins H e /\ Ls Y pins H T /\ zb3 s'.heap e T K .none /\ E K none H
abbrev Cx.inComp (X : Cx) (scope : Scope) (C : Addr) (N : List Str) (s₀ : Shared) (H₀ : Hp) (fp : List Addr) (pn : List (Addr × Obj)) (E : XK) : Cx :=
  ((zaw X scope C N s₀ H₀ fp).pinned pn).wish (XC ((zaw X scope C N s₀ H₀ fp).pinned pn) E)
def zeE (fp : List Addr) (pn : List (Addr × Obj)) : Prop := ∀ b ∈ fp,∃ p ∈ pn,p.1 = b
section
variable {X : Cx} {E : XK}
theorem zfY {scope : Scope} {C : Addr} {N : List Str} {s₀ : Shared} {H₀ : Hp} {fp : List Addr} {pn : List (Addr × Obj)} (hp : zeE fp pn) : zbW (CX1 X.prog X.w) (X.inComp scope C N s₀ H₀ fp pn E) E := fun pins σ H s x s' I h => by
  obtain ⟨e,T,K,H',rfl,os,bare,un,hok,⟨e1,e2⟩,⟨t1,t2⟩,fl,q⟩ := h; have I' : Inv (X.inComp scope C N s₀ H₀ fp pn E) pins σ H' s' := I.call' os un hok bare fun b z => nomatch z
  have out : ∀ z,s.heap.get? z = none -> z ∉ fp := fun z hz hm => by
    obtain ⟨p,hp1,hp2⟩ := hp z hm; have := (I.pin p (List.mem_append_left _ hp1)).1; rw [hp2,hz] at this; cases this
  have ls : ∀ z,H' z = none -> s.heap.get? z = none -> Ls (X.inComp scope C N s₀ H₀ fp pn E) pins H' z := fun z h1 h2 => by
    have l := I.ls h2 (out z h2); exact ⟨h1,l.new,l.loc,l.cell,l.pin⟩
  exact ⟨pins,σ,H',e,T,K,rfl,I'.unwish,(ls e e1 e2).unwish,(ls T t1 t2).unwish,fl,q⟩
theorem ziu {pins : List (Addr × Obj)} {σ : St} {H : Hp} {s : Shared} {e T : Addr} {C fl : Value} {env : Env} {what : String} {Q : Value -> Shared -> Prop} {F : Value -> Shared -> Prop} (I : Inv X pins σ H s) (O : Own X) (hf : env.frame = X.env.frame) (le : Ls X pins H e) (lT : Ls X pins H T) (hm : zb3 s.heap e T C fl)
    (hq : ∀ h',Inv X pins σ H { s with heap := h' } -> zb3 h' e T C (rawInt X.env.locals) -> F (.ref e) { s with heap := h' }) : wpAny (model X.prog X.w) X.A (PySem.passOn what (.ref e) env : Sem Value) Q F s := by
  obtain ⟨oe,vs,oT,ts,a0,he,⟨hc,h0⟩,hd,h1,hTe,hT,hdT,h3⟩ := hm; have hs3 : 3 < ts.size := (Array.getElem?_eq_some_iff.mp h3).1; unfold PySem.passOn; refine wpAny_bind (wpAny_field he hd h1 ?_); rw [if_neg (show ¬ ((Value.ref T == Value.none) = true) from by simp)]
  unfold setFlight; rw [hf,O.fr]; refine wpAny_bind (wpAny_bind (wpAny_field he hd h1 ?_)); rw [if_pos (show (Value.ref T != Value.none) = true from by simp)]
  refine wpAny_setField hT hdT hs3 ?_; have ot : ∀ b,b ≠ T -> (s.heap.update T (Obj.mapFields (·.setIfInBounds 3 (rawInt X.env.locals)))).get? b = s.heap.get? b := fun b hb => Heap.get?_update_other _ _ (Ne.symm hb); have hz : ∀ z ∈ [T],Ls X pins H z := fun z hz => by rw [List.mem_singleton.mp hz]; exact lT
  have f : Fl (frs X.stack) [T] s.heap (s.heap.update T (Obj.mapFields (·.setIfInBounds 3 (rawInt X.env.locals)))) := by
    refine ⟨fun b o h1 _ e => (ot b fun q => h1 (by simp [q])).trans e,fun b o hb e => ⟨o.slots,(ot b fun q => ?_).trans e⟩⟩
    obtain ⟨o',e1,e2⟩ := zay I.stack b hb; rw [q,hT] at e1; cases e1; exact e2 ts hdT
  refine wpAny_throw (hq _ (I.fly hz f) ⟨oe,vs,_,_,a0,(ot e (Ne.symm hTe)).trans he,⟨hc,h0⟩,hd,h1,hTe,Heap.get?_update_self _ hT (Obj.isFreed_of_fields (Obj.data_mapFields hdT _)),Obj.data_mapFields hdT _,by simp [hs3]⟩)
end
section
variable {X : Cx} {elt iter : Expr} {x : Str} {px : Pos} {scope : Scope} {pos : Pos} {ns : List Str} {idx : List Nat} {wi : TI} {te : TE} {E : XK}
theorem zg0 {pins : List (Addr × Obj)} {s s' : Shared} {σ : St} {H : Hp} {fp : List Addr} {C : Addr} {pn : List (Addr × Obj)} {y : Value} {Q : Value -> Shared -> Prop} {acc : Value} {ce : Env} (O : Own X) (hE : ∀ y s',XQ X E y s' -> X.xe y s') (I : Inv X pins σ H s) (f2 : ∀ b ∈ fp,zch X pins H b) (hC : s.heap.objs.size <= C)
    (hce : ce.frame = X.env.frame) (hcl : ce.locals = C)
    (h : XC ((zaw X scope C (x :: ns) s H fp).pinned pn) E y s') : notedBy (model X.prog X.w) X.A ce (fun y t => zhY (model X.prog X.w) X.A X.xe Q acc ce (.error y) t) y s' := by
  obtain ⟨pins',ρ,H',e,T0,K,rfl,J,le,lT0,fl0,q⟩ := h
  have J0 : Inv (zaw X scope C (x :: ns) s H fp) [] ρ H' s' := 
    ⟨⟨J.ok.mod,J.ok.kind,J.ok.glob,J.ok.blt,J.ok.above,J.ok.inj,J.ok.has,J.ok.cab,J.ok.hd,J.ok.frames,J.ok.stk,J.ok.exf,J.ok.bs,J.ok.bsz,J.ok.noex,J.ok.exfs,J.ok.funs,J.ok.frf⟩,J.os,J.bare,J.base,J.loc,J.cell,J.free,J.freeC,fun p hp => absurd (show p ∈ ([] : List (Addr × Obj)) from hp) (by simp),J.hok,J.len⟩
  have I1 := I.uncomp f2 J0; have F1 : zch X pins H' C := I.fpOk hC J.free; obtain ⟨m,hns,_⟩ := J.loc; have hns' : s'.heap.Ns C m := hns; obtain ⟨oC,es,ep,hoC,rC⟩ := id hns'; obtain ⟨f0,f1,f3,f4,f5,f6⟩ := F1
  have hfree : ∀ v,oC.data ≠ .cell v := fun v z => by
    have := rC
    simp_all
  have I2 : Inv X (pins ++ [(C,oC)]) σ H' s' := I1.pins_of fun p hp => by
    rcases List.mem_append.mp hp with hp | hp
    . exact I1.pin p (List.mem_append_right _ hp)
    . rw [List.mem_singleton.mp hp]; exact ⟨hoC,f0,f1,f3,hfree⟩
  have ls : ∀ z,Ls ((zaw X scope C (x :: ns) s H fp).pinned pn) pins' H' z -> Ls X (pins ++ [(C,oC)]) H' z := fun z l => by
    have l2 := I.ls (z := z) l.new (by rw [O.ex]; simp)
    refine ⟨l.un,l2.new,l2.loc,l2.cell,fun p hp => ?_⟩
    rcases List.mem_append.mp hp with hp | hp
    . exact l2.pin p (List.mem_append_left _ hp)
    . rcases List.mem_append.mp hp with hp | hp
      . exact l2.pin p (List.mem_append_right _ hp)
      . rw [List.mem_singleton.mp hp]; exact fun z => l.loc z.symm
  have unp : ∀ {z : Addr} {H : Hp},Ls X (pins ++ [(C,oC)]) H z -> Ls X pins H z /\ z ≠ C := fun l => ⟨⟨l.un,l.new,l.loc,l.cell,fun p hp => l.pin p (by
    rcases List.mem_append.mp hp with hp | hp
    . exact List.mem_append_left _ hp
    . exact List.mem_append_right _ (List.mem_append_left _ hp))⟩,fun z => l.pin (C,oC) (List.mem_append_right _ (List.mem_append_right _ (by simp))) z.symm⟩
  have hm2 : zia s'.heap e K \/ Up X (pins ++ [(C,oC)]) H' s'.heap e K := .inr ⟨T0,_,ls T0 lT0,.inl rfl,fl0⟩; show wpAny (model X.prog X.w) X.A (noteFrame (.ref e) ce) _ _ s'; rw [zgr hce]; refine zgY I2 O (ls e le) hm2 fun h' T I3 lT fl => ?_; have hC3 : h'.get? C = some oC := (I3.pin (C,oC) (List.mem_append_right _ (List.mem_append_right _ (by simp)))).1
  refine ⟨m,by rw [hcl]; exact ⟨oC,es,ep,hC3,rC⟩,fun h2 sb => ?_⟩
  rw [hcl] at sb; obtain ⟨le1,heC⟩ := unp (ls e le); obtain ⟨lT1,hTC⟩ := unp lT; have I4 : Inv X pins σ H' { s' with heap := h' } := I3.pins_of fun p hp => I3.pin p (List.mem_append_right _ (List.mem_append_left _ hp))
  have I5 : Inv X pins σ H' { s' with heap := h2 } := I4.turned (t' := s'.toks) (fun b o hb e => (sb.2 b hb).trans e) f0 f1 f4 f5 f6
  obtain ⟨oe,vs,oT,ts,a0,he,hc,hd,h1,hTe,hT,hdT,h3⟩ := fl; have fl5 : zb3 h2 e T K (rawInt X.env.locals) := ⟨oe,vs,oT,ts,a0,(sb.2 e heC).trans he,hc,hd,h1,hTe,(sb.2 T hTC).trans hT,hdT,h3⟩; exact ziu I5 O hce le1 lT1 fl5 fun h6 I6 f6 => hE _ _ ⟨pins,σ,H',e,K,rfl,I6,le1,.inr ⟨T,_,lT1,.inr rfl,f6⟩,q⟩
theorem zfu {pins : List (Addr × Obj)} {s : Shared} {σ : St} {H : Hp} {Q : VK} {it : Addr} {fp : List Addr} {tn : Nat -> Heap -> Prop} {J : It} {tg : Expr} {g : TG} {QQ : Value -> Shared -> Prop} (N : CompNames X.env.scope X.N scope x ns idx) (hcalm : X.calm = true) (O : Own X) (hE : ∀ y s',XQ X E y s' -> X.xe y s')
    (hg : ∀ C s₀ H₀ fp,PG (zaw X scope C (x :: ns) s₀ H₀ fp) tg g)
    (he : ∀ C s₀ H₀ fp pn,zeE fp pn -> PE (X.inComp scope C (x :: ns) s₀ H₀ fp pn E) elt te)
    (I : Inv X pins σ H s) (T : ze7 X.prog X.w X.K tg J fp it tn) (st : tn 0 s.heap) (f2 : ∀ b ∈ fp,zch X pins H b)
    (h : LCW idx J g zcE te Q σ H)
    (hR : ∀ D C s' H',Inv X pins σ H' s' -> zch X pins H' C -> Q (.ref D) H' -> ∀ h',Heap.SameBut C s'.heap h' -> QQ (.ref D) { s' with heap := h' }) :
    wpAny (model X.prog X.w) X.A (newList []) (fun acc s₃ => wpAny (model X.prog X.w) X.A (newFunctionEnv scope X.env.globals (zbH X.env.cells scope.names []) [] X.env.qual none .none (some X.env)) (fun cenv s₄ =>
      codeAny (model X.prog X.w) X.A (.compStart (.ListComp elt [⟨tg,iter,[],0⟩] scope pos) 0 (.ref it) acc { cenv with scope := relabel scope X.env }) (zhY (model X.prog X.w) X.A X.xe QQ acc { cenv with scope := relabel scope X.env }) s₄) X.xe s₃) X.xe s := by
  refine wpAny_newObj_type (wpAny_newFunctionEnv N.cell (by intro y hy; simp at hy) (fun h₁ hns₁ hsb₁ => ?_) N.kind)
  dsimp only at hns₁ hsb₁ ⊢; generalize hH2 : s.heap.push { cls := .type "list",dict := none,data := .seq ([] : List Value).toArray } = H2 at hns₁ hsb₁ ⊢; have hC : H2.objs.size = s.heap.objs.size + 1 := by rw [<- hH2,Heap.size_push]
  have hDC : s.heap.objs.size ≠ H2.objs.size := by rw [hC]; exact Nat.ne_of_lt (Nat.lt_succ_self _)
  have hCle : s.heap.objs.size <= H2.objs.size := by rw [hC]; exact Nat.le_succ _
  have below : ∀ b,b < s.heap.objs.size -> b ≠ H2.objs.size := fun b hb => by rw [hC]; exact Nat.ne_of_lt (Nat.lt_succ_of_lt hb)
  have old : ∀ b o,s.heap.get? b = some o -> h₁.get? b = some o := fun b o e => hsb₁.extBut b o (below b (Heap.lt_size e)) (Heap.get?_push_of_some _ (hH2 ▸ Heap.get?_push_of_some _ e)); have hacc : h₁.get? s.heap.objs.size = some { cls := .type "list",data := .seq #[] 0 } := hsb₁.extBut _ _ hDC (Heap.get?_push_of_some _ (hH2 ▸ Heap.get?_push_size _ rfl)); have hns : h₁.Ns H2.objs.size fun _ => none := by simpa using hns₁
  have J0 := Inv.comp (t' := s.toks + ([] : List (Str × Value)).length) N I f2 (fun b hb => let ⟨o,e,_⟩ := T.obj 0 s.heap st b hb; ⟨o,e⟩) (Nat.le_refl _) hCle hDC old hacc hns; obtain ⟨W,⟨m0,w0⟩,turn⟩ := h s.heap.objs.size (I.hok.fresh (Nat.le_refl _))
  have stat : ∀ {H' : Hp},(∀ b ∈ fp,H' b = none) -> ∀ b ∈ fp,zch (zaw X scope H2.objs.size (x :: ns) s H fp) [] H' b := fun hn b hb => by
    obtain ⟨_,f1,f3,f4,f5,f6⟩ := f2 b hb; obtain ⟨o,e,_⟩ := T.obj 0 s.heap st b hb; refine ⟨hn b hb,below b (Heap.lt_size e),fun z => ?_,.inl hb,fun y c q => f5 y c (zbr (acc := []) (fun _ _ q => by simp at q) y c q),fun p hp => absurd (show p ∈ ([] : List (Addr × Obj)) from hp) (by simp)⟩
    rcases List.mem_cons.mp (I.stkSub b z) with q | q
    . exact f1 q
    . exact f3 q
  have fr0 : ∀ b ∈ fp,upd H s.heap.objs.size (.lst []) b = none := fun b hb => by
    obtain ⟨o,e,_⟩ := T.obj 0 s.heap st b hb; rw [zax (Nat.ne_of_lt (Heap.lt_size e))]; exact (f2 b hb).1
  have st1 : tn 0 h₁ := T.keep 0 _ _ st fun b _ o e => old b o e
  have loop : ∀ s₃ : Shared,s₃ = { s with heap := h₁,toks := s.toks + ([] : List (Str × Value)).length } →
      codeAny (model X.prog X.w) X.A (.compLoop (.ListComp elt [⟨tg,iter,[],0⟩] scope pos) 0 (.ref it) (.ref s.heap.objs.size) (compEnvC scope (zbH X.env.cells scope.names []) H2.objs.size X.env))
        (zhY (model X.prog X.w) X.A X.xe QQ (.ref s.heap.objs.size) (compEnvC scope (zbH X.env.cells scope.names []) H2.objs.size X.env)) s₃ := by
    rintro s₃ rfl; refine zdY (fun n s' => ∃ i ρ H' ys,Inv (zaw X scope H2.objs.size (x :: ns) s H fp) [] ρ H' s' /\ tn i s'.heap /\ (∀ b ∈ fp,H' b = none) /\ W i n ys ρ H') ?_ m0 ⟨0,_,_,[],J0,st1,fr0,w0⟩; rintro n s3 ⟨i,ρ,H3,ys,I3,st3,fr3,w3⟩; obtain ⟨hD3,hw⟩ := turn i n ys ρ H3 w3
    rcases hw with ⟨stop,q⟩ | ⟨go,hlen,step⟩
    . refine thn (T.done (zaw X scope H2.objs.size (x :: ns) s H fp) rfl rfl rfl hcalm i [] s3 ρ H3 (fun _ _ => False) I3 (stat fr3) st3 stop) fun r s4 ⟨hr,I4⟩ => ?_; subst hr; have I5 := I.uncomp f2 I4; obtain ⟨m,hn,_⟩ := I4.loc; exact ⟨m,hn,fun h' sb => hR _ _ s4 H3 I5 (I.fpOk hCle I3.free) q h' sb⟩
    . refine thn (T.item (zaw X scope H2.objs.size (x :: ns) s H fp) rfl rfl rfl hcalm i [] s3 ρ H3 (fun _ _ => False) I3 (stat fr3) st3 go) fun r s4 ⟨u,hr,h4⟩ => ?_; subst hr; refine thn h4 fun _ s5 ⟨y,H5,I5,r5,y5,st5,fr5⟩ => ?_; have I5' := I5.pinned (stat fr5) (T.obj _ _ st5)
      have hpn : zeE fp (zbz fp s5.heap) := fun b hb => by
        obtain ⟨o,e,_⟩ := T.obj _ _ st5 b hb; exact ⟨(b,o),zaU hb e,rfl⟩
      refine thn (hg H2.objs.size s H fp _ s5 ρ H5 y u _ I5' r5 (step y H5 y5)) fun _ s6 ⟨σ6,H6,I6',q6⟩ => ?_; have I6 : Inv (X.inComp scope H2.objs.size (x :: ns) s H fp (zbz fp s5.heap) E) [] σ6 H6 s6 := I6'.pinIn.wish _
      have again : ∀ {s8 : Shared} {H8 : Hp} {zs : List V},Inv (X.inComp scope H2.objs.size (x :: ns) s H fp (zbz fp s5.heap) E) [] σ6 H8 s8 -> (∃ m',m' < n /\ W (i + 1) m' zs σ6 H8) →
          ∃ m,m < n /\ ∃ i ρ H' ys,Inv (zaw X scope H2.objs.size (x :: ns) s H fp) [] ρ H' s8 /\ tn i s8.heap /\ (∀ b ∈ fp,H' b = none) /\ W i m ys ρ H' := fun {s8 H8 zs} I8 ⟨m',hm,w8⟩ => by
        refine ⟨m',hm,i + 1,σ6,H8,zs,(Inv.pinOut (X := zaw X scope H2.objs.size (x :: ns) s H fp) (pins := zbz fp s5.heap) I8.unwish).pins_of fun p hp => absurd (show p ∈ ([] : List (Addr × Obj)) from hp) (by simp),T.keep _ _ _ st5 fun b hb o e => (I8.pin (b,o) (List.mem_append_left _ (zaU hb e))).1,fun b hb => ?_,w8⟩
        obtain ⟨o,e,d⟩ := T.obj _ _ st5 b hb; exact (I8.pin (b,o) (List.mem_append_left _ (zaU hb e))).2.1
      have q7 := q6; unfold zcE at q7; dsimp only at q7; rw [if_pos rfl] at q7; refine wpAny_mono (he H2.objs.size s H fp (zbz fp s5.heap) hpn _ s6 σ6 H6 _ I6 q7) (fun v s8 ⟨y8,H8,I8,r8,hD8,q8⟩ => ?_) fun z t hz => zg0 O hE I f2 hCle rfl rfl hz; obtain ⟨z8,its,n8,rv,e8⟩ := I8.hok _ _ hD8; have hl := rv.length; refine wpAny_list_append_plain (hsz := by rw [List.size_toArray]; omega) ⟨n8,e8⟩ fun h9 hp9 sb9 => ?_
      obtain ⟨n9,e9⟩ := hp9; refine again (zs := ys ++ [y8]) (I8.write (x := s.heap.objs.size) (e := s.heap.objs.size) (o := .lst (ys ++ [y8])) (t' := s8.toks) (by rw [hD8]; trivial) (.inl rfl) (fun b o hb e => (sb9.2 b hb).trans e) ⟨_,e9⟩ ⟨by rw [List.length_append]; show ys.length + 1 <= sizeLine; omega,its ++ [v],n9,rv.append (.cons r8 .nil),?_⟩) q8
      rw [e9]; simp
  exact codeAny_compStart_list (loop _ rfl) (T.self _ 0 _ _ _ st1 (loop _ rfl))
theorem zhd (N : CompNames X.env.scope X.N scope x ns idx) (hcalm : X.calm = true) (O : Own X) (hE : ∀ y s',XQ X E y s' -> X.xe y s') (hw : PI X (.Name x px) iter wi)
    (he : ∀ C s₀ H₀ fp pn,zeE fp pn -> PE (X.inComp scope C (x :: ns) s₀ H₀ fp pn E) elt te)
    (hs : ∀ x,foldedSetIterable iter X.env x = pure x := by intro _; rfl) : PE X (.ListComp elt [⟨.Name x px,iter,[],0⟩] scope pos) (tLC wi idx (zbG 0) zcE te) := by
  intro pins s σ H Q I h; rw [eval_ListComp]; refine zjv rfl hs (N.clos I.ok) N.kind N.loc (thn (hw pins s σ H _ I h) fun v s1 h1 => thn h1 fun itv s2 h2 => ?_); obtain ⟨it,fp,tn,J,H2,e,I2,T,st2,f2,q⟩ := h2; subst e; refine zfu N hcalm O hE (zdC N) he I2 T st2 f2 q fun D C s' H' I' F' q' h' hs' => ?_; obtain ⟨f0,f1,f3,f4,f5,f6⟩ := F'; exact ⟨.ref D,H',I'.turned (t' := s'.toks) (fun b o hb e => (hs'.2 b hb).trans e) f0 f1 f4 f5 f6,rfl,q'⟩
end
section
variable {X : Cx}
theorem zeY : CallR X (.type "str") (fun xs H Q => ∃ x,xs = [.str x] /\ Q (.str x) H) := by
  intro pins s σ H xs us Q I r h; obtain ⟨x,rfl,q⟩ := h; obtain ⟨u,rfl,t,rfl⟩ := zda r; exact PySem.P.str_of_str ⟨.str x,H,I,⟨_,rfl⟩,q⟩
theorem zei : CallR X (.type "str") (fun xs H Q => (∃ i,xs = [.int i] /\ i.natAbs.log2 < 1920 /\ Q (.str (toString i)) H) \/ ∃ x,xs = [.str x] /\ Q (.str x) H) := call_str_int.or zeY
def zkA : V -> Option Int -> Option Int -> Hp -> VK -> Prop := fun x lo hi H Q => ∃ z : Str,x = .str z /\ z.length <= sizeLine /\ Q (.str (StrLaws.sliceText z lo hi)) H
theorem ziU : SlR X zkA := by
  intro pins s σ H x v vl vu lo hi sl Q I rx hs pl pu h; obtain ⟨z,rfl,hz,q⟩ := h; obtain ⟨t,rfl⟩ := rx
  have part : ∀ {v : Value} {o : Option Int},IsPart v o -> ∃ p : Option (Int × Tok),v = partValue p /\ p.map (·.1) = o := fun h => by
    cases h with
    | none => exact ⟨none,rfl,rfl⟩
    | int i t => exact ⟨some (i,t),rfl,rfl⟩
  obtain ⟨pl',rfl,el⟩ := part pl; obtain ⟨pu',rfl,eu⟩ := part pu; refine ⟨"str",_,F.slot_str_getitem.lookup,typeIs_str _ _ _,wpAny_getItem_str_slice (l := pl') (u := pu') (st := none) hs rfl ?_⟩; have e : ∀ (t' : Tok) (k : Nat),EP X pins σ Q (.str (StrLaws.sliceText z lo hi) t') { s with toks := k } := fun t' k => ⟨.str (StrLaws.sliceText z lo hi),H,I.tok k,⟨t',rfl⟩,q⟩
  subst el eu; exact post_val_or_str ⟨Nat.le_trans (Txt.slice_le z _ _) hz,fun t' k => e t' k⟩
end
def zjJ (t : TE) : TE := fun σ H Q => ∃ R : VK,t σ H R /\ ∀ v H',R v H' -> Q v H'
theorem zgd {X : Cx} {e : Expr} {t : TE} (h : PE X e t) : PE X e (zjJ t) := by
  intro pins s σ H Q I hw; obtain ⟨R,h1,h2⟩ := hw; exact wpAny_mono (h pins s σ H R I h1) (fun u s' q => by obtain ⟨v,H',I',r,q⟩ := q; exact ⟨v,H',I',r,h2 v H' q⟩) fun _ _ z => z
def tFl (K : Fg) (tv : TE) : TE := fun σ H Q => tv σ H fun x H1 => ∃ (a : Addr) (ss : List Str),x = .ref a /\ SqL K H1 a (ss.map V.str) /\ ss ≠ [] /\ (PyData.list (ss.map PyData.str)).shown.length <= sizeLine /\ Q (.str (PyData.list (ss.map PyData.str)).shown) H1
theorem zcn {h : Heap} : ∀ {ss : List Str} {us : List Value},Vals (ss.map V.str) us -> ReadsAll h us (ss.map PyData.str) []
  | [],us,r => by cases r; exact .nil
  | x :: ss,us,r => by
    cases r with
    | cons r1 r2 =>
      obtain ⟨t,rfl⟩ := (show ∃ t,_ = Value.str x t from r1); exact ReadsAll.cons (as := []) (bs := []) (.str x t) (zcn r2)
theorem zck : ∀ (ss : List Str),PyData.showableAll (ss.map PyData.str) = true
  | [] => rfl
  | x :: ss => by simp [PyData.showableAll,PyData.showable,zck ss]
theorem zdH : ∀ (ss : List Str),PyData.depthAll (ss.map PyData.str) = 0
  | [] => rfl
  | x :: ss => by simp [PyData.depthAll,PyData.depth,zdH ss]
theorem zcG : ∀ (ss : List Str),PyData.hasDictAll (ss.map PyData.str) = false
  | [] => rfl
  | x :: ss => by simp [PyData.hasDictAll,PyData.hasDict,zcG ss]
theorem zgX {X : Cx} {e : Expr} {tv : TE} {pos : Pos} {k : Nat} (hr : Room k X.A) (h : PE X e tv) : PE X (.FormattedValue e 114 none pos) (tFl X.K tv) := by
  intro pins s σ H Q I hq; refine wpAny_FormattedValue_repr (thn (h pins s σ H _ I hq) fun u s1 ⟨x,H1,I1,r,a,ss,ex,hS,hne,hz,q⟩ => ?_); subst ex
  cases (show u = Value.ref a from r)
  obtain ⟨its,rv,p,hzl⟩ := I1.list hS; obtain ⟨o,n,hp,hc,_,hda⟩ := p; have h4 : ReadsAll s1.heap its (ss.map PyData.str) [] := zcn rv; have hz' : (listText (PyData.shownAll (ss.map PyData.str))).length <= sizeLine := by simpa only [PyData.shown] using hz
  obtain ⟨bs,hb,hk⟩ := ReprAllK.of_readsAll (prog := X.prog) (w := X.w) h4 (zck ss) (fun hx => by rw [zcG] at hx; cases hx) (fun t ht => Nat.le_trans (listText_mem_le ht) hz')
  have rd : Reads s1.heap (.ref a) (.list (ss.map PyData.str)) (a :: []) := .list (vs := its.toArray) hp hc hda h4; have hna : a ∉ bs := not_mem_of_deeper rd (by simp only [PyData.depth]; omega) hb
  have hu := hr.un
  cases its with
  | nil =>
    cases ss with
    | nil => exact absurd rfl hne
    | cons _ _ => cases rv
  | cons y l =>
    refine wpAny_pyReprObj_listK hp hc hda hna (by simpa using hk.length_eq) (fun i y e => hk.item i y (by simpa using e)) hr.gd (fun b _ => Clear.nil b) (by rw [zdH]; omega) (fun _ _ e => e) (fun h' u tk hk' => ?_) hz'
    have e : listText (PyData.shownAll (ss.map PyData.str)) = (PyData.list (ss.map PyData.str)).shown := by simp only [PyData.shown]
    rw [e]; exact formatField_str (fun t' tk' => ⟨.str _,H1,(I1.kept (t' := tk) hk').tok tk',⟨t',rfl⟩,q⟩) hz
def zj3 (K : Fg) (a : Addr) (ks : List V) : Prop := (a == sysModules) = false /\ ks.length <= sizeLine /\ ∃ o es ep,K.lookup a = some o /\ o.ExactDict /\ o.data = .dict es ep /\ es.size = ks.length /\ ∀ (i : Nat) k,ks[i]? = some k -> ∃ e,es[i]? = some e /\ RelV k e.key
def Itw (ks : List V) : It := ⟨fun i _ => i < ks.length,fun i H x H' => H' = H /\ ks[i]? = some x,fun i _ => ks.length <= i⟩
theorem zim {P : Program} {w : World} {K : Fg} {tg : Expr} (d it : Addr) (o : Obj) (ks : List V) (es : Array DictEntry) (ep : Nat) (hl : K.lookup d = some o) (hd : o.data = .dict es ep) (hz : es.size = ks.length) (hr : ∀ (i : Nat) k,ks[i]? = some k -> ∃ e,es[i]? = some e /\ RelV k e.key) :
    ze7 P w K tg (Itw ks) [it] it (fun i h => h.IsKeyIter it d i es.size ep) where
  mem := by simp
  obj := fun i h st b hb => by
    have e : b = it := by simpa using hb
    subst e; obtain ⟨o,e,c,d⟩ := st; exact ⟨o,e,fun v z => by rw [d] at z; cases z⟩
  keep := fun i h h' st k => let ⟨o,e,r⟩ := st; ⟨o,k it (by simp) o e,r⟩
  item := by
    intro X hP hw hK hc i pins s σ H E I hf st hg; subst hP hw hK; have hi : i < ks.length := hg; obtain ⟨e,he,rk⟩ := hr i _ (List.getElem?_eq_getElem hi); obtain ⟨f0,f1,f2,f3,f4,f5⟩ := hf it (by simp)
    refine HT.next_key st (I.kIn d o hl) hd he fun h' st' sb => ?_; have I1 : Inv X pins σ H { s with heap := h' } := I.turned (t' := s.toks) (fun b ob hb e => (sb.2 b hb).trans e) f0 f1 f3 f4 f5
    obtain ⟨oi,ei,ci,di⟩ := id st'; exact ⟨_,rfl,zfp (s := { s with heap := h' }) ei ci di (by decide) ⟨ks[i],H,I1,rk,⟨rfl,List.getElem?_eq_getElem hi⟩,st',fun b hb => (hf b hb).1⟩⟩
  done := by
    intro X hP hw hK hc i pins s σ H E I hf st hg; subst hP hw hK; have hi : ks.length <= i := hg; obtain ⟨f0,f1,f2,f3,f4,f5⟩ := hf it (by simp)
    exact HT.next_end (I.ok.hd hc) st (I.kIn d o hl) hd (by omega) fun h' eb => ⟨rfl,I.turned (t' := s.toks) (fun b o hb e => eb b o hb e) f0 f1 f3 f4 f5⟩
  self := fun A i s Q E st h => by
    have hT := st.typeIs; refine wpAny_pyIter_slot hT PySem.F.slot_dict_keyiterator_iter (wpAny_call_entry PySem.F.slot_dict_keyiterator_iter hT PySem.F.entry_dict_keyiterator_iter ?_ (PySem.F.args_dict_keyiterator_iter_1 _)); show wpAny _ _ (ret (.ref it)) _ _ s; exact wpAny_pure ⟨_,rfl,"dict_keyiterator",_,hT,PySem.F.slot_dict_keyiterator_next.lookup,h⟩
def iTW (K : Fg) (tl : TE) : TI := fun σ H R => tl σ H fun x H1 => ∃ d ks,x = .ref d /\ zj3 K d ks /\ R (Itw ks) H1
theorem zj1 {X : Cx} {tg l : Expr} {tl : TE} (hl : PE X l tl) : PI X tg l (iTW X.K tl) := by
  intro pins s σ H R I h; refine thn (hl pins s σ H _ I h) fun v s1 ⟨x,H1,I1,r1,q1⟩ => ?_; obtain ⟨d,ks,e,⟨hs,hk,o,es,ep,ho,hx,hd,hz,hr⟩,q⟩ := q1; subst e; cases r1; refine HT.iter_keys hs (I1.kIn d o ho) hx hd ?_; refine ⟨s1.heap.objs.size,[s1.heap.objs.size],_,_,H1,rfl,I1.kept (t' := s1.toks) fun b o e => Heap.get?_push_of_some _ e,zim d _ o ks es ep ho hd hz hr,⟨_,Heap.get?_push_size _ rfl,rfl,rfl⟩,fun b hb => ?_,q⟩; have e : b = s1.heap.objs.size := by simpa using hb
  subst e; exact I1.fpOk (Nat.le_refl _) (I1.hok.fresh (Nat.le_refl _))
theorem zjN {ks : List V} {idx : List Nat} {te : TE} {σ : St} {H : Hp} {Q : VK} (Iv : Addr -> Nat -> List V -> Hp -> Prop) (hl : ks.length <= sizeLine)
    (h0 : ∀ D,H D = none -> Iv D 0 [] (upd H D (.lst []))) (hD : ∀ D i ys H',Iv D i ys H' -> H' D = some (.lst ys) /\ ys.length = i)
    (he : ∀ D (i : Nat) x ys H' (R : VK),H D = none -> ks[i]? = some x -> Iv D i ys H' -> (∀ v H4,H4 D = some (.lst ys) -> Iv D (i + 1) (ys ++ [v]) (upd H4 D (.lst (ys ++ [v]))) -> R v H4) -> te (some x :: cap σ idx) H' R)
    (hQ : ∀ D ys H',H D = none -> Iv D ks.length ys H' -> Q (.ref D) H') : LCW idx (Itw ks) (zbG 0) zcE te Q σ H := by
  intro D hn; refine ⟨fun i m ys ρ H' => m = ks.length - i /\ i <= ks.length /\ (∃ y0,ρ = y0 :: cap σ idx) /\ Iv D i ys H',⟨ks.length,by simp,Nat.zero_le _,⟨none,rfl⟩,h0 D hn⟩,?_⟩
  rintro i m ys ρ H' ⟨rfl,hi,⟨y0,rfl⟩,hv⟩; obtain ⟨d1,d2⟩ := hD D i ys H' hv; refine ⟨d1,?_⟩
  by_cases hlt : i < ks.length
  . refine .inr ⟨hlt,by omega,fun x H2 y => ?_⟩
    obtain ⟨e,y⟩ := y; subst e; show te (some x :: cap σ idx) _ _; refine he D i x ys _ _ hn y hv fun v H4 h4 hv' => ⟨h4,ks.length - (i + 1),by omega,rfl,by omega,⟨_,rfl⟩,hv'⟩
  . have e : i = ks.length := by omega
    subst e; exact .inl ⟨Nat.le_refl _,hQ D ys H' hn hv⟩
end L2
namespace HD
open PySem PySem.W PySem.Calls PyProof.Rows
section
variable (d : Addr) (a : Addr) (h : Int) (es : Array DictEntry)
def asked (tells few : Bool) : List Nat -> Option Nat -> Sem (Option Nat)
  | [],hit => pure hit
  | i :: r,hit => match es[i]? with
    | none => asked tells few r hit
    | some e => dictEpoch d none >>= fun b => eqBool e.key (.ref a) >>= fun same => dictEpoch d none >>= fun b' =>
      if (b' != b) = true then .unsupported "dict.changed-during-lookup"
      else if same = true then
        (if hit.isSome = true then .unsupported "dict.find:order-among-keys-of-one-hash" else rule "dict.find.hit" >>= fun _ => if few = true then pure (some i) else asked tells few r (some i))
      else rule "dict.find.same-hash-other-key" >>= fun _ => if (tells && !(decide (0 <= h) && decide (h < 32))) = true then .unsupported "dict.find:asked-again-or-not-hangs-on-the-table" else asked tells few r hit
def zbs (pl : List Nat) : List Value := pl.filterMap fun i => es[i]?.map (·.key)
def zbD (pl : List Nat) : Sem (Option Nat) :=
  if (es.any fun e => e.key == .ref a && e.hash != h) = true then .unsupported "dict.find:a-stored-key-whose-hash-has-changed"
  else (if (zbs es pl == [.ref a]) = true then pure false else tableMayTell (.ref a) (zbs es pl)) >>= fun tells =>
    if (tells && decide ((zbs es pl).length ≥ 2)) = true then .unsupported "dict.find:order-among-keys-of-one-hash" else asked d a h es tells (decide ((zbs es pl).length < 2)) pl none
end
theorem zdW (d a : Addr) (h : Int) (es : Array DictEntry) (tells : Bool) (n : Nat) (F : Nat -> Option (Option Nat) × Option Nat -> Sem (ForInStep (Option (Option Nat) × Option Nat))) (post : Option (Option Nat) × Option Nat -> Sem (Option Nat)) (p1 : ∀ x,post (none,x) = pure x) (p2 : ∀ r x,post (some r,x) = pure r)
    (hF : ∀ i hit,F i (none,hit) = match es[i]? with
      | some e => if (e.hash == h) = true then (dictEpoch d none >>= fun b => eqBool e.key (.ref a) >>= fun same => dictEpoch d none >>= fun b' =>
          if (b' != b) = true then .unsupported "dict.changed-during-lookup"
          else if same = true then
            (if hit.isSome = true then .unsupported "dict.find:order-among-keys-of-one-hash" else rule "dict.find.hit" >>= fun _ => if n < 2 then pure (ForInStep.done (some (some i),hit)) else pure (ForInStep.yield (none,some i)))
          else rule "dict.find.same-hash-other-key" >>= fun _ => if (tells && !(decide (0 <= h) && decide (h < 32))) = true then .unsupported "dict.find:asked-again-or-not-hangs-on-the-table" else pure (ForInStep.yield (none,hit)))
        else pure (ForInStep.yield (none,hit))
      | none => pure (ForInStep.yield (none,hit))) :
    ∀ (pl : List Nat) (hit : Option Nat),(∀ i ∈ pl,∀ e,es[i]? = some e -> (e.hash == h) = true) →
      (forIn pl ((none : Option (Option Nat)),hit) F >>= post) = asked d a h es tells (decide (n < 2)) pl hit
  | [],hit,_ => p1 hit
  | i :: r,hit,ha => by
    have ih := zdW d a h es tells n F post p1 p2 hF r; have hr : ∀ j ∈ r,∀ e,es[j]? = some e -> (e.hash == h) = true := fun j hj => ha j (List.mem_cons_of_mem _ hj); rw [List.forIn_cons,hF i hit]; unfold asked
    cases he : es[i]? with
    | none => exact ih hit hr
    | some e =>
      simp only [ha i (List.mem_cons_self ..) e he,if_true,bind_assoc]; refine congrArg _ (funext fun b => congrArg _ (funext fun same => congrArg _ (funext fun b' => ?_)))
      by_cases h1 : (b' != b) = true
      . simp only [h1,if_true]; rfl
      . simp only [h1]
        cases same with
        | true =>
          cases hh : hit.isSome with
          | true => rfl
          | false =>
            by_cases hn : n < 2
            . simp only [hn]; simp only [Bool.false_eq_true,if_false,if_true,bind_assoc,pure_bind,decide_true,p2]
            . simp only [hn]; simp only [Bool.false_eq_true,if_false,if_true,bind_assoc,pure_bind,decide_false]; simp only [decide_eq_false hn] at ih; exact congrArg _ (funext fun _ => ih _ hr)
        | false =>
          by_cases ht : (tells && !(decide (0 <= h) && decide (h < 32))) = true
          . simp only [ht,Bool.false_eq_true,if_false,if_true]; rfl
          . simp only [ht,Bool.false_eq_true,if_false,bind_assoc,pure_bind]; exact congrArg _ (funext fun _ => ih _ hr)
theorem zfl (d a : Addr) (h : Int) : dictFind d (.ref a) h = holding [.ref a] (dictEntries d none >>= fun es => zbD d a h es (placesWithHash es.size (fun i => es[i]?.map (·.hash)) h)) := by
  refine congrArg (holding [Value.ref a]) (congrArg (dictEntries d none >>= ·) (funext fun es => ?_))
  have hp : ∀ i ∈ placesWithHash es.size (fun i => es[i]?.map (·.hash)) h,∀ e,es[i]? = some e -> (e.hash == h) = true := fun i hi e he => by
    unfold placesWithHash at hi; have this : (es[i]?.map (·.hash) == some h) = true := (List.mem_filter.mp hi).2; rw [he] at this; exact this
  generalize placesWithHash es.size (fun i => es[i]?.map (·.hash)) h = pl at hp; unfold zbD; show (if (Value.ref a :: zbs es pl).all carriedByValue = true then _ else _) = _; rw [if_neg (by simp [carriedByValue])]
  by_cases h0 : (es.any fun e => e.key == .ref a && e.hash != h) = true
  . simp only [h0,if_true]; rfl
  . simp only [h0]
    by_cases h2 : (zbs es pl == [.ref a]) = true
    . refine Eq.trans (if_pos h2) (Eq.trans ?_ (congrArg (fun x : Sem Bool => x >>= _) (if_pos h2)).symm); refine congrArg (fun f => (pure false : Sem Bool) >>= f) (funext fun tells => ?_)
      by_cases h3 : (tells && decide ((zbs es pl).length ≥ 2)) = true
      . refine (if_pos h3).trans (Eq.trans ?_ (if_pos h3).symm); rfl
      . refine (if_neg h3).trans (Eq.trans ?_ (if_neg h3).symm); refine zdW d a h es tells (zbs es pl).length _ _ (fun _ => rfl) (fun _ _ => rfl) ?_ pl none hp; intro i hit; show (match es[i]? with | some e => _ | _ => _) = _
        cases es[i]? <;> rfl
    . refine Eq.trans (if_neg h2) (Eq.trans ?_ (congrArg (fun x : Sem Bool => x >>= _) (if_neg h2)).symm); refine congrArg (fun f => tableMayTell (.ref a) (zbs es pl) >>= f) (funext fun tells => ?_)
      by_cases h3 : (tells && decide ((zbs es pl).length ≥ 2)) = true
      . refine (if_pos h3).trans (Eq.trans ?_ (if_pos h3).symm); rfl
      . refine (if_neg h3).trans (Eq.trans ?_ (if_neg h3).symm); refine zdW d a h es tells (zbs es pl).length _ _ (fun _ => rfl) (fun _ _ => rfl) ?_ pl none hp; intro i hit; show (match es[i]? with | some e => _ | _ => _) = _
        cases es[i]? <;> rfl
section
variable {tb : String -> Option Builtin} {p : Program} {w : World} {n₀ : Nat} {ann : Option Value}
theorem zev {b : Nat} (k : Nat) : ∀ (n : Nat) (s : Shared) (t : Thread) (r : Flow × Shared × Code × Pos),segRun tb p w n₀ ann b n s t = some r -> segRun tb p w n₀ ann b (n + k) s t = some r
  | 0,_,_,_,e => by cases e
  | n + 1,s,t,r,e => by
    rw [Nat.add_right_comm]; simp only [segRun] at e ⊢
    cases h1 : endAt b t with
    | some f => rw [h1] at e; exact e
    | none =>
      cases h2 : stepOk n₀ ann t with
      | false => rw [h1,h2] at e; cases e
      | true =>
        rw [h1,h2] at e
        cases h3 : step (denote tb) p w s t with
        | halt _ _ => rw [h3] at e; cases e
        | go s' t' => rw [h3] at e; exact zev k n s' t' r e
def zg8 (tag : String) (t : Thread) : Bool := match t.stack,t.cur with
  | [_],.rule g _ => g == tag
  | _,_ => false
def zcm (tb : String -> Option Builtin) (p : Program) (w : World) (n₀ : Nat) (ann : Option Value) (tag : String) : Nat -> SharedT -> Thread -> Option (SharedT × Thread)
  | 0,_,_ => none
  | n + 1,s,t => match zg8 tag t with
    | true => some (s,t)
    | false => match endAt 1 t,stepOk n₀ ann t with
      | none,true => (stepT (denote tb) p w s t).bind fun x => zcm tb p w n₀ ann tag n x.1 x.2
      | _,_ => none
theorem zfe {tag : String} : ∀ {n N : Nat} {s s' : SharedT} {t t' : Thread} {r : Flow × Shared × Code × Pos},zcm tb p w n₀ ann tag n s t = some (s',t') -> segRun tb p w n₀ ann 1 N s'.abs t' = some r →
    segRun tb p w n₀ ann 1 (n + N) s.abs t = some r
  | 0,_,_,_,_,_,_,e,_ => by cases e
  | n + 1,N,s,s',t,t',r,e,k => by
    unfold zcm at e
    cases h0 : zg8 tag t with
    | true =>
      rw [h0] at e; obtain ⟨rfl,rfl⟩ : s = s' /\ t = t' := by simpa using e
      rw [Nat.add_comm]; exact zev _ _ _ _ _ k
    | false =>
      rw [h0] at e; rw [Nat.add_right_comm]; simp only [segRun]
      cases h1 : endAt 1 t with
      | some f => rw [h1] at e; cases e
      | none =>
        cases h2 : stepOk n₀ ann t with
        | false => rw [h1,h2] at e; cases e
        | true =>
          rw [h1,h2] at e; obtain ⟨⟨s2,t2⟩,h3,h4⟩ := Option.bind_eq_some_iff.mp e; rw [stepT_spec h3]; exact zfe h4 k
theorem zdl {n N M : Nat} {s s' : SharedT} {t t' : Thread} {r : Flow × Shared × Code × Pos} (e : segGoT tb p w n₀ ann 1 n s t = some (s',t')) (k : segRun tb p w n₀ ann 1 N s'.abs t' = some r) (h : n + N = M) : segRun tb p w n₀ ann 1 M s.abs t = some r := by
  subst h; exact seg_go (segGo_of e) k
end
section
variable {α β : Type} {K : α -> Sem β} {H : Value -> Sem β} {gd : Bool -> Bool} {lv : List Value -> List Value}
theorem zej (a : α) : (pure a : Sem α).wrap K H gd lv = K a := rfl
theorem zaM {γ : Type} (m : Sem γ) (f : γ -> Sem α) : (m >>= f).wrap K H gd lv = m.wrap (fun a => (f a).wrap K H gd lv) H gd lv := by
  rw [Sem.bind_eq_wrap',Sem.wrap_wrap]; rfl
theorem zca (vs : List Value) (m : Sem α) : (m.keep vs).wrap K H gd lv = m.wrap K H gd (fun l => lv (vs ++ l)) := by
  rw [Sem.keep_eq_wrap,Sem.wrap_wrap]; rfl
end
def zba (d : Addr) : List (Value × Value) -> Sem Unit
  | [] => pure ()
  | x :: r => dictSet d x.1 x.2 >>= fun _ => zba d r
theorem zeh (d : Addr) (F : Value × Value -> PUnit -> Sem (ForInStep PUnit)) (hF : ∀ x u,F x u = (dictSet d x.1 x.2 >>= fun _ => pure (ForInStep.yield PUnit.unit))) :
    ∀ vs : List (Value × Value),(forIn vs PUnit.unit F >>= fun _ => (pure () : Sem Unit)) = zba d vs
  | [] => rfl
  | x :: r => by
    rw [List.forIn_cons,hF,zba,bind_assoc,bind_assoc]; refine congrArg _ (funext fun _ => ?_); rw [pure_bind]; exact zeh d F hF r
def zeR (vs : List (Value × Value)) : List Value := (vs.flatMap fun x => [x.1,x.2]).filter Value.isRef
theorem zhj (pairs : List (Sem Value × Sem Value)) (hl : pairs.length <= 15) : subDict pairs =
    (alloc { cls := .type "dict",data := .dict #[] } >>= fun d => ((evalPairs pairs >>= fun vs => (zba d vs).keep (zeR vs)).keep [.ref d]) >>= fun _ => pure d) := by
  unfold subDict; refine congrArg _ (funext fun d => ?_); rw [if_pos hl,holding_eq_keep]; refine congrArg (fun m : Sem Unit => m >>= fun _ => pure d) ?_; refine congrArg (Sem.keep [.ref d]) (congrArg _ (funext fun vs => ?_)); rw [holding_eq_keep]; exact congrArg _ (zeh d _ (fun _ _ => rfl) vs)
theorem zgh (env : Env) (x : Str) (pos' dpos pos : Pos) (ks : List (Option Expr)) (vs : List Expr) (pairs : List (Sem Value × Sem Value))
    (hs : swapsWith (.Dict ks vs dpos) (some (.Name x pos')) pos.line env = pure false) (hd : eval (.Dict ks vs dpos) env = (standAt dpos >>= fun _ => (subDict pairs >>= fun d => pure (Value.ref d)))) (hl : pairs.length <= 15)
    (K : Flow -> Sem Fin) (H : Value -> Sem Fin) :
    (exec (.Assign [.Name x pos'] (.Dict ks vs dpos) pos) env).wrap K H id id =
      (standAt pos >>= fun _ => standAt dpos >>= fun _ => alloc { cls := .type "dict",data := .dict #[] }).wrap (fun d => (evalPairs pairs).wrap (fun vs =>
        (zba d vs).wrap (fun _ => (standAt pos' >>= fun _ => bindName env x (.ref d) >>= fun _ => pure Flow.next).wrap K H id id) H id (fun l => [.ref d] ++ (zeR vs ++ l))) H id (fun l => [.ref d] ++ l)) H id id := by
  rw [exec_Assign_Name env x pos' _ pos hs,hd,zhj pairs hl]; simp only [zaM,zca,zej,id]
theorem zgR (d a : Addr) (v : Value) (hv : v.isRef = false) : ∃ G : Int -> Option Nat -> Sem Unit,(∀ h,G h none = (rule "dict.set.new-key-at-the-end" >>= fun _ => updateDictKeys d (·.push ⟨h,.ref a,v⟩) none)) ∧
    ∀ {β : Type} (K : Unit -> Sem β) (H : Value -> Sem β) (gd : Bool -> Bool) (lv : List Value -> List Value),(dictSet d (.ref a) v).wrap K H gd lv =
      (pyHash (.ref a)).wrap (fun h => (dictEntries d none).wrap (fun es => (zbD d a h es (placesWithHash es.size (fun i => es[i]?.map (·.hash)) h)).wrap
        (fun r => (G h r).wrap K H gd (fun l => lv ([.ref a] ++ ([.ref a] ++ l)))) H gd (fun l => lv ([.ref a] ++ ([.ref a] ++ ([.ref a] ++ l))))) H gd (fun l => lv ([.ref a] ++ ([.ref a] ++ ([.ref a] ++ l))))) H gd (fun l => lv ([.ref a] ++ l)) := by
  have hf : ([Value.ref a,v].filter Value.isRef) = [.ref a] := by cases v <;> first | rfl | cases hv
  refine ⟨?G,?g1,?g2⟩
  case g2 =>
    intro β K H gd lv; unfold dictSet; rw [holding_eq_keep,hf,zca,zaM]; refine Sem.wrap_congr _ _ _ (fun h => ?_) fun _ => rfl; unfold dictSetHashed; rw [holding_eq_keep,hf,zca,zaM,zfl,holding_eq_keep,show ([Value.ref a].filter Value.isRef) = [.ref a] from rfl,zca,zaM]
  case g1 => intro h; rfl
theorem zgy (acc : Nat) (h : acc < 2 ^ 64) (r : Int) (e : r = if (acc == 2 ^ 64 - 1) = true then 1546275796 else if acc < 2 ^ 63 then (acc : Int) else (acc : Int) - ((2 ^ 64 : Nat) : Int)) :
    (decide (-(2 ^ 63 : Int) <= r) && decide (r < 2 ^ 63)) = true := by
  simp only [Bool.and_eq_true,decide_eq_true_eq]; subst e
  split
  . exact ⟨by decide,by decide⟩
  . split <;> omega
theorem zfL (l : List Int) : (decide (-(2 ^ 63 : Int) <= Builtin.Tuple.tupleHashOf l) && decide (Builtin.Tuple.tupleHashOf l < 2 ^ 63)) = true := zgy _ (Nat.mod_lt _ (by decide)) _ rfl
theorem zfE (l : List Int) : pyHashByItsType.reduced (Builtin.Tuple.tupleHashOf l) = pure (reduceHash (Builtin.Tuple.tupleHashOf l)) := by
  have e := zfL l; unfold pyHashByItsType.reduced reduceHash; generalize Builtin.Tuple.tupleHashOf l = i at e; rw [if_pos e,if_pos e]
def zjS (hf : List Int -> Int) : Builtin := fun args => slotArgs "__hash__" 0 args >>= fun x => Builtin.Tuple.tupleItemsOf x.1 >>= fun xs => forIn xs #[] (fun y hs => pyHash y >>= fun h => pure (.yield (hs.push h))) >>= fun hs => retInt (hf hs.toList)
noncomputable def tbH (hf : List Int -> Int) : String -> Option Builtin := fun id => if id = "tuple.__hash__" then some (zjS hf) else treeTable id
theorem zcR : tbH Builtin.Tuple.tupleHashOf = treeTable := funext fun id => by
  unfold tbH
  by_cases h : id = "tuple.__hash__"
  . rw [if_pos h,h]; kernel_rfl
  . rw [if_neg h]
def hsh (P : Params) (x : String) : Int := if (PySem.Str.ofString x).cps.isEmpty then 0 else reduceHash (P.strHash (PySem.Str.ofString x).cps)
abbrev fol (b : Bool) (w : World) : World := w.withFollow "special-get-raises" b
def pl (bs : List Bool) : List Nat := (List.range bs.length).filter fun i => (bs[i]?).getD false
def ent (i : Nat) (v : Value) (h : Int) : DictEntry := ⟨h,.ref i,v⟩
def hP (P : Params) (x y : String) : Int := reduceHash (Builtin.Tuple.tupleHashOf [hsh P x,hsh P y])
theorem zg6 {p q : Program} {loose : List Str} {Xt : Shared -> Bool} {α : Type} {Yf : Shared -> α} {Ya : World -> α} {N : Nat} {g0 : Bool} {H₀ : Params -> Heap} {gs₀ : Array GenState} {d₀ : Drawn} {k₀ m₀ M n : Nat} {ann : Option Value}
    {T : World -> OsState -> SharedT} {rest : List Stmt} {env : Env} {c : Code} {pos pos' fp : Pos}
    (open_ : ∀ w : World,(fencedOpening treeTable p w N).map (fun s => (s.heap,s.gens,s.drawn,s.toks)) = some (H₀ w.params,gs₀,d₀,k₀))
    (size : ∀ w : World,((H₀ w.params).isNs mainGlobals && gs₀.size == 0,(H₀ w.params).objs.size,(H₀ w.params).nsMap mainGlobals "__annotations__") = (true,m₀,ann))
    (run : ∀ (w : World) (os : OsState) (N' : Nat) (r : Shared),topRun treeTable p w m₀ ann N' (T w os).abs (restOf rest env c pos [topFrame fp]) = some r -> topRun treeTable p w m₀ ann (M + N') ⟨H₀ w.params,gs₀,d₀,k₀,os⟩ (topStub p) = some r)
    (fin : ∀ (w : World) (s : Shared),topRun treeTable p w m₀ ann 2 s ⟨doneF .next,c,pos',[topFrame fp]⟩ = some s)
    (suf : ∀ (w : World) (os : OsState),(segRunT treeTable p w m₀ ann 1 n (T w os) (piecesOf rest env c pos [topFrame fp])).map (fun x => (x.1,x.2.2,
        (staticsOk (importedModules p.main.body) (H₀ w.params) x.2.1.abs.heap && namesBound p x.2.1.abs.heap && gensDone x.2.1.abs && laidKept (H₀ w.params) x.2.1.abs.heap),openSeen q loose (importedModules p.main.body) Xt g0 x.2.1.abs,Yf x.2.1.abs)) =
      some (.next,(c,pos'),true,openGood q loose,Ya w))
    (le : Nat.ble (M + (n + 2)) N = true) : LeftO p q loose Xt Yf Ya N g0 := fun w => by
  obtain ⟨⟨h,gs,d,k,os⟩,e1,e2⟩ := Option.map_eq_some_iff.mp (open_ w); obtain ⟨rfl,rfl,rfl,rfl⟩ : h = H₀ w.params /\ gs = gs₀ /\ d = d₀ /\ k = k₀ := by simpa only [Prod.mk.injEq] using e2
  obtain ⟨z1,z2,z3⟩ : _ /\ _ /\ _ := by simpa only [Prod.mk.injEq] using size w
  obtain ⟨⟨f,s1,c1,q1⟩,e3,e4⟩ := Option.map_eq_some_iff.mp (suf w os); obtain ⟨rfl,⟨rfl,rfl⟩,l1,l2,l3⟩ : f = .next /\ (c1 = c /\ q1 = pos') /\ _ /\ _ /\ _ := by simpa only [Prod.mk.injEq] using e4
  have r1 : topRun treeTable p w m₀ ann (n + 2) (T w os).abs (restOf (rest ++ []) env c1 pos [topFrame fp]) = some s1.abs := piece_app (segRun_of e3) (piece_nil (fin w s1.abs)); rw [List.append_nil] at r1; have r2 := topRun_mono (N - (M + (n + 2))) _ _ _ _ (run w os _ _ r1); rw [Nat.add_sub_of_le (nlb le)] at r2
  have t : topFrom treeTable p w N ⟨H₀ w.params,gs,d,k,os⟩ = some s1.abs := by
    simp only [topFrom,z1,z2,z3,r2,Option.bind_some]; rw [l1]
  show ((fencedOpening treeTable p w N).bind (topFrom treeTable p w N)).map _ = _; rw [e1,Option.bind_some,t]; exact congrArg some (Prod.ext l2 l3)
end HD
set_option maxHeartbeats 0
namespace HD
open PySem PySem.W PySem.Calls PyProof.Rows
noncomputable abbrev pR : Program := PySem.Challenge.rw_callorder_k12_calls_on_lines.prog
def pA : Program := { PySem.Challenge.rw_callorder_k12_calls_on_lines.prog with main := { PySem.Challenge.rw_callorder_k12_calls_on_lines.prog.main with body := PySem.Challenge.rw_callorder_k12_calls_on_lines.prog.main.body.take 8 } }
noncomputable def _root_.PySem.W.Fast.tw10753123608444055729 : PySem.W.OpenLaw := PySem.Challenge.rw_callorder_k12_calls_on_lines
theorem _root_.PySem.W.Fast.te10753123608444055729 : PySem.Challenge.rw_callorder_k12_calls_on_lines = PySem.W.Fast.tw10753123608444055729 := rfl
open_shared sh for pA leaving 0
def zjI : Option Expr -> Option Expr
  | some (.Tuple [_,e] _ _) => some e
  | k => k
def zjq : Option Expr -> Expr -> Expr
  | some (.Tuple [e1,e2] c p),v => .Tuple [e1,e2,v,v] c p
  | _,v => v
def zgL : Stmt -> Stmt
  | .Assign [.Name x p1] (.Dict ks vs p2) p3 => .Assign [.Name x p1] (.Dict (ks.map zjI) (List.zipWith zjq ks vs) p2) p3
  | s => s
def pZ : Program := { PySem.Challenge.rw_callorder_k12_calls_on_lines.prog with main := { PySem.Challenge.rw_callorder_k12_calls_on_lines.prog.main with body := PySem.Challenge.rw_callorder_k12_calls_on_lines.prog.main.body.take 8 ++ (((PySem.Challenge.rw_callorder_k12_calls_on_lines.prog.main.body.drop 8).take 1).map zgL ++ PySem.Challenge.rw_callorder_k12_calls_on_lines.prog.main.body.drop 9) } }
open_shared shZ for pZ leaving 0
noncomputable def zal (i : Nat) : Stmt := (pR.main.body[i]?).getD (.Pass default)
structure zfj where
  x : PySem.Str
  posN : Pos
  ks : List (Option Expr)
  vs : List Expr
  dpos : Pos
  pos : Pos
noncomputable def zg9 : Stmt -> Option zfj
  | .Assign [.Name x p1] (.Dict ks vs p2) p3 => some ⟨x,p1,ks,vs,p2,p3⟩
  | _ => none
noncomputable def ds : zfj := (zg9 (zal 8)).getD ⟨"",default,[],[],default,default⟩
theorem st6 : zal 8 = .Assign [.Name ds.x ds.posN] (.Dict ds.ks ds.vs ds.dpos) ds.pos := by kernel_rfl
noncomputable def cE : Code := .body (behindTheImports pR) sh.env_1
def zjZ : Pos := { line := 0,col := 0,endLine := 0,endCol := 0 }
def ziN : Pos := { line := 0,col := 0,endLine := 0,endCol := 0 }
def zhc : Pos := { line := 13,col := 0,endLine := 13,endCol := 6 }
def zj6 : Pos := { line := 127,col := 0,endLine := 154,endCol := 15 }
noncomputable abbrev B0 : List Frame := [topFrame zjZ]
abbrev zaI : Option Value := some (.ref 6)
noncomputable def pairs : List (Sem Value × Sem Value) := ((ds.ks.filterMap id).map fun k => eval k sh.env_1).zip (ds.vs.map fun v => (do let x <- eval v sh.env_1; standAt ds.dpos; pure x))
noncomputable def SA (w : World) (os : OsState) : SharedT := { tree := sh.tree_85 w.params,n := 78,life := { },gens := { toList := [] },drawn := { },toks := 279,os := os }
theorem zi8 : swapsWith (.Dict ds.ks ds.vs ds.dpos) (some (.Name ds.x ds.posN)) ds.pos.line sh.env_1 = pure false := by kernel_rfl
theorem zd9 : pairs.length = 6 := by kernel_rfl
theorem zkK : eval (.Dict ds.ks ds.vs ds.dpos) sh.env_1 = (standAt ds.dpos >>= fun _ => (subDict pairs >>= fun d => pure (Value.ref d))) := by
  have hl := zd9; rw [show (subDict pairs >>= fun d => pure (Value.ref d)) = dictDisplay (pairs.map fun p => (some p.1,p.2)) from (dictDisplay_pairs pairs (by intro e; rw [e] at hl; cases hl) (by omega)).symm]
  kernel_rfl
def tup (x y : String) (t : Nat) : Obj := ⟨.type "tuple",none,.seq #[.str (PySem.Str.ofString x) t,.str (PySem.Str.ofString y) (t + 1)] 0,#[]⟩
def zdT (es : List DictEntry) : Obj := ⟨.type "dict",none,.dict es.toArray es.length,#[]⟩
noncomputable def zgP (P : Params) : BT := (((((((sh.tree_85 P).ins 78 (zdT [])).ins 79 (tup "row" "put" 279)).ins 80 (tup "row" "take" 282)).ins 81 (tup "row" "look" 285)).ins 82 (tup "number" "set" 288)).ins 83 (tup "number" "add" 291)).ins 84 (tup "number" "look" 294)
def vs0 : List (Value × Value) := [(.ref 79,.int 3 281),(.ref 80,.int 2 284),(.ref 81,.int 2 287),(.ref 82,.int 3 290),(.ref 83,.int 3 293),(.ref 84,.int 2 296)]
noncomputable def S (P : Params) (os : OsState) (es : List DictEntry) (toks : Nat) : SharedT := { tree := (zgP P).set 78 (fun _ => zdT es),n := 85,life := { },gens := { toList := [] },drawn := { },toks := toks,os := os }
theorem go1 (w : World) (os : OsState) (K : Addr -> Unit -> Sem Fin) (H : Value -> Sem Fin) :
    segGoT treeTable pR w 11 zaI 1 39 (SA w os) ⟨(standAt ds.pos >>= fun _ => standAt ds.dpos >>= fun _ => alloc { cls := .type "dict",data := .dict #[] }).wrap (fun d => (evalPairs pairs).wrap (fun vs =>
        (zba d vs).wrap (K d) H id (fun l => [.ref d] ++ (zeR vs ++ l))) H id (fun l => [.ref d] ++ l)) H id id,cE,zhc,B0⟩ =
      some (S w.params os [] 297,⟨(zba 78 vs0).wrap (K 78) H id (fun l => [.ref 78] ++ (zeR vs0 ++ l)),cE,ds.dpos,B0⟩) := by kernel_rfl
def gOf (h : Int) (a : Addr) (v : Value) (G : Nat -> Sem Unit) : Option Nat -> Sem Unit
  | none => rule "dict.set.new-key-at-the-end" >>= fun _ => updateDictKeys 78 (·.push ⟨h,.ref a,v⟩) none
  | some i => G i
section
variable {W : World} {s0 s1 s2 : SharedT} {a : Addr} {v : Value} {l : List Int} {es : Array DictEntry} {K : Unit -> Sem Fin} {H : Value -> Sem Fin} {lv : List Value -> List Value} {r : Flow × Shared × Code × Pos} {N : Nat}
theorem zb7 (hv : v.isRef = false)
    (h1 : ∀ (K : Int -> Sem Fin) lv,segGoT treeTable pR W 11 zaI 1 25 s0 ⟨(pyHash (.ref a)).wrap K H id lv,cE,ds.dpos,B0⟩ = some (s1,⟨(pyHashByItsType.reduced (Builtin.Tuple.tupleHashOf l)).wrap K H id lv,cE,ds.dpos,B0⟩))
    (h2 : ∀ (K : Array DictEntry -> Sem Fin) lv,segGoT treeTable pR W 11 zaI 1 1 s1 ⟨(dictEntries 78 none).wrap K H id lv,cE,ds.dpos,B0⟩ = some (s1,⟨K es,cE,ds.dpos,B0⟩))
    (h3 : ∀ (h : Int) G (K : Unit -> Sem Fin) lv lv',zcm treeTable pR W 11 zaI "dict.set.new-key-at-the-end" 500 s1 ⟨(zbD 78 a h es (placesWithHash es.size (fun i => es[i]?.map (·.hash)) h)).wrap (fun r => (gOf h a v G r).wrap K H id lv') H id lv,cE,ds.dpos,B0⟩ =
      some (s1,⟨(gOf h a v G none).wrap K H id lv',cE,ds.dpos,B0⟩))
    (h4 : ∀ G (K : Unit -> Sem Fin) lv,segGoT treeTable pR W 11 zaI 1 4 s1 ⟨(gOf (reduceHash (Builtin.Tuple.tupleHashOf l)) a v G none).wrap K H id lv,cE,ds.dpos,B0⟩ = some (s2,⟨K (),cE,ds.dpos,B0⟩))
    (k : segRun treeTable pR W 11 zaI 1 N s2.abs ⟨K (),cE,ds.dpos,B0⟩ = some r) :
    segRun treeTable pR W 11 zaI 1 (530 + N) s0.abs ⟨(dictSet 78 (.ref a) v).wrap K H id lv,cE,ds.dpos,B0⟩ = some r := by
  obtain ⟨G,g1,g2⟩ := zgR 78 a v hv; rw [g2 K H id lv]; refine zdl (h1 _ _) (N := 505 + N) ?_ (by omega)
  rw [zfE,zej]; refine zdl (h2 _ _) (N := 504 + N) ?_ (by omega)
  generalize hh : reduceHash (Builtin.Tuple.tupleHashOf l) = h at *
  rw [show (fun r => (G h r).wrap K H id (fun l => lv ([.ref a] ++ ([.ref a] ++ l)))) = (fun r => (gOf h a v (fun i => G h (some i)) r).wrap K H id (fun l => lv ([.ref a] ++ ([.ref a] ++ l)))) from funext fun r => by
    cases r with
    | none => rw [g1 h]; rfl
    | some i => rfl]
  rw [show 504 + N = 500 + (4 + N) by omega]
  refine zfe (h3 _ _ _ _ _) ?_; exact zdl (h4 _ _ _) k rfl
end
section
variable (hf : List Int -> Int) (b : Bool) (w : World) (os : OsState) (H : Value -> Sem Fin) (es : List DictEntry)
theorem ziG (tk : Nat) (K : Int -> Sem Fin) (lv : List Value -> List Value) : segGoT (tbH hf) pR (fol b w) 11 zaI 1 25 (S w.params os es tk) ⟨(pyHash (.ref 79)).wrap K H id lv,cE,ds.dpos,B0⟩ =
    some (S w.params os es (tk + 3),⟨(pyHashByItsType.reduced (hf [hsh w.params "row",hsh w.params "put"])).wrap K H id lv,cE,ds.dpos,B0⟩) := by cases b <;> kernel_rfl
theorem zi9 (tk : Nat) (K : Int -> Sem Fin) (lv : List Value -> List Value) : segGoT (tbH hf) pR (fol b w) 11 zaI 1 25 (S w.params os es tk) ⟨(pyHash (.ref 80)).wrap K H id lv,cE,ds.dpos,B0⟩ =
    some (S w.params os es (tk + 3),⟨(pyHashByItsType.reduced (hf [hsh w.params "row",hsh w.params "take"])).wrap K H id lv,cE,ds.dpos,B0⟩) := by cases b <;> kernel_rfl
theorem zjo (tk : Nat) (K : Int -> Sem Fin) (lv : List Value -> List Value) : segGoT (tbH hf) pR (fol b w) 11 zaI 1 25 (S w.params os es tk) ⟨(pyHash (.ref 81)).wrap K H id lv,cE,ds.dpos,B0⟩ =
    some (S w.params os es (tk + 3),⟨(pyHashByItsType.reduced (hf [hsh w.params "row",hsh w.params "look"])).wrap K H id lv,cE,ds.dpos,B0⟩) := by cases b <;> kernel_rfl
theorem zjh (tk : Nat) (K : Int -> Sem Fin) (lv : List Value -> List Value) : segGoT (tbH hf) pR (fol b w) 11 zaI 1 25 (S w.params os es tk) ⟨(pyHash (.ref 82)).wrap K H id lv,cE,ds.dpos,B0⟩ =
    some (S w.params os es (tk + 3),⟨(pyHashByItsType.reduced (hf [hsh w.params "number",hsh w.params "set"])).wrap K H id lv,cE,ds.dpos,B0⟩) := by cases b <;> kernel_rfl
theorem ziR (tk : Nat) (K : Int -> Sem Fin) (lv : List Value -> List Value) : segGoT (tbH hf) pR (fol b w) 11 zaI 1 25 (S w.params os es tk) ⟨(pyHash (.ref 83)).wrap K H id lv,cE,ds.dpos,B0⟩ =
    some (S w.params os es (tk + 3),⟨(pyHashByItsType.reduced (hf [hsh w.params "number",hsh w.params "add"])).wrap K H id lv,cE,ds.dpos,B0⟩) := by cases b <;> kernel_rfl
theorem ziP (tk : Nat) (K : Int -> Sem Fin) (lv : List Value -> List Value) : segGoT (tbH hf) pR (fol b w) 11 zaI 1 25 (S w.params os es tk) ⟨(pyHash (.ref 84)).wrap K H id lv,cE,ds.dpos,B0⟩ =
    some (S w.params os es (tk + 3),⟨(pyHashByItsType.reduced (hf [hsh w.params "number",hsh w.params "look"])).wrap K H id lv,cE,ds.dpos,B0⟩) := by cases b <;> kernel_rfl
theorem zjt (tk : Nat) (K : Array DictEntry -> Sem Fin) (lv : List Value -> List Value) : segGoT treeTable pR (fol b w) 11 zaI 1 1 (S w.params os [] tk) ⟨(dictEntries 78 none).wrap K H id lv,cE,ds.dpos,B0⟩ =
    some (S w.params os [] tk,⟨K #[],cE,ds.dpos,B0⟩) := by kernel_rfl
theorem zkD (h0 : Int) (tk : Nat) (G : Nat -> Sem Unit) (K : Unit -> Sem Fin) (lv : List Value -> List Value) : segGoT treeTable pR (fol b w) 11 zaI 1 4 (S w.params os [] tk) ⟨(gOf h0 79 (.int 3 281) G none).wrap K H id lv,cE,ds.dpos,B0⟩ =
    some (S w.params os [ent 79 (.int 3 281) h0] tk,⟨K (),cE,ds.dpos,B0⟩) := by kernel_rfl
theorem ziM (h : Int) (tk : Nat) (G : Nat -> Sem Unit) (K : Unit -> Sem Fin) (lv lv' : List Value -> List Value) : zcm treeTable pR (fol b w) 11 zaI "dict.set.new-key-at-the-end" 500 (S w.params os [] tk)
    ⟨(zbD 78 79 h #[] (pl [])).wrap (fun r => (gOf h 79 (.int 3 281) G r).wrap K H id lv') H id lv,cE,ds.dpos,B0⟩ =
    some (S w.params os [] tk,⟨(gOf h 79 (.int 3 281) G none).wrap K H id lv',cE,ds.dpos,B0⟩) := by cases b <;> kernel_rfl
theorem zhS (h : Int) : placesWithHash (#[] : Array DictEntry).size (fun i => (#[] : Array DictEntry)[i]?.map (·.hash)) h = pl [] := by kernel_rfl
theorem zjG (h0 : Int) (tk : Nat) (K : Array DictEntry -> Sem Fin) (lv : List Value -> List Value) : segGoT treeTable pR (fol b w) 11 zaI 1 1 (S w.params os [ent 79 (.int 3 281) h0] tk) ⟨(dictEntries 78 none).wrap K H id lv,cE,ds.dpos,B0⟩ =
    some (S w.params os [ent 79 (.int 3 281) h0] tk,⟨K #[ent 79 (.int 3 281) h0],cE,ds.dpos,B0⟩) := by kernel_rfl
theorem zkH (h0 : Int) (h1 : Int) (tk : Nat) (G : Nat -> Sem Unit) (K : Unit -> Sem Fin) (lv : List Value -> List Value) : segGoT treeTable pR (fol b w) 11 zaI 1 4 (S w.params os [ent 79 (.int 3 281) h0] tk) ⟨(gOf h1 80 (.int 2 284) G none).wrap K H id lv,cE,ds.dpos,B0⟩ =
    some (S w.params os [ent 79 (.int 3 281) h0,ent 80 (.int 2 284) h1] tk,⟨K (),cE,ds.dpos,B0⟩) := by kernel_rfl
theorem zi0 (h0 : Int) (b0 : Bool) (h : Int) (tk : Nat) (G : Nat -> Sem Unit) (K : Unit -> Sem Fin) (lv lv' : List Value -> List Value) : zcm treeTable pR (fol b w) 11 zaI "dict.set.new-key-at-the-end" 500 (S w.params os [ent 79 (.int 3 281) h0] tk)
    ⟨(zbD 78 80 h #[ent 79 (.int 3 281) h0] (pl [b0])).wrap (fun r => (gOf h 80 (.int 2 284) G r).wrap K H id lv') H id lv,cE,ds.dpos,B0⟩ =
    some (S w.params os [ent 79 (.int 3 281) h0] tk,⟨(gOf h 80 (.int 2 284) G none).wrap K H id lv',cE,ds.dpos,B0⟩) := by cases b <;> cases b0 <;> kernel_rfl
theorem zh3 (h0 h : Int) : placesWithHash (#[ent 79 (.int 3 281) h0] : Array DictEntry).size (fun i => (#[ent 79 (.int 3 281) h0] : Array DictEntry)[i]?.map (·.hash)) h = pl [h0 == h] := by kernel_rfl
theorem zj9 (h0 h1 : Int) (tk : Nat) (K : Array DictEntry -> Sem Fin) (lv : List Value -> List Value) : segGoT treeTable pR (fol b w) 11 zaI 1 1 (S w.params os [ent 79 (.int 3 281) h0,ent 80 (.int 2 284) h1] tk) ⟨(dictEntries 78 none).wrap K H id lv,cE,ds.dpos,B0⟩ =
    some (S w.params os [ent 79 (.int 3 281) h0,ent 80 (.int 2 284) h1] tk,⟨K #[ent 79 (.int 3 281) h0,ent 80 (.int 2 284) h1],cE,ds.dpos,B0⟩) := by kernel_rfl
theorem zkt (h0 h1 : Int) (h2 : Int) (tk : Nat) (G : Nat -> Sem Unit) (K : Unit -> Sem Fin) (lv : List Value -> List Value) : segGoT treeTable pR (fol b w) 11 zaI 1 4 (S w.params os [ent 79 (.int 3 281) h0,ent 80 (.int 2 284) h1] tk) ⟨(gOf h2 81 (.int 2 287) G none).wrap K H id lv,cE,ds.dpos,B0⟩ =
    some (S w.params os [ent 79 (.int 3 281) h0,ent 80 (.int 2 284) h1,ent 81 (.int 2 287) h2] tk,⟨K (),cE,ds.dpos,B0⟩) := by kernel_rfl
theorem ziV (h0 h1 : Int) (b0 b1 : Bool) (h : Int) (tk : Nat) (G : Nat -> Sem Unit) (K : Unit -> Sem Fin) (lv lv' : List Value -> List Value) : zcm treeTable pR (fol b w) 11 zaI "dict.set.new-key-at-the-end" 500 (S w.params os [ent 79 (.int 3 281) h0,ent 80 (.int 2 284) h1] tk)
    ⟨(zbD 78 81 h #[ent 79 (.int 3 281) h0,ent 80 (.int 2 284) h1] (pl [b0,b1])).wrap (fun r => (gOf h 81 (.int 2 287) G r).wrap K H id lv') H id lv,cE,ds.dpos,B0⟩ =
    some (S w.params os [ent 79 (.int 3 281) h0,ent 80 (.int 2 284) h1] tk,⟨(gOf h 81 (.int 2 287) G none).wrap K H id lv',cE,ds.dpos,B0⟩) := by cases b <;> cases b0 <;> cases b1 <;> kernel_rfl
theorem zin (h0 h1 h : Int) : placesWithHash (#[ent 79 (.int 3 281) h0,ent 80 (.int 2 284) h1] : Array DictEntry).size (fun i => (#[ent 79 (.int 3 281) h0,ent 80 (.int 2 284) h1] : Array DictEntry)[i]?.map (·.hash)) h = pl [h0 == h,h1 == h] := by kernel_rfl
theorem zju (h0 h1 h2 : Int) (tk : Nat) (K : Array DictEntry -> Sem Fin) (lv : List Value -> List Value) : segGoT treeTable pR (fol b w) 11 zaI 1 1 (S w.params os [ent 79 (.int 3 281) h0,ent 80 (.int 2 284) h1,ent 81 (.int 2 287) h2] tk) ⟨(dictEntries 78 none).wrap K H id lv,cE,ds.dpos,B0⟩ =
    some (S w.params os [ent 79 (.int 3 281) h0,ent 80 (.int 2 284) h1,ent 81 (.int 2 287) h2] tk,⟨K #[ent 79 (.int 3 281) h0,ent 80 (.int 2 284) h1,ent 81 (.int 2 287) h2],cE,ds.dpos,B0⟩) := by kernel_rfl
theorem zkF (h0 h1 h2 : Int) (h3 : Int) (tk : Nat) (G : Nat -> Sem Unit) (K : Unit -> Sem Fin) (lv : List Value -> List Value) : segGoT treeTable pR (fol b w) 11 zaI 1 4 (S w.params os [ent 79 (.int 3 281) h0,ent 80 (.int 2 284) h1,ent 81 (.int 2 287) h2] tk) ⟨(gOf h3 82 (.int 3 290) G none).wrap K H id lv,cE,ds.dpos,B0⟩ =
    some (S w.params os [ent 79 (.int 3 281) h0,ent 80 (.int 2 284) h1,ent 81 (.int 2 287) h2,ent 82 (.int 3 290) h3] tk,⟨K (),cE,ds.dpos,B0⟩) := by kernel_rfl
theorem ziS (h0 h1 h2 : Int) (b0 b1 b2 : Bool) (h : Int) (tk : Nat) (G : Nat -> Sem Unit) (K : Unit -> Sem Fin) (lv lv' : List Value -> List Value) : zcm treeTable pR (fol b w) 11 zaI "dict.set.new-key-at-the-end" 500 (S w.params os [ent 79 (.int 3 281) h0,ent 80 (.int 2 284) h1,ent 81 (.int 2 287) h2] tk)
    ⟨(zbD 78 82 h #[ent 79 (.int 3 281) h0,ent 80 (.int 2 284) h1,ent 81 (.int 2 287) h2] (pl [b0,b1,b2])).wrap (fun r => (gOf h 82 (.int 3 290) G r).wrap K H id lv') H id lv,cE,ds.dpos,B0⟩ =
    some (S w.params os [ent 79 (.int 3 281) h0,ent 80 (.int 2 284) h1,ent 81 (.int 2 287) h2] tk,⟨(gOf h 82 (.int 3 290) G none).wrap K H id lv',cE,ds.dpos,B0⟩) := by cases b <;> cases b0 <;> cases b1 <;> cases b2 <;> kernel_rfl
theorem zh0 (h0 h1 h2 h : Int) : placesWithHash (#[ent 79 (.int 3 281) h0,ent 80 (.int 2 284) h1,ent 81 (.int 2 287) h2] : Array DictEntry).size (fun i => (#[ent 79 (.int 3 281) h0,ent 80 (.int 2 284) h1,ent 81 (.int 2 287) h2] : Array DictEntry)[i]?.map (·.hash)) h = pl [h0 == h,h1 == h,h2 == h] := by kernel_rfl
theorem zj4 (h0 h1 h2 h3 : Int) (tk : Nat) (K : Array DictEntry -> Sem Fin) (lv : List Value -> List Value) : segGoT treeTable pR (fol b w) 11 zaI 1 1 (S w.params os [ent 79 (.int 3 281) h0,ent 80 (.int 2 284) h1,ent 81 (.int 2 287) h2,ent 82 (.int 3 290) h3] tk) ⟨(dictEntries 78 none).wrap K H id lv,cE,ds.dpos,B0⟩ =
    some (S w.params os [ent 79 (.int 3 281) h0,ent 80 (.int 2 284) h1,ent 81 (.int 2 287) h2,ent 82 (.int 3 290) h3] tk,⟨K #[ent 79 (.int 3 281) h0,ent 80 (.int 2 284) h1,ent 81 (.int 2 287) h2,ent 82 (.int 3 290) h3],cE,ds.dpos,B0⟩) := by kernel_rfl
theorem zkN (h0 h1 h2 h3 : Int) (h4 : Int) (tk : Nat) (G : Nat -> Sem Unit) (K : Unit -> Sem Fin) (lv : List Value -> List Value) : segGoT treeTable pR (fol b w) 11 zaI 1 4 (S w.params os [ent 79 (.int 3 281) h0,ent 80 (.int 2 284) h1,ent 81 (.int 2 287) h2,ent 82 (.int 3 290) h3] tk) ⟨(gOf h4 83 (.int 3 293) G none).wrap K H id lv,cE,ds.dpos,B0⟩ =
    some (S w.params os [ent 79 (.int 3 281) h0,ent 80 (.int 2 284) h1,ent 81 (.int 2 287) h2,ent 82 (.int 3 290) h3,ent 83 (.int 3 293) h4] tk,⟨K (),cE,ds.dpos,B0⟩) := by kernel_rfl
theorem ziO (h0 h1 h2 h3 : Int) (b0 b1 b2 b3 : Bool) (h : Int) (tk : Nat) (G : Nat -> Sem Unit) (K : Unit -> Sem Fin) (lv lv' : List Value -> List Value) : zcm treeTable pR (fol b w) 11 zaI "dict.set.new-key-at-the-end" 500 (S w.params os [ent 79 (.int 3 281) h0,ent 80 (.int 2 284) h1,ent 81 (.int 2 287) h2,ent 82 (.int 3 290) h3] tk)
    ⟨(zbD 78 83 h #[ent 79 (.int 3 281) h0,ent 80 (.int 2 284) h1,ent 81 (.int 2 287) h2,ent 82 (.int 3 290) h3] (pl [b0,b1,b2,b3])).wrap (fun r => (gOf h 83 (.int 3 293) G r).wrap K H id lv') H id lv,cE,ds.dpos,B0⟩ =
    some (S w.params os [ent 79 (.int 3 281) h0,ent 80 (.int 2 284) h1,ent 81 (.int 2 287) h2,ent 82 (.int 3 290) h3] tk,⟨(gOf h 83 (.int 3 293) G none).wrap K H id lv',cE,ds.dpos,B0⟩) := by cases b <;> cases b0 <;> cases b1 <;> cases b2 <;> cases b3 <;> kernel_rfl
theorem zhV (h0 h1 h2 h3 h : Int) : placesWithHash (#[ent 79 (.int 3 281) h0,ent 80 (.int 2 284) h1,ent 81 (.int 2 287) h2,ent 82 (.int 3 290) h3] : Array DictEntry).size (fun i => (#[ent 79 (.int 3 281) h0,ent 80 (.int 2 284) h1,ent 81 (.int 2 287) h2,ent 82 (.int 3 290) h3] : Array DictEntry)[i]?.map (·.hash)) h = pl [h0 == h,h1 == h,h2 == h,h3 == h] := by kernel_rfl
theorem zjQ (h0 h1 h2 h3 h4 : Int) (tk : Nat) (K : Array DictEntry -> Sem Fin) (lv : List Value -> List Value) : segGoT treeTable pR (fol b w) 11 zaI 1 1 (S w.params os [ent 79 (.int 3 281) h0,ent 80 (.int 2 284) h1,ent 81 (.int 2 287) h2,ent 82 (.int 3 290) h3,ent 83 (.int 3 293) h4] tk) ⟨(dictEntries 78 none).wrap K H id lv,cE,ds.dpos,B0⟩ =
    some (S w.params os [ent 79 (.int 3 281) h0,ent 80 (.int 2 284) h1,ent 81 (.int 2 287) h2,ent 82 (.int 3 290) h3,ent 83 (.int 3 293) h4] tk,⟨K #[ent 79 (.int 3 281) h0,ent 80 (.int 2 284) h1,ent 81 (.int 2 287) h2,ent 82 (.int 3 290) h3,ent 83 (.int 3 293) h4],cE,ds.dpos,B0⟩) := by kernel_rfl
theorem zkh (h0 h1 h2 h3 h4 : Int) (h5 : Int) (tk : Nat) (G : Nat -> Sem Unit) (K : Unit -> Sem Fin) (lv : List Value -> List Value) : segGoT treeTable pR (fol b w) 11 zaI 1 4 (S w.params os [ent 79 (.int 3 281) h0,ent 80 (.int 2 284) h1,ent 81 (.int 2 287) h2,ent 82 (.int 3 290) h3,ent 83 (.int 3 293) h4] tk) ⟨(gOf h5 84 (.int 2 296) G none).wrap K H id lv,cE,ds.dpos,B0⟩ =
    some (S w.params os [ent 79 (.int 3 281) h0,ent 80 (.int 2 284) h1,ent 81 (.int 2 287) h2,ent 82 (.int 3 290) h3,ent 83 (.int 3 293) h4,ent 84 (.int 2 296) h5] tk,⟨K (),cE,ds.dpos,B0⟩) := by kernel_rfl
theorem zjk (h0 h1 h2 h3 h4 : Int) (b0 b1 b2 b3 b4 : Bool) (h : Int) (tk : Nat) (G : Nat -> Sem Unit) (K : Unit -> Sem Fin) (lv lv' : List Value -> List Value) : zcm treeTable pR (fol b w) 11 zaI "dict.set.new-key-at-the-end" 500 (S w.params os [ent 79 (.int 3 281) h0,ent 80 (.int 2 284) h1,ent 81 (.int 2 287) h2,ent 82 (.int 3 290) h3,ent 83 (.int 3 293) h4] tk)
    ⟨(zbD 78 84 h #[ent 79 (.int 3 281) h0,ent 80 (.int 2 284) h1,ent 81 (.int 2 287) h2,ent 82 (.int 3 290) h3,ent 83 (.int 3 293) h4] (pl [b0,b1,b2,b3,b4])).wrap (fun r => (gOf h 84 (.int 2 296) G r).wrap K H id lv') H id lv,cE,ds.dpos,B0⟩ =
    some (S w.params os [ent 79 (.int 3 281) h0,ent 80 (.int 2 284) h1,ent 81 (.int 2 287) h2,ent 82 (.int 3 290) h3,ent 83 (.int 3 293) h4] tk,⟨(gOf h 84 (.int 2 296) G none).wrap K H id lv',cE,ds.dpos,B0⟩) := by cases b <;> cases b0 <;> cases b1 <;> cases b2 <;> cases b3 <;> cases b4 <;> kernel_rfl
theorem zic (h0 h1 h2 h3 h4 h : Int) : placesWithHash (#[ent 79 (.int 3 281) h0,ent 80 (.int 2 284) h1,ent 81 (.int 2 287) h2,ent 82 (.int 3 290) h3,ent 83 (.int 3 293) h4] : Array DictEntry).size (fun i => (#[ent 79 (.int 3 281) h0,ent 80 (.int 2 284) h1,ent 81 (.int 2 287) h2,ent 82 (.int 3 290) h3,ent 83 (.int 3 293) h4] : Array DictEntry)[i]?.map (·.hash)) h = pl [h0 == h,h1 == h,h2 == h,h3 == h,h4 == h] := by kernel_rfl
end
def parts (P : Params) : List DictEntry := [ent 79 (.int 3 281) (hP P "row" "put"),ent 80 (.int 2 284) (hP P "row" "take"),ent 81 (.int 2 287) (hP P "row" "look"),ent 82 (.int 3 290) (hP P "number" "set"),ent 83 (.int 3 293) (hP P "number" "add"),ent 84 (.int 2 296) (hP P "number" "look")]
noncomputable def SB (w : World) (os : OsState) : SharedT := { S w.params os (parts w.params) 316 with tree := ((zgP w.params).set 78 (fun _ => zdT (parts w.params))).set 3 (Obj.mapDictKeys (·.push ⟨PyData.keyHash w.params (PySem.Str.ofString "PARTS"),.str (PySem.Str.ofString "PARTS") 315,.ref 78⟩)) }
theorem zjM (b : Bool) (w : World) (os : OsState) (es : List DictEntry) (tk : Nat) : S (fol b w).params os es tk = S w.params os es tk := by kernel_rfl
theorem zkC (b : Bool) (w : World) (os : OsState) (hs : List DictEntry) (e : hs = parts w.params) : segRunT treeTable pR (fol b w) 11 zaI 1 8 (S w.params os hs 315) ⟨(standAt ds.posN >>= fun _ => bindName sh.env_1 ds.x (.ref 78) >>= fun _ => pure Flow.next).wrap doneF deadEnd id id,cE,ds.dpos,B0⟩ =
    some (.next,{ S w.params os hs 316 with tree := ((zgP w.params).set 78 (fun _ => zdT hs)).set 3 (Obj.mapDictKeys (·.push ⟨PyData.keyHash w.params (PySem.Str.ofString "PARTS"),.str (PySem.Str.ofString "PARTS") 315,.ref 78⟩)) },cE,ds.posN) := by kernel_rfl
theorem mid (b : Bool) (w : World) (os : OsState) : segRun treeTable pR (fol b w) 11 zaI 1 (39 + (530 + (530 + (530 + (530 + (530 + (530 + 8))))))) (SA (fol b w) os).abs (pieceOf (zal 8) sh.env_1 cE zhc B0) = some (.next,(SB (fol b w) os).abs,cE,ds.posN) := by
  rw [st6]; show segRun treeTable pR (fol b w) 11 zaI 1 _ (SA (fol b w) os).abs ⟨(exec (.Assign [.Name ds.x ds.posN] (.Dict ds.ks ds.vs ds.dpos) ds.pos) sh.env_1).wrap doneF deadEnd id id,cE,zhc,B0⟩ = _; rw [zgh sh.env_1 ds.x ds.posN ds.dpos ds.pos ds.ks ds.vs pairs zi8 zkK (by rw [zd9]; decide) doneF deadEnd]
  refine zdl (go1 (fol b w) os (fun d _ => (standAt ds.posN >>= fun _ => bindName sh.env_1 ds.x (.ref d) >>= fun _ => pure Flow.next).wrap doneF deadEnd id id) deadEnd) ?_ rfl; rw [zjM]; unfold vs0; rw [zba,zaM]
  refine zb7 (l := [hsh w.params "row",hsh w.params "put"]) (es := #[]) (s1 := S w.params os [] 300) (s2 := S w.params os [ent 79 (.int 3 281) (hP w.params "row" "put")] 300) rfl (fun K lv => zcR ▸ ziG Builtin.Tuple.tupleHashOf b w os deadEnd [] 297 K lv) (fun K lv => zjt b w os deadEnd  300 K lv)
    (fun h G K lv lv' => by rw [zhS]; exact ziM b w os deadEnd   h 300 G K lv lv') (fun G K lv => zkD b w os deadEnd  _ 300 G K lv) ?_
  rw [zba,zaM]
  refine zb7 (l := [hsh w.params "row",hsh w.params "take"]) (es := #[ent 79 (.int 3 281) (hP w.params "row" "put")]) (s1 := S w.params os [ent 79 (.int 3 281) (hP w.params "row" "put")] 303) (s2 := S w.params os [ent 79 (.int 3 281) (hP w.params "row" "put"),ent 80 (.int 2 284) (hP w.params "row" "take")] 303) rfl (fun K lv => zcR ▸ zi9 Builtin.Tuple.tupleHashOf b w os deadEnd [ent 79 (.int 3 281) (hP w.params "row" "put")] 300 K lv) (fun K lv => zjG b w os deadEnd (hP w.params "row" "put") 303 K lv)
    (fun h G K lv lv' => by rw [zh3]; exact zi0 b w os deadEnd (hP w.params "row" "put") _ h 303 G K lv lv') (fun G K lv => zkH b w os deadEnd (hP w.params "row" "put") _ 303 G K lv) ?_
  rw [zba,zaM]
  refine zb7 (l := [hsh w.params "row",hsh w.params "look"]) (es := #[ent 79 (.int 3 281) (hP w.params "row" "put"),ent 80 (.int 2 284) (hP w.params "row" "take")]) (s1 := S w.params os [ent 79 (.int 3 281) (hP w.params "row" "put"),ent 80 (.int 2 284) (hP w.params "row" "take")] 306) (s2 := S w.params os [ent 79 (.int 3 281) (hP w.params "row" "put"),ent 80 (.int 2 284) (hP w.params "row" "take"),ent 81 (.int 2 287) (hP w.params "row" "look")] 306) rfl (fun K lv => zcR ▸ zjo Builtin.Tuple.tupleHashOf b w os deadEnd [ent 79 (.int 3 281) (hP w.params "row" "put"),ent 80 (.int 2 284) (hP w.params "row" "take")] 303 K lv) (fun K lv => zj9 b w os deadEnd (hP w.params "row" "put") (hP w.params "row" "take") 306 K lv)
    (fun h G K lv lv' => by rw [zin]; exact ziV b w os deadEnd (hP w.params "row" "put") (hP w.params "row" "take") _ _ h 306 G K lv lv') (fun G K lv => zkt b w os deadEnd (hP w.params "row" "put") (hP w.params "row" "take") _ 306 G K lv) ?_
  rw [zba,zaM]
  refine zb7 (l := [hsh w.params "number",hsh w.params "set"]) (es := #[ent 79 (.int 3 281) (hP w.params "row" "put"),ent 80 (.int 2 284) (hP w.params "row" "take"),ent 81 (.int 2 287) (hP w.params "row" "look")]) (s1 := S w.params os [ent 79 (.int 3 281) (hP w.params "row" "put"),ent 80 (.int 2 284) (hP w.params "row" "take"),ent 81 (.int 2 287) (hP w.params "row" "look")] 309) (s2 := S w.params os [ent 79 (.int 3 281) (hP w.params "row" "put"),ent 80 (.int 2 284) (hP w.params "row" "take"),ent 81 (.int 2 287) (hP w.params "row" "look"),ent 82 (.int 3 290) (hP w.params "number" "set")] 309) rfl (fun K lv => zcR ▸ zjh Builtin.Tuple.tupleHashOf b w os deadEnd [ent 79 (.int 3 281) (hP w.params "row" "put"),ent 80 (.int 2 284) (hP w.params "row" "take"),ent 81 (.int 2 287) (hP w.params "row" "look")] 306 K lv) (fun K lv => zju b w os deadEnd (hP w.params "row" "put") (hP w.params "row" "take") (hP w.params "row" "look") 309 K lv)
    (fun h G K lv lv' => by rw [zh0]; exact ziS b w os deadEnd (hP w.params "row" "put") (hP w.params "row" "take") (hP w.params "row" "look") _ _ _ h 309 G K lv lv') (fun G K lv => zkF b w os deadEnd (hP w.params "row" "put") (hP w.params "row" "take") (hP w.params "row" "look") _ 309 G K lv) ?_
  rw [zba,zaM]
  refine zb7 (l := [hsh w.params "number",hsh w.params "add"]) (es := #[ent 79 (.int 3 281) (hP w.params "row" "put"),ent 80 (.int 2 284) (hP w.params "row" "take"),ent 81 (.int 2 287) (hP w.params "row" "look"),ent 82 (.int 3 290) (hP w.params "number" "set")]) (s1 := S w.params os [ent 79 (.int 3 281) (hP w.params "row" "put"),ent 80 (.int 2 284) (hP w.params "row" "take"),ent 81 (.int 2 287) (hP w.params "row" "look"),ent 82 (.int 3 290) (hP w.params "number" "set")] 312) (s2 := S w.params os [ent 79 (.int 3 281) (hP w.params "row" "put"),ent 80 (.int 2 284) (hP w.params "row" "take"),ent 81 (.int 2 287) (hP w.params "row" "look"),ent 82 (.int 3 290) (hP w.params "number" "set"),ent 83 (.int 3 293) (hP w.params "number" "add")] 312) rfl (fun K lv => zcR ▸ ziR Builtin.Tuple.tupleHashOf b w os deadEnd [ent 79 (.int 3 281) (hP w.params "row" "put"),ent 80 (.int 2 284) (hP w.params "row" "take"),ent 81 (.int 2 287) (hP w.params "row" "look"),ent 82 (.int 3 290) (hP w.params "number" "set")] 309 K lv) (fun K lv => zj4 b w os deadEnd (hP w.params "row" "put") (hP w.params "row" "take") (hP w.params "row" "look") (hP w.params "number" "set") 312 K lv)
    (fun h G K lv lv' => by rw [zhV]; exact ziO b w os deadEnd (hP w.params "row" "put") (hP w.params "row" "take") (hP w.params "row" "look") (hP w.params "number" "set") _ _ _ _ h 312 G K lv lv') (fun G K lv => zkN b w os deadEnd (hP w.params "row" "put") (hP w.params "row" "take") (hP w.params "row" "look") (hP w.params "number" "set") _ 312 G K lv) ?_
  rw [zba,zaM]
  refine zb7 (l := [hsh w.params "number",hsh w.params "look"]) (es := #[ent 79 (.int 3 281) (hP w.params "row" "put"),ent 80 (.int 2 284) (hP w.params "row" "take"),ent 81 (.int 2 287) (hP w.params "row" "look"),ent 82 (.int 3 290) (hP w.params "number" "set"),ent 83 (.int 3 293) (hP w.params "number" "add")]) (s1 := S w.params os [ent 79 (.int 3 281) (hP w.params "row" "put"),ent 80 (.int 2 284) (hP w.params "row" "take"),ent 81 (.int 2 287) (hP w.params "row" "look"),ent 82 (.int 3 290) (hP w.params "number" "set"),ent 83 (.int 3 293) (hP w.params "number" "add")] 315) (s2 := S w.params os [ent 79 (.int 3 281) (hP w.params "row" "put"),ent 80 (.int 2 284) (hP w.params "row" "take"),ent 81 (.int 2 287) (hP w.params "row" "look"),ent 82 (.int 3 290) (hP w.params "number" "set"),ent 83 (.int 3 293) (hP w.params "number" "add"),ent 84 (.int 2 296) (hP w.params "number" "look")] 315) rfl (fun K lv => zcR ▸ ziP Builtin.Tuple.tupleHashOf b w os deadEnd [ent 79 (.int 3 281) (hP w.params "row" "put"),ent 80 (.int 2 284) (hP w.params "row" "take"),ent 81 (.int 2 287) (hP w.params "row" "look"),ent 82 (.int 3 290) (hP w.params "number" "set"),ent 83 (.int 3 293) (hP w.params "number" "add")] 312 K lv) (fun K lv => zjQ b w os deadEnd (hP w.params "row" "put") (hP w.params "row" "take") (hP w.params "row" "look") (hP w.params "number" "set") (hP w.params "number" "add") 315 K lv)
    (fun h G K lv lv' => by rw [zic]; exact zjk b w os deadEnd (hP w.params "row" "put") (hP w.params "row" "take") (hP w.params "row" "look") (hP w.params "number" "set") (hP w.params "number" "add") _ _ _ _ _ h 315 G K lv lv') (fun G K lv => zkh b w os deadEnd (hP w.params "row" "put") (hP w.params "row" "take") (hP w.params "row" "look") (hP w.params "number" "set") (hP w.params "number" "add") _ 315 G K lv) ?_
  exact segRun_of (zkC b w os _ rfl)
theorem zhM (w : World) (os : OsState) : segRun treeTable pR w 11 zaI 1 3227 (SA w os).abs (pieceOf (zal 8) sh.env_1 cE zhc B0) = some (.next,(SB w os).abs,cE,ds.posN) :=
  byRow2 "special-get-raises" (P := fun w => segRun treeTable pR w 11 zaI 1 3227 (SA w os).abs (pieceOf (zal 8) sh.env_1 cE zhc B0) = some (.next,(SB w os).abs,cE,ds.posN)) (fun w => mid false w os) (fun w => mid true w os) w
noncomputable def KF (P : Params) : Frag := [(2,PySem.W.boot_o_2 P),(3,shZ.o_232 P),(15,shZ.o_7 P),(22,shZ.o_14 P),(23,shZ.o_15 P),(24,shZ.o_71 P),(25,shZ.o_17 P),(28,shZ.o_24 P),(35,shZ.o_31 P),(36,shZ.o_32 P),(37,shZ.o_33 P),(40,shZ.o_40 P),(47,shZ.o_47 P),(48,shZ.o_48 P),(49,shZ.o_49 P),(52,shZ.o_56 P),(59,shZ.o_63 P),(60,shZ.o_64 P),(61,shZ.o_65 P),(64,shZ.o_72 P),(71,shZ.o_79 P),(72,shZ.o_80 P),(73,shZ.o_81 P),(76,shZ.o_84 P),(77,shZ.o_85 P),(78,zdT (parts P)),(79,tup "row" "put" 279),(80,tup "row" "take" 282),(81,tup "row" "look" 285),(82,tup "number" "set" 288),(83,tup "number" "add" 291),(84,tup "number" "look" 294),(85,shZ.o_98 P),(87,shZ.o_100 P),(88,shZ.o_101 P),(90,shZ.o_103 P),(91,shZ.o_104 P),(92,shZ.o_105 P),(94,shZ.o_107 P),(95,shZ.o_108 P),(97,shZ.o_110 P),(98,shZ.o_111 P),(99,shZ.o_112 P),(101,shZ.o_114 P),(102,shZ.o_115 P),(104,shZ.o_117 P),(105,shZ.o_118 P),(106,shZ.o_119 P),(109,shZ.o_122 P),(110,shZ.o_123 P),(111,shZ.o_124 P),(113,shZ.o_126 P),(114,shZ.o_127 P),(116,shZ.o_129 P),(117,shZ.o_130 P),(118,shZ.o_131 P),(121,shZ.o_134 P),(122,shZ.o_135 P),(123,shZ.o_136 P),(125,shZ.o_138 P),(126,shZ.o_139 P),(128,shZ.o_141 P),(129,shZ.o_142 P),(130,shZ.o_148 P),(132,shZ.o_150 P),(133,shZ.o_151 P),(135,shZ.o_153 P),(136,shZ.o_154 P),(137,shZ.o_155 P),(139,shZ.o_157 P),(140,shZ.o_158 P),(142,shZ.o_160 P),(143,shZ.o_161 P),(144,shZ.o_162 P),(147,shZ.o_165 P),(148,shZ.o_166 P),(149,shZ.o_167 P),(151,shZ.o_169 P),(152,shZ.o_170 P),(154,shZ.o_172 P),(155,shZ.o_173 P),(156,shZ.o_174 P),(158,shZ.o_176 P),(159,shZ.o_177 P),(161,shZ.o_179 P),(162,shZ.o_180 P),(163,shZ.o_181 P),(166,shZ.o_184 P),(167,shZ.o_185 P),(168,shZ.o_186 P),(171,shZ.o_189 P),(172,shZ.o_190 P),(173,shZ.o_191 P),(176,shZ.o_194 P),(177,shZ.o_195 P),(178,shZ.o_196 P),(180,shZ.o_198 P),(181,shZ.o_199 P),(183,shZ.o_201 P),(184,shZ.o_202 P),(185,shZ.o_203 P),(187,shZ.o_205 P),(188,shZ.o_206 P),(190,shZ.o_208 P),(191,shZ.o_209 P),(192,shZ.o_210 P),(194,shZ.o_212 P),(195,shZ.o_213 P),(197,shZ.o_215 P),(198,shZ.o_216 P),(199,shZ.o_217 P),(201,shZ.o_219 P),(202,shZ.o_220 P),(204,shZ.o_222 P),(205,shZ.o_223 P),(206,shZ.o_224 P),(208,shZ.o_226 P),(209,shZ.o_227 P),(211,shZ.o_229 P),(212,shZ.o_230 P),(213,shZ.o_234 P),(215,shZ.o_236 P),(216,shZ.o_237 P),(218,shZ.o_239 P),(219,shZ.o_240 P),(220,shZ.o_241 P),(222,shZ.o_243 P),(223,shZ.o_244 P),(225,shZ.o_246 P),(226,shZ.o_247 P),(227,shZ.o_248 P),(230,shZ.o_251 P),(231,shZ.o_252 P)]
def as0 : List Addr := [2,3,15,22,23,24,25,28,35,36,37,40,47,48,49,52,59,60,61,64,71,72,73,76,77,78,79,80,81,82,83,84,85,87,88,90,91,92,94,95,97,98,99,101,102,104,105,106,109,110,111,113,114,116,117,118,121,122,123,125,126,128,129,130,132,133,135,136,137,139,140,142,143,144,147,148,149,151,152,154,155,156,158,159,161,162,163,166,167,168,171,172,173,176,177,178,180,181,183,184,185,187,188,190,191,192,194,195,197,198,199,201,202,204,205,206,208,209,211,212,213,215,216,218,219,220,222,223,225,226,227,230,231]
noncomputable def q0 : Program := { PySem.Challenge.rw_callorder_k12_calls_on_lines.prog with main := { PySem.Challenge.rw_callorder_k12_calls_on_lines.prog.main with body := [zal 1,zal 2,zal 3,zal 4,zal 5,zal 7,zal 8,zal 9,zal 10,zal 11,zal 12,zal 14,zal 16,zal 17,zal 18,zal 19,zal 20,zal 21,zal 22,zal 23,zal 24,zal 25,zal 26,zal 27,zal 29,zal 30,zal 31,zal 32,zal 33,zal 34,zal 35,zal 36] } }
abbrev loose0 : List PySem.Str := [PySem.Str.ofString "STARTS",PySem.Str.ofString "PARTS"]
noncomputable def zgb : List Stmt := (behindTheImports pR).drop 9
theorem zii : behindTheImports pR = sh.sts_4 ++ (sh.sts_21 ++ (sh.sts_37 ++ (sh.sts_53 ++ (sh.sts_69 ++ (zal 8 :: zgb))))) := by kernel_rfl
theorem zjX : ∀ w : World,(fencedOpening treeTable pR w 20000).map (fun s => (s.heap,s.gens,s.drawn,s.toks)) = some (boot_heap w.params,Array.mk [],boot_drawn,boot_toks) := boot_open (p := pR) (N := 20000) (by kernel_rfl) (by decide) (fun s => by kernel_rfl)
theorem zkp (w : World) (os : OsState) : topGo treeTable pR w 11 zaI 12 ⟨boot_heap w.params,Array.mk [],boot_drawn,boot_toks,os⟩ (topStub pR) =
    some (({ tree := sh.tree_4 w.params,n := 15,life := { },gens := { toList := [] },drawn := { },toks := 187,os := os } : SharedT).abs,⟨denote treeTable cE,cE,ziN,B0⟩) := by kernel_rfl
theorem zi1 (w : World) (os : OsState) : segRun treeTable pR w 11 zaI 1 1 ({ tree := sh.tree_4 w.params,n := 15,life := { },gens := { toList := [] },drawn := { },toks := 187,os := os } : SharedT).abs (blockOf (behindTheImports pR) sh.env_1 cE ziN B0) =
    some (.next,({ tree := sh.tree_4 w.params,n := 15,life := { },gens := { toList := [] },drawn := { },toks := 187,os := os } : SharedT).abs,cE,ziN) := by kernel_rfl
theorem zkE (w : World) (os : OsState) (N' : Nat) (r : Shared) (h : topRun treeTable pR w 11 zaI N' (SB w os).abs (restOf zgb sh.env_1 cE ds.posN B0) = some r) :
    topRun treeTable pR w 11 zaI (12 + (1 + (196 + (214 + (214 + (214 + (264 + 3227)))))) + N') ⟨boot_heap w.params,Array.mk [],boot_drawn,boot_toks,os⟩ (topStub pR) = some r := by
  have h1 := piece_cons (zhM w os) h; have h2 := sh.chain pR (behindTheImports pR) w os (zal 8 :: zgb) (3227 + N') r h1; have h3 := piece_block (n := 1) (zi1 w os) (b := behindTheImports pR) (r := r) (N := (Nat.add 196 (Nat.add 214 (Nat.add 214 (Nat.add 214 (Nat.add 264 (3227 + N'))))))) (by rw [<- zii] at h2; exact h2)
  have h4 := go_top (zkp w os) h3; rw [show 12 + (1 + (196 + (214 + (214 + (214 + (264 + 3227)))))) + N' = 12 + (1 + (Nat.add 196 (Nat.add 214 (Nat.add 214 (Nat.add 214 (Nat.add 264 (3227 + N'))))))) from by show _ = 12 + (1 + (196 + (214 + (214 + (214 + (264 + (3227 + N'))))))); omega]
  exact h4
theorem zkx (w : World) (s : Shared) : topRun treeTable pR w 11 zaI 2 s ⟨doneF .next,cE,zj6,B0⟩ = some s := by
  obtain ⟨h,g,d,k,o⟩ := s; kernel_rfl
noncomputable abbrev hk : Hook := kHook KF as0 (fun _ => by kernel_rfl)
noncomputable abbrev Xt0 : Shared -> Bool := fun s => xlAt q0 [] s && recOk (RowW.records (OpenRow.toRowW PySem.Challenge.rw_callorder_k12_calls_on_lines.row)) s
theorem zkn (w : World) (os : OsState) : (segRunT treeTable pR w 11 zaI 1 776 (SB w os) (piecesOf zgb sh.env_1 cE ds.posN [topFrame zjZ])).map (fun x => (x.1,x.2.2,
        (staticsOk (importedModules pR.main.body) (boot_heap w.params) x.2.1.abs.heap && namesBound pR x.2.1.abs.heap && gensDone x.2.1.abs && laidKept (boot_heap w.params) x.2.1.abs.heap),
        openSeen q0 loose0 (importedModules pR.main.body) Xt0 true x.2.1.abs,hk.obs x.2.1.abs)) =
      some (.next,(cE,zj6),true,openGood q0 loose0,hk.val w) := by kernel_rfl
theorem left0 : LeftO pR q0 loose0 Xt0 (Hook.obs hk) (Hook.val hk) 20000 := zg6 zjX (fun w => by kernel_rfl) zkE zkx zkn (by decide)
end HD
namespace My
open PySem L2
open PySem.Spec (same_self)
def top (i : Nat) : Stmt := PySem.Challenge.pw_callorder_k12_calls_on_lines.main.body.getD i (.Pass ⟨0,0,0,0⟩)
abbrev za7 : Stmt := top 9
abbrev zco : List Str := ["value"]
theorem zcw : zap zco ["value"] (zaf za7) := ⟨rfl,rfl,rfl,by decide +kernel,rfl,by decide +kernel,by decide +kernel⟩
abbrev zb2 : Stmt := top 10
abbrev ze0 : List Str := ["deed","parts"]
theorem zeK : zap ze0 ["deed","parts"] (zaf zb2) := ⟨rfl,rfl,rfl,by decide +kernel,rfl,by decide +kernel,by decide +kernel⟩
abbrev zdw : Stmt := top 11
abbrev zgs : List Str := ["kind","deed","key"]
theorem sc_can_do : zap zgs ["kind","deed"] (zaf zdw) := ⟨rfl,rfl,rfl,by decide +kernel,rfl,by decide +kernel,by decide +kernel⟩
abbrev zaL : Stmt := top 12
abbrev zbh : List Str := ["deed"]
theorem zcg : zap zbh ["deed"] (zaf zaL) := ⟨rfl,rfl,rfl,by decide +kernel,rfl,by decide +kernel,by decide +kernel⟩
abbrev zbB : Stmt := top 14
abbrev zdS : List Str := ["call"]
theorem zdE : zap zdS ["call"] (zaf zbB) := ⟨rfl,rfl,rfl,by decide +kernel,rfl,by decide +kernel,by decide +kernel⟩
abbrev zbN : Stmt := top 18
abbrev zcY : List Str := ["text","signs"]
theorem ze6 : zap zcY ["text","signs"] (zaf zbN) := ⟨rfl,rfl,rfl,by decide +kernel,rfl,by decide +kernel,by decide +kernel⟩
abbrev zaV : Stmt := top 19
abbrev zcj : List Str := ["text"]
theorem zce : zap zcj ["text"] (zaf zaV) := ⟨rfl,rfl,rfl,by decide +kernel,rfl,by decide +kernel,by decide +kernel⟩
abbrev zaP : Stmt := top 20
abbrev zbY : List Str := ["text","figures"]
theorem sc_is_written_number : zap zbY ["text"] (zaf zaP) := ⟨rfl,rfl,rfl,by decide +kernel,rfl,by decide +kernel,by decide +kernel⟩
abbrev zbC : Stmt := top 21
abbrev zdr : List Str := ["text"]
theorem zdv : zap zdr ["text"] (zaf zbC) := ⟨rfl,rfl,rfl,by decide +kernel,rfl,by decide +kernel,by decide +kernel⟩
abbrev zbt : Stmt := top 22
abbrev zcJ : List Str := ["parts","deed"]
theorem sc_read_deed : zap zcJ ["parts"] (zaf zbt) := ⟨rfl,rfl,rfl,by decide +kernel,rfl,by decide +kernel,by decide +kernel⟩
abbrev zbA : Stmt := top 23
abbrev zdG : List Str := ["text"]
theorem zdN : zap zdG ["text"] (zaf zbA) := ⟨rfl,rfl,rfl,by decide +kernel,rfl,by decide +kernel,by decide +kernel⟩
abbrev zbX : Stmt := top 24
abbrev zeW : List Str := ["line","parts","begin","end"]
theorem sc_read_line : zap zeW ["line"] (zaf zbX) := ⟨rfl,rfl,rfl,by decide +kernel,rfl,by decide +kernel,by decide +kernel⟩
abbrev zeB : Stmt := top 25
abbrev zf0 : List Str := ["lines"]
theorem zhQ : zap zf0 ["lines"] (zaf zeB) := ⟨rfl,rfl,rfl,by decide +kernel,rfl,by decide +kernel,by decide +kernel⟩
abbrev zbm : Stmt := top 26
abbrev zcl : List Str := ["call","deed","thing","answer"]
theorem sc_shown_call : zap zcl ["call"] (zaf zbm) := ⟨rfl,rfl,rfl,by decide +kernel,rfl,by decide +kernel,by decide +kernel⟩
abbrev zdm : Stmt := top 27
abbrev zfi : List Str := ["calls"]
theorem zgQ : zap zfi ["calls"] (zaf zdm) := ⟨rfl,rfl,rfl,by decide +kernel,rfl,by decide +kernel,by decide +kernel⟩
abbrev zbL : Stmt := top 29
abbrev zd3 : List Str := ["_law_found"]
theorem zd2 : zap zd3 ["_law_found"] (zaf zbL) := ⟨rfl,rfl,rfl,by decide +kernel,rfl,by decide +kernel,by decide +kernel⟩
abbrev zcV : Stmt := top 30
abbrev zfx : List Str := ["_law_script","_law_k"]
theorem zfK : zap zfx ["_law_script","_law_k"] (zaf zcV) := ⟨rfl,rfl,rfl,by decide +kernel,rfl,by decide +kernel,by decide +kernel⟩
abbrev zbo : Stmt := top 31
abbrev zde : List Str := ["_law_lines"]
theorem zdf : zap zde ["_law_lines"] (zaf zbo) := ⟨rfl,rfl,rfl,by decide +kernel,rfl,by decide +kernel,by decide +kernel⟩
abbrev za3 : Stmt := top 32
abbrev zcz : List Str := ["_law_lines","e","_law_kinds"]
theorem sc__law_under_base : zap zcz ["_law_lines"] (zaf za3) := ⟨rfl,rfl,rfl,by decide +kernel,rfl,by decide +kernel,by decide +kernel⟩
abbrev za4 : Stmt := top 33
abbrev zcp : List Str := ["_law_cell","_law_large","_law_numbers","_law_begin","_law_end","_law_word","_law_thing","_law_j","_law_deed","_law_answer"]
theorem sc__law_drawn_call : zap zcp ["_law_cell"] (zaf za4) := ⟨rfl,rfl,rfl,by decide +kernel,rfl,by decide +kernel,by decide +kernel⟩
abbrev zbq : Stmt := top 34
abbrev zdd : List Str := ["_law_call","_law_line","_law_part","_law_answer"]
theorem sc__law_line_of : zap zdd ["_law_call"] (zaf zbq) := ⟨rfl,rfl,rfl,by decide +kernel,rfl,by decide +kernel,by decide +kernel⟩
abbrev zbZ : Stmt := top 35
abbrev zey : List Str := ["_law_found","_law_call","_law_numbers","_law_number"]
theorem sc__law_same : zap zey ["_law_found","_law_call"] (zaf zbZ) := ⟨rfl,rfl,rfl,by decide +kernel,rfl,by decide +kernel,by decide +kernel⟩
abbrev zc8 : Stmt := top 36
abbrev zeC : List Str := ["_law_script","_law_calls","_law_k","_law_lines","_law_found","_law_back","_law_bad","_law_spot","_law_text"]
theorem sc_law : zap zeC ["_law_script"] (zaf zc8) := ⟨rfl,rfl,rfl,by decide +kernel,rfl,by decide +kernel,by decide +kernel⟩
structure Bl (mg : Str -> Option Value) : Prop where
  all_ : mg "all" = none
  any_ : mg "any" = none
  bool_ : mg "bool" = none
  int_ : mg "int" = none
  isinstance_ : mg "isinstance" = none
  len_ : mg "len" = none
  list_ : mg "list" = none
  min_ : mg "min" = none
  range_ : mg "range" = none
  str_ : mg "str" = none
  tuple_ : mg "tuple" = none
section
variable {P : Program} {w : World} {K : Fg} {mg : Str -> Option Value} {base : Heap} {f : Addr} {fd : FuncData} {st pt nl oe n th b : Addr}
section
open PyProof.Rows
theorem zfB {a b : Str} (h : a.cps.toList = b.cps.toList) : a = b := Str.ext' (Array.toList_inj.mp h)
theorem zdo (a b : Str) : (a ++ b).cps.toList = a.cps.toList ++ b.cps.toList := by rw [Str.cps_append,Array.toList_append]
theorem zik (x : Str) : x.cps.toList.length = x.length := Array.length_toList
theorem zhh {c : Nat} : ∀ {a a' b b' : List Nat},c ∉ a -> c ∉ a' -> a ++ c :: b = a' ++ c :: b' -> a = a' /\ b = b'
  | [],[],b,b',_,_,h => ⟨rfl,(List.cons.inj h).2⟩
  | [],x :: a',b,b',_,h2,h => absurd (show c ∈ x :: a' from (List.cons.inj h).1 ▸ List.mem_cons_self) h2
  | x :: a,[],b,b',h1,_,h => absurd (show c ∈ x :: a from (List.cons.inj h).1 ▸ List.mem_cons_self) h1
  | x :: a,y :: a',b,b',h1,h2,h => by
    obtain ⟨e1,e2⟩ := List.cons.inj h; obtain ⟨e3,e4⟩ := zhh (fun q => h1 (List.mem_cons_of_mem _ q)) (fun q => h2 (List.mem_cons_of_mem _ q)) e2; exact ⟨by rw [e1,e3],e4⟩
theorem zdL (z p q : Str) (r : List Str) : (Str.join z (p :: q :: r)).cps.toList = p.cps.toList ++ (z.cps.toList ++ (Str.join z (q :: r)).cps.toList) := by
  show (p ++ z ++ Str.join z (q :: r)).cps.toList = _; rw [zdo,zdo,List.append_assoc]
theorem ze2 (c : Nat) : ∀ {ps qs : List Str},ps ≠ [] -> qs ≠ [] -> (∀ p ∈ ps,c ∉ p.cps.toList) -> (∀ q ∈ qs,c ∉ q.cps.toList) -> Str.join ⟨#[c]⟩ ps = Str.join ⟨#[c]⟩ qs -> ps = qs
  | [],_,h,_,_,_,_ => absurd rfl h
  | _,[],_,h,_,_,_ => absurd rfl h
  | [p],[q],_,_,_,_,e => by rw [show p = q from e]
  | [p],q :: q' :: r,_,_,h1,_,e => by
    have e' : p = Str.join ⟨#[c]⟩ (q :: q' :: r) := e; have := h1 p (by simp)
    rw [e',zdL] at this; exact absurd (by simp) this
  | p :: p' :: r,[q],_,_,_,h2,e => by
    have e' : Str.join ⟨#[c]⟩ (p :: p' :: r) = q := e; have := h2 q (by simp)
    rw [<- e',zdL] at this; exact absurd (by simp) this
  | p :: p' :: r,q :: q' :: r',_,_,h1,h2,e => by
    have e1 := congrArg (fun x => x.cps.toList) e; simp only [zdL] at e1; obtain ⟨e2,e3⟩ := zhh (h1 p (by simp)) (h2 q (by simp)) e1
    rw [zfB e2,ze2 c (ps := p' :: r) (qs := q' :: r') (by simp) (by simp) (fun x hx => h1 x (List.mem_cons_of_mem _ hx)) (fun x hx => h2 x (List.mem_cons_of_mem _ hx)) (zfB e3)]
theorem zhE : (" " : Str) = ⟨#[32]⟩ := by decide
theorem zfA {ps : List Str} (h : ps ≠ []) (hf : ∀ p ∈ ps,32 ∉ p.cps.toList) : Txt.split (Str.join " " ps) " " = ps := by
  rw [zhE]; refine ze2 32 (fun e => ?_) h (StrLaws.split_free _ 32) hf (StrLaws.join_split _ _); have := split_pos (Str.join ⟨#[32]⟩ ps) ⟨#[32]⟩; rw [e] at this; exact absurd this (by decide)
theorem zcc {z : Str} : ∀ {ps : List Str} (q : Str),ps ≠ [] -> Str.join z (ps ++ [q]) = Str.join z ps ++ z ++ q
  | [],_,h => absurd rfl h
  | [p],q,_ => rfl
  | p :: p' :: r,q,_ => by
    show p ++ z ++ Str.join z ((p' :: r) ++ [q]) = p ++ z ++ Str.join z (p' :: r) ++ z ++ q; rw [zcc q (by simp)]
    simp only [Str.append_assoc]
def zak (n : Int) : Str := toString n
def ziv (cs : List Nat) : Prop := ∀ c ∈ cs,48 <= c /\ c <= 57
theorem zc7 (m : Nat) : ziv ((Nat.toDigits 10 m).map Char.toNat) := by
  intro c hc; obtain ⟨ch,hch,e⟩ := List.mem_map.mp hc; rw [<- e]; exact digit_range (Nat.isDigit_of_mem_toDigits (by decide) (by decide) hch)
theorem zc0 (m : Nat) : ∃ c r,(Nat.toDigits 10 m).map Char.toNat = c :: r /\ (c = 48 -> m = 0) := by
  induction m using Nat.strongRecOn with
  | _ m ih =>
    by_cases h : m < 10
    . rw [Nat.toDigits_of_lt_base h]; refine ⟨_,_,rfl,?_⟩; have : ∀ d : Nat,d < 10 -> (Nat.digitChar d).toNat = 48 -> d = 0 := by decide
      exact this m h
    . have hm : m % 10 < 10 := Nat.mod_lt m (by decide)
      have t : Nat.toDigits 10 (m / 10) ++ Nat.toDigits 10 (m % 10) = Nat.toDigits 10 (10 * (m / 10) + m % 10) := Nat.toDigits_append_toDigits (by decide) (by omega) hm
      rw [Nat.div_add_mod] at t; obtain ⟨c,r,e,hc⟩ := ih (m / 10) (by omega)
      rw [<- t,List.map_append,e]; exact ⟨c,_,rfl,fun q => by have := hc q; omega⟩
theorem zcA : ∀ (k m : Nat),m < 10 ^ (k + 1) -> (Nat.toDigits 10 m).length <= k + 1
  | 0,m,h => by rw [Nat.toDigits_of_lt_base (by simpa using h)]; simp
  | k + 1,m,h => by
    by_cases h10 : m < 10
    . rw [Nat.toDigits_of_lt_base h10]; simp
    . have hm : m % 10 < 10 := Nat.mod_lt m (by decide)
      have t : Nat.toDigits 10 (m / 10) ++ Nat.toDigits 10 (m % 10) = Nat.toDigits 10 (10 * (m / 10) + m % 10) := Nat.toDigits_append_toDigits (by decide) (by omega) hm
      rw [Nat.div_add_mod] at t; have := zcA k (m / 10) (by rw [Nat.pow_succ] at h; omega)
      rw [<- t,List.length_append,Nat.toDigits_of_lt_base hm]
      simpa using this
theorem zf5 (m : Nat) : (zak (m : Int)).cps.toList = (Nat.toDigits 10 m).map Char.toNat := PySem.W.KIN.signs_num m
theorem zf4 (k : Nat) : (zak (Int.negSucc k)).cps.toList = 45 :: (Nat.toDigits 10 (k + 1)).map Char.toNat := by
  show (Str.ofString (toString (Int.negSucc k))).cps.toList = _; rw [PyProof.Rows.signs_ofString]; show ("-" ++ Nat.repr (k + 1)).toList.map Char.toNat = _; rw [String.toList_append,List.map_append,Nat.toList_repr]
  rfl
theorem zdq (n : Int) : ∃ c r,ziv (c :: r) /\ (c = 48 -> n = 0) /\ (NumText.digitsVal (c :: r) = n.natAbs) /\ ((0 <= n /\ (zak n).cps.toList = c :: r) \/ (n < 0 /\ (zak n).cps.toList = 45 :: c :: r)) := by
  cases n with
  | ofNat m =>
    obtain ⟨c,r,e,hc⟩ := zc0 m; refine ⟨c,r,e ▸ zc7 m,fun q => by rw [hc q]; rfl,?_,.inl ⟨Int.natCast_nonneg m,(zf5 m).trans e⟩⟩
    rw [<- e]; exact PySem.W.KIN.val_back m
  | negSucc k =>
    obtain ⟨c,r,e,hc⟩ := zc0 (k + 1); refine ⟨c,r,e ▸ zc7 (k + 1),fun q => absurd (hc q) (by omega),?_,.inr ⟨Int.negSucc_lt_zero k,(zf4 k).trans (by rw [e])⟩⟩
    rw [<- e]; exact PySem.W.KIN.val_back (k + 1)
def zbu (n : Int) : Prop := n.natAbs < 10 ^ 92
theorem zby {n : Int} (h : zbu n) : (zak n).length <= 93 := by
  rw [<- zik]
  cases n with
  | ofNat m =>
    rw [show (Int.ofNat m : Int) = (m : Int) from rfl,zf5,List.length_map]; exact Nat.le_trans (zcA 91 m h) (by decide)
  | negSucc k =>
    rw [zf4,List.length_cons,List.length_map]; exact Nat.succ_le_succ (zcA 91 (k + 1) h)
theorem zbv {n : Int} (h : zbu n) : n.natAbs.log2 < 1920 := by
  by_cases h0 : n.natAbs = 0
  . rw [h0]; decide
  . exact (Nat.log2_lt h0).mpr (Nat.lt_of_lt_of_le h (by decide +kernel))
theorem zcD (n : Int) : 32 ∉ (zak n).cps.toList := by
  obtain ⟨c,r,hf,_,_,h | h⟩ := zdq n
  . rw [h.2]; intro q; have := hf 32 q; omega
  . rw [h.2]; intro q
    rcases List.mem_cons.mp q with q | q
    . omega
    . have := hf 32 q; omega
def figures : Str := "0123456789"
def letters : Str := "abcdefghijklmnopqrstuvwxyz"
def zaz (t z : Str) : Bool := !(t == ("" : Str)) && t.cps.toList.all fun c => decide (c ∈ z.cps.toList)
def za5 (t : Str) : Str := if Txt.startswith t "-" = true then StrLaws.sliceText t (some 1) none else t
def zbP (t : Str) : Bool := zaz (za5 t) figures && (!((za5 t).cps.toList.head? == some 48) || t == ("0" : Str))
theorem zcI (t : Str) : Txt.startswith t "-" = (t.cps.toList.head? == some 45) := by
  have h := StrLaws.subAt_one t 45 0; have e : ("-" : Str) = ⟨#[45]⟩ := by decide
  rw [e]; unfold Txt.startswith; rw [Bool.eq_iff_iff,Bool.and_eq_true,decide_eq_true_eq,h,beq_iff_eq,List.head?_eq_getElem?]
theorem zdu {t : Str} {r : List Nat} (h : t.cps.toList = 45 :: r) : (za5 t).cps.toList = r := by
  unfold za5; rw [if_pos (by rw [zcI,h]; rfl)]
  rw [StrLaws.sliceText_from ⟨by decide,by rw [h]; simp; omega⟩,h]
  show (List.take _ r) = r; rw [List.take_of_length_le]; simp
theorem zet {t : Str} (h : t.cps.toList.head? ≠ some 45) : za5 t = t := by
  unfold za5; rw [if_neg (by rw [zcI,beq_iff_eq]; exact h)]
theorem fig_mem {c : Nat} : c ∈ figures.cps.toList ↔ 48 <= c /\ c <= 57 := by
  have e : figures.cps.toList = [48,49,50,51,52,53,54,55,56,57] := by decide
  rw [e]; simp only [List.mem_cons,List.not_mem_nil,or_false]; omega
theorem let_mem {c : Nat} : c ∈ letters.cps.toList ↔ 97 <= c /\ c <= 122 := by
  have e : letters.cps.toList = [97,98,99,100,101,102,103,104,105,106,107,108,109,110,111,112,113,114,115,116,117,118,119,120,121,122] := by decide
  rw [e]; simp only [List.mem_cons,List.not_mem_nil,or_false]; omega
theorem zgp {t : Str} : (t == ("" : Str)) = true ↔ t.cps.toList = [] := by
  rw [beq_iff_eq]; constructor
  . intro h; rw [h]; decide
  . intro h; exact zfB (by rw [h]; decide)
theorem only_iff {t z : Str} : zaz t z = true ↔ t.cps.toList ≠ [] /\ ∀ c ∈ t.cps.toList,c ∈ z.cps.toList := by
  unfold zaz; rw [Bool.and_eq_true,Bool.not_eq_true',List.all_eq_true,<- Bool.not_eq_true,zgp]; simp only [decide_eq_true_eq]
theorem zen {t : Str} {c : Nat} {r : List Nat} (e : t.cps.toList = c :: r) (h : ziv (c :: r)) : zaz t figures = true :=
  only_iff.mpr ⟨by rw [e]; simp,fun d hd => fig_mem.mpr (h d (e ▸ hd))⟩
theorem zjj (n : Int) : zbP (zak n) = true := by
  obtain ⟨c,r,hf,h0,_,h | h⟩ := zdq n
  . have hb : za5 (zak n) = zak n := zet (by rw [h.2]; intro q; have e : c = 45 := Option.some.inj q; have := hf c (by simp); omega)
    unfold zbP; rw [hb,zen h.2 hf,Bool.true_and,Bool.or_eq_true,Bool.not_eq_true',h.2]
    by_cases hc : c = 48
    . rw [h0 hc]; exact .inr (by decide)
    . exact .inl (by simpa using hc)
  . have hb := zdu h.2; unfold zbP; rw [zen hb hf,Bool.true_and,Bool.or_eq_true,Bool.not_eq_true',hb]; refine .inl ?_; have : c ≠ 48 := fun q => by have := h0 q; omega
    simpa using this
theorem zhJ {n : Int} (h : zbu n) : PySem.intText? (zak n) = some n := by
  have hl : (zak n).length <= 4300 := Nat.le_trans (zby h) (by decide)
  obtain ⟨c,r,hf,_,hv,h1 | h1⟩ := zdq n
  . rw [intText_digits (x := zak n) (by rw [h1.2]; exact hf) (by rw [h1.2]; simp) hl,h1.2,hv]
    congr 1; omega
  . rw [intText_neg h1.2 hf (by simp) hl,hv]
    congr 1; omega
theorem zhe {t : Str} (h : zbP t = true) (hl : t.length <= 640) : ∃ n,PySem.intText? t = some n := by
  unfold zbP at h; rw [Bool.and_eq_true] at h; obtain ⟨hne,hf⟩ := only_iff.mp h.1; have hf' : ziv (za5 t).cps.toList := fun c hc => fig_mem.mp (hf c hc)
  by_cases hm : t.cps.toList.head? = some 45
  . cases e : t.cps.toList with
    | nil => rw [e] at hm; cases hm
    | cons d r =>
      rw [e] at hm; have : d = 45 := Option.some.inj hm; subst this; rw [zdu e] at hne hf'; exact ⟨_,intText_neg e hf' hne (Nat.le_trans hl (by decide))⟩
  . rw [zet hm] at hne hf'; exact ⟨_,intText_digits hf' hne (Nat.le_trans hl (by decide))⟩
structure Call where
  b : Int
  e : Int
  w : Str
  t : Str
  vs : List Int
  an : Option Int
def zbS : Option Int -> Str
  | none => "none"
  | some n => zak n
def zau (w : Str) (k : Nat) : Bool := ((w == ("put" : Str) || w == ("set" : Str) || w == ("add" : Str)) && k == 1) || ((w == ("take" : Str) || w == ("look" : Str)) && k == 0)
def Call.parts (c : Call) : List Str := zak c.b :: zak c.e :: c.w :: c.t :: (c.vs.map zak ++ [("gives" : Str),zbS c.an])
def Call.line (c : Call) : Str := Str.join " " c.parts
structure Call.Ok (c : Call) : Prop where
  lt : c.b < c.e
  nb : zbu c.b
  ne : zbu c.e
  nv : ∀ v ∈ c.vs,zbu v
  na : ∀ n,c.an = some n -> zbu n
  th : zaz c.t letters = true
  tl : c.t.length <= 40
  kd : zau c.w c.vs.length = true
def zam (t : Str) : Option Int := if zbP t = true then PySem.intText? t else none
def zaC : List Str -> Option (List Int)
  | [] => some []
  | t :: r => (zam t).bind fun n => (zaC r).map fun ms => n :: ms
def za2 : List Str -> Option (Str × Str × List Int)
  | w :: t :: ns => (zaC ns).bind fun ms => if (zaz t letters && zau w ms.length) = true then some (w,t,ms) else none
  | _ => none
def zaT (t : Str) : Option (Option Int) := if (t == ("none" : Str)) = true then some none else (zam t).map some
def zbd (ps : List Str) : List Str := (ps.drop 2).take (ps.length - 4)
def za9 (ps : List Str) : Option Call :=
  if (decide (ps.length < 6) || !(ps.getD (ps.length - 2) "" == ("gives" : Str))) = true then none else
  (zam (ps.getD 0 "")).bind fun b => (zam (ps.getD 1 "")).bind fun e => if e <= b then none else
  (za2 (zbd ps)).bind fun d => (zaT (ps.getD (ps.length - 1) "")).map fun a => ⟨b,e,d.1,d.2.1,d.2.2,a⟩
def zan (x : Str) : Option Call := za9 (Txt.split x " ")
theorem zcM {n : Int} (h : zbu n) : zam (zak n) = some n := by unfold zam; rw [if_pos (zjj n),zhJ h]
theorem zer : ∀ {ms : List Int},(∀ m ∈ ms,zbu m) -> zaC (ms.map zak) = some ms
  | [],_ => rfl
  | m :: r,h => by
    rw [List.map_cons]; unfold zaC; rw [zcM (h m (by simp)),zer fun x hx => h x (List.mem_cons_of_mem _ hx)]
    rfl
theorem zhs (n : Int) : (zak n == ("none" : Str)) = false := by
  rw [beq_eq_false_iff_ne]; intro e; obtain ⟨c,r,hf,_,_,h | h⟩ := zdq n
  . rw [e] at h; have h2 : ([110,111,110,101] : List Nat) = c :: r := (by decide : ([110,111,110,101] : List Nat) = ("none" : Str).cps.toList).trans h.2
    have := hf c (by simp)
    have := (List.cons.inj h2).1; omega
  . rw [e] at h; have h2 : ([110,111,110,101] : List Nat) = 45 :: c :: r := (by decide : ([110,111,110,101] : List Nat) = ("none" : Str).cps.toList).trans h.2
    have := (List.cons.inj h2).1; omega
theorem zg7 {a : Option Int} (h : ∀ n,a = some n -> zbu n) : zaT (zbS a) = some a := by
  cases a with
  | none => unfold zaT zbS; rw [if_pos (by decide)]
  | some n =>
    unfold zaT; show (if (zak n == ("none" : Str)) = true then _ else _) = _; rw [if_neg (by rw [zhs]; decide)]
    show (zam (zak n)).map some = _; rw [zcM (h n rfl)]
    rfl
theorem zeF (x : Str) (h : (x.cps.toList.all fun c => decide (c ≠ 32)) = true) : 32 ∉ x.cps.toList := fun q => by
  have := List.all_eq_true.mp h 32 q; exact absurd rfl (of_decide_eq_true this)
theorem zb9 {w : Str} {k : Nat} (h : zau w k = true) : w ∈ (["put","set","add","take","look"] : List Str) := by
  unfold zau at h; simp only [Bool.or_eq_true,Bool.and_eq_true,beq_iff_eq] at h; simp only [List.mem_cons,List.not_mem_nil,or_false]
  rcases h with ⟨(h | h) | h,_⟩ | ⟨h | h,_⟩
  . exact .inl h
  . exact .inr (.inl h)
  . exact .inr (.inr (.inl h))
  . exact .inr (.inr (.inr (.inl h)))
  . exact .inr (.inr (.inr (.inr h)))
theorem zfJ {c : Call} (h : c.Ok) : ∀ p ∈ c.parts,32 ∉ p.cps.toList := by
  intro p hp; unfold Call.parts at hp; simp only [List.mem_cons,List.mem_append,List.not_mem_nil,or_false] at hp
  rcases hp with rfl | rfl | rfl | rfl | hp | rfl | rfl
  . exact zcD _
  . exact zcD _
  . have := zb9 h.kd; simp only [List.mem_cons,List.not_mem_nil,or_false] at this
    rcases this with e | e | e | e | e <;> rw [e] <;> exact zeF _ (by decide)
  . intro q; have := let_mem.mp ((only_iff.mp h.th).2 32 q); omega
  . obtain ⟨v,_,rfl⟩ := List.mem_map.mp hp; exact zcD v
  . exact zeF _ (by decide)
  . cases c.an with
    | none => exact zeF _ (by decide)
    | some n => exact zcD n
theorem zcy {c : Call} (h : c.Ok) : Txt.split c.line " " = c.parts := zfA (by unfold Call.parts; simp) (zfJ h)
theorem zfs {c : Call} (h : c.Ok) : za9 c.parts = some c := by
  have hl : c.parts.length = c.vs.length + 6 := by unfold Call.parts; simp
  have e0 : c.parts.getD 0 "" = zak c.b := rfl; have e1 : c.parts.getD 1 "" = zak c.e := rfl
  have e2 : c.parts.getD (c.parts.length - 2) "" = "gives" := by
    rw [hl]; unfold Call.parts; show (zak c.b :: zak c.e :: c.w :: c.t :: (c.vs.map zak ++ [("gives" : Str),zbS c.an])).getD (c.vs.length + 4) "" = _; simp [List.getD_eq_getElem?_getD,List.getElem?_append_right]
  have e3 : c.parts.getD (c.parts.length - 1) "" = zbS c.an := by
    rw [hl]; unfold Call.parts; show (zak c.b :: zak c.e :: c.w :: c.t :: (c.vs.map zak ++ [("gives" : Str),zbS c.an])).getD (c.vs.length + 5) "" = _; simp [List.getD_eq_getElem?_getD,List.getElem?_append_right]
  have e4 : zbd c.parts = c.w :: c.t :: c.vs.map zak := by
    unfold zbd; rw [hl]; unfold Call.parts; show List.take (c.vs.length + 6 - 4) (c.w :: c.t :: (c.vs.map zak ++ [("gives" : Str),zbS c.an])) = _; rw [show c.vs.length + 6 - 4 = c.vs.length + 2 from rfl]; simp
  unfold za9; rw [if_neg (by rw [e2,hl]; simp),e0,e1,e3,e4,zcM h.nb,zcM h.ne]
  simp only [Option.bind_some]; rw [if_neg (by have := h.lt; omega)]
  have hd : za2 (c.w :: c.t :: c.vs.map zak) = some (c.w,c.t,c.vs) := by
    show (zaC (c.vs.map zak)).bind _ = _; rw [zer h.nv]; exact if_pos (by rw [h.th,h.kd]; rfl)
  rw [hd,zg7 h.na]
  rfl
theorem zes {c : Call} (h : c.Ok) : zan c.line = some c := by
  unfold zan; rw [zcy h,zfs h]
def bads : List Str := ["","0 1 take a","0 1 take a gives","0 1 take a gives ","0 1 take a 1 gives 1","0 1 put a gives none","0 1 pull a gives none","1 1 take a gives none","1 0 take a gives none","00 1 take a gives none","0 01 take a gives none",
  "0 1 take A gives none","0 1 take a give none","0 1 take a gives None","0 1 take a gives 01","0 1 put a -0 gives none"," 0 1 take a gives none","0 1 take a gives none ","0  1 take a gives none","0 1 put a none gives none"]
theorem ze5 : ∀ x ∈ bads,zan x = none := by
  have : (bads.all fun x => (zan x).isNone) = true := by decide +kernel
  intro x hx; exact Option.isNone_iff_eq_none.mp (List.all_eq_true.mp this x hx)
theorem zds (z : Str) (k : Nat) (hz : z.length = 1) : ∀ (ps : List Str),(∀ p ∈ ps,p.length <= k) -> (Str.join z ps).length <= ps.length * (k + 1)
  | [],_ => by show (0 : Nat) <= _; omega
  | [p],h => by have := h p (by simp); show p.length <= _; simp; omega
  | p :: q :: r,h => by
    have h1 := h p (by simp)
    have h2 := zds z k hz (q :: r) fun x hx => h x (List.mem_cons_of_mem _ hx); show (p ++ z ++ Str.join z (q :: r)).length <= _; rw [Str.length_append,Str.length_append,hz]; simp only [List.length_cons] at h2 ⊢; rw [Nat.succ_mul]; omega
end
def zcu : List (List Key × V) := [([.inr "row",.inr "put"],.int 3),([.inr "row",.inr "take"],.int 2),([.inr "row",.inr "look"],.int 2),([.inr "number",.inr "set"],.int 3),([.inr "number",.inr "add"],.int 3),([.inr "number",.inr "look"],.int 2)]
structure Tp (P : Program) (w : World) (K : Fg) (mg : Str -> Option Value) (st pt nl oe n th b : Addr) : Prop where
  mST : mg "STARTS" = some (.ref st)
  mPT : mg "PARTS" = some (.ref pt)
  tST : zj3 K st [.str "row",.str "number"]
  tPT : ziX P w K pt zcu
  mLT : ∃ t,mg "LETTERS" = some (.str letters t)
  mFG : ∃ t,mg "FIGURES" = some (.str figures t)
  kL : zjF K mg "NoLine" nl
  mO : mg "OrderError" = some (.ref oe)
  mN : mg "NoKind" = some (.ref n)
  mT : mg "NoThing" = some (.ref th)
  mB : mg "BadCall" = some (.ref b)
  mV : mg "ValueError" = none
  e1 : PySem.W.exmOne K (.ref nl) (.ref nl) = some true
  e2 : PySem.W.exmOne K (.ref nl) (.ref oe) = some true
  xl : HT.excCls K nl = true
  k1 : PySem.W.kitOne K (.ref nl) (.ref n) = some false
  k2 : PySem.W.kitOne K (.ref nl) (.ref th) = some false
  k3 : PySem.W.kitOne K (.ref nl) (.ref b) = some false
  k4 : PySem.W.kitOne K (.ref nl) (.ref nl) = some true
  k5 : PySem.W.kitOne K (.ref nl) (.type "ValueError") = some true
def Tail (xs : List V) : Prop := xs.length <= 3 /\ (∀ y,xs[0]? = some y -> ∃ t,y = .str t) /\ ∀ y,xs[1]? = some y -> ∃ i,y = .int i
def pOf (k wd : Str) : Option V := zdk zcu [.inr k,.inr wd]
theorem zhK {k wd : Str} {v : V} (h : pOf k wd = some v) : v = .int 2 \/ v = .int 3 := by
  unfold pOf at h; have : ∀ p ∈ zcu,p.2 = .int 2 \/ p.2 = .int 3 := by decide
  unfold zdk at h; obtain ⟨p,hp,rfl⟩ := Option.map_eq_some_iff.mp h; exact this p (List.mem_of_find?_eq_some hp)
theorem zht {K : Fg} : PySem.W.kitOne K (.type "str") (.type "str") = some true := by rfl
theorem Same.updN {H H2 : Hp} {D : Addr} {o : HO} (m : Same H H2) (h : H D = none) : Same H (upd H2 D o) := fun b ob e => by
  rw [zax (zaX e h)]; exact m b ob e
def zdn : Sp := fun vs H Q _ => ∃ i,vs = [.int i] /\ Q (.bl true) H
def zjP (K : Fg) : Sp := fun vs H Q _ => ∃ a x xs p,vs = [.ref a,.int p] /\ SqT K H a (x :: xs) /\ Tail xs /\ (p = 2 \/ p = 3) /\ Q (.bl (decide ((xs.length : Int) + 1 = p))) H
def zaZ (k wd : Str) (n : Nat) : Bool := match pOf k wd with
  | some (.int p) => decide ((n : Int) + 1 = p)
  | _ => false
def ziC (K : Fg) : Sp := fun vs H Q _ => ∃ k wd a xs,vs = [.str k,.ref a] /\ SqT K H a (.str wd :: xs) /\ Tail xs /\ ∀ H',Same H H' -> Q (.bl (zaZ k wd xs.length)) H'
theorem zcr (F : Fun K "is_whole_number" "is_whole_number" za7 f fd) (B : Bl mg) : FnOk P w K mg base CX0 1 f fd ["value"] zdn := by
  refine F.ok zcw (fun vs H Q E h => ?_) (fun cdv A outer s H vs Q E hr h => ?_)
  . obtain ⟨i,rfl,_⟩ := h; rfl
  . obtain ⟨i,rfl,k⟩ := h; refine ⟨_,(zag (zaq (zct (zai zaR rfl B.isinstance_ PyProof.Rows.boot_isinstance (zaa (pv 0) (zaa (za1 (v := .ty "int") rfl B.int_ PyProof.Rows.boot_int rfl) zac))) (zbO (zhr (zai zaR rfl B.isinstance_ PyProof.Rows.boot_isinstance (zaa (pv 0) (zaa (za1 (v := .ty "bool") rfl B.bool_ PyProof.Rows.boot_bool rfl) zac)))))))),?_⟩; refine ⟨_,rfl,_,_,.type "int",true,rfl,TyOf.int i,zhf,true,rfl,?_⟩; exact ⟨_,rfl,_,_,.type "int",false,rfl,TyOf.int i,zgU,false,rfl,k⟩
theorem zeQ (F : Fun K "has_parts" "has_parts" zb2 f fd) (B : Bl mg) (g_is_whole_number : FnX P w K mg base "is_whole_number" 1 zdn) : FnOk P w K mg base CX0 2 f fd ["deed","parts"] (zjP K) := by
  refine F.ok zeK (fun vs H Q E h => ?_) (fun cdv A outer s H vs Q E hr h => ?_)
  . obtain ⟨a,x,xs,p,rfl,_⟩ := h; rfl
  . obtain ⟨a,x,xs,p,rfl,hS,⟨hl,h0,h1⟩,hp,k⟩ := h
    refine ⟨_,(zad (zaY (PW.pt (zc5 (zaK zc6 (zai zas rfl B.len_ PySem.boot_len (zaa (pv 0) zac)) (pv 1) (zaE _)) (zcx (zaW (zaQ (zai zaR rfl B.isinstance_ PyProof.Rows.boot_isinstance (zaa (zat zaJ (pv 0) zae (fun _ _ => rfl)) (zaa (za1 (v := .ty "str") rfl B.str_ PyProof.Rows.boot_str rfl) zac))))))))
    (zag (zaq zbw)) zaB)
    (zag (zaq (ziy (zbc zfr (pv 1) zae (zaE _)) (zbO (zav g_is_whole_number za8 hr rfl (zaa (zat zaJ (pv 0) zae (fun _ _ => rfl)) zac))))))),?_⟩
    refine ⟨_,rfl,a,x :: xs,rfl,.inr hS,_,rfl,rfl,_,rfl,?_⟩
    have e : (decide (V.int ((x :: xs).length : Int) = V.int p)) = decide ((xs.length : Int) + 1 = p) := by
      rw [zeA,List.length_cons]
      by_cases q : (xs.length : Int) + 1 = p
      . rw [decide_eq_true q]; simp; omega
      . rw [decide_eq_false q]; simp; omega
    rw [e]
    by_cases q : (xs.length : Int) + 1 = p
    . rw [decide_eq_true q] at k ⊢; refine zbI ?_
      match xs,hl,h0,h1,q,hS with
      | [],_,_,_,q,_ => simp at q; omega
      | y :: ys,hl,h0,h1,q,hS =>
        obtain ⟨t,rfl⟩ := h0 y rfl; refine ⟨_,rfl,a,_,1,_,rfl,rfl,hS,at1,_,_,.type "str",true,rfl,TyOf.str t,zht,true,rfl,?_⟩; refine zbI ?_
        rcases hp with rfl | rfl
        . exact ⟨_,rfl,rfl,true,rfl,zdX k⟩
        . match ys,h1,q,hS with
          | [],_,q,_ => simp at q
          | y :: zs,h1,q,hS =>
            obtain ⟨i,rfl⟩ := h1 y rfl; exact ⟨_,rfl,rfl,false,rfl,zbI ⟨_,rfl,a,_,2,_,rfl,rfl,hS,at2,i,rfl,k⟩⟩
    . rw [decide_eq_false q] at k ⊢; exact zdX (zdX k)
theorem zgl (F : Fun K "can_do" "can_do" zdw f fd) (B : Bl mg) (T : Tp P w K mg st pt nl oe n th b) (g_has_parts : FnX P w K mg base "has_parts" 2 (zjP K)) :
    FnOk P w K mg base CX0 3 f fd ["kind","deed"] (ziC K) := by
  refine F.ok sc_can_do (fun vs H Q E h => ?_) (fun cdv A outer s H vs Q E hr h => ?_)
  . obtain ⟨k,wd,a,xs,rfl,_⟩ := h; rfl
  . obtain ⟨kd,wd,a,xs,rfl,hS,hT,hq⟩ := h; have hu := zjr hr
    refine ⟨_,(zad (zao (i := 2) sc_can_do.nd rfl (by first | exact .inl rfl | exact .inr rfl) (zcO (zaa (pv 0) (zaa (zat zaJ (pv 1) zae (fun _ _ => rfl)) zac))))
    (zag (zaq (zct (zi4 (ziW hu (pv 2) (zbj (v := .ref pt) rfl T.mPT rfl))) (zbO (zav g_has_parts za8 hr rfl (zaa (pv 1) (zaa (zig hu (zbj (v := .ref pt) rfl T.mPT rfl) (pv 2) (fun _ _ => rfl)) zac)))))))),?_⟩
    refine ⟨_,rfl,_,rfl,a,_,0,_,rfl,rfl,hS,at0,nlb rfl,fun p hp => ?_⟩; have s1 : Same H (upd H p (.tup [.str kd,.str wd])) := Same.upd hp; have z := hq _ s1; refine ⟨_,rfl,pt,_,rfl,.inr ⟨zcu,[.inr kd,.inr wd],p,T.tPT,rfl,zab,rfl⟩,_,rfl,?_⟩; unfold zaZ at z; show if (pOf kd wd).isSome = true then _ else _
    cases e : pOf kd wd with
    | none =>
      rw [e] at z; exact zbI z
    | some v =>
      rw [e] at z; obtain ⟨q,rfl,hq2⟩ : ∃ q : Int,v = .int q /\ (q = 2 \/ q = 3) := by rcases zhK e with rfl | rfl; exact ⟨2,rfl,.inl rfl⟩; exact ⟨3,rfl,.inr rfl⟩
      exact zdX ⟨_,rfl,_,rfl,pt,.int q,rfl,.inr ⟨zcu,[.inr kd,.inr wd],p,T.tPT,rfl,zab,e.symm⟩,a,.str wd,xs,q,rfl,Same.tup s1 hS,hT,hq2,z⟩
def Out {α : Type} (r : Option α) (Q : α -> Prop) (E : Prop) : Prop := (∀ x,r = some x -> Q x) /\ (r = none -> E)
def anV : Option Int -> V
  | none => .non
  | some n => .int n
def zj5 (K : Fg) : R2 := fun x y H Q => ∃ a b xs ys,x = .ref a /\ y = .ref b /\ H a = some (.tup xs) /\ SqT K H b ys /\ xs ≠ [] /\ xs.length + ys.length <= sizeLine /\ ∀ H' c,Same H H' -> H' c = some (.tup (xs ++ ys)) -> Q (.ref c) H'
theorem zfW {X : Cx} : OpR X (binaryOp .Add) (zj5 X.K) := by
  intro pins s σ H x y v u Q I rx ry h; obtain ⟨a,b,xs,ys,rfl,rfl,ha,hb,hx,hz,q⟩ := h; exact zhU pins s σ H _ _ v u Q I rx ry ⟨a,b,xs,ys,rfl,rfl,SqT.of ha,hb,hx,hz,fun e => q H a (Same.refl H) (by rw [e,List.append_nil]; exact ha),fun _ p hp => q _ p (Same.upd hp) zab⟩
def zfI (K : Fg) : Sp := fun vs H Q _ => ∃ wd a xs,vs = [.ref a] /\ SqT K H a (.str wd :: xs) /\ Tail xs /\ ∀ H',Same H H' -> Q (.bl (zaZ "row" wd xs.length || zaZ "number" wd xs.length)) H'
def zfO : Sp := fun vs H Q _ => ∃ t z : Str,vs = [.str t,.str z] /\ t.length <= 10000 /\ ∀ H',Same H H' -> Q (.bl (zaz t z)) H'
def zeU : Sp := fun vs H Q _ => ∃ t : Str,vs = [.str t] /\ t.length <= 10000 /\ ∀ H',Same H H' -> Q (.bl (zaz t letters)) H'
def zf2 : Sp := fun vs H Q _ => ∃ t : Str,vs = [.str t] /\ t.length <= 10000 /\ ∀ H',Same H H' -> Q (.bl (zbP t)) H'
def zge (nl : Addr) : Sp := fun vs H Q E => ∃ t : Str,vs = [.str t] /\ t.length <= 640 /\ (zam t = none -> (reprText t).length <= 100000) /\ ∀ H',Same H H' -> Out (zam t) (fun n => Q (.int n) H') (E (.ref nl) none H')
def ziF (nl : Addr) : Sp := fun vs H Q E => ∃ t : Str,vs = [.str t] /\ t.length <= 640 /\ (zaT t = none -> (reprText t).length <= 100000) /\ ∀ H',Same H H' -> Out (zaT t) (fun a => Q (anV a) H') (E (.ref nl) none H')
def zjK (ps : List Str) : Prop := (∀ p ∈ ps,(reprText p).length <= 100000) /\ (PyData.list (ps.map PyData.str)).shown.length <= 100000
def zhy (K : Fg) (nl : Addr) : Sp := fun vs H Q E => ∃ (l : Addr) (ps : List Str),vs = [.ref l] /\ SqL K H l (ps.map V.str) /\ 2 <= ps.length /\ ps.length <= 4 /\ (∀ p ∈ ps,p.length <= 640) /\ (za2 ps = none -> zjK ps) ∧
  ∀ H',Same H H' -> Out (za2 ps) (fun d => ∀ a,H' a = some (.tup (.str d.1 :: .str d.2.1 :: d.2.2.map V.int)) -> Q (.ref a) H') (E (.ref nl) none H')
def IsCall (K : Fg) (H : Hp) (a : Addr) (c : Call) : Prop := ∃ d,H a = some (.tup [.int c.b,.int c.e,.ref d,anV c.an]) /\ H d = some (.tup (.str c.w :: .str c.t :: c.vs.map V.int))
theorem IsCall.keep {K : Fg} {H H' : Hp} {a : Addr} {c : Call} (s : Same H H') (h : IsCall K H a c) : IsCall K H' a c := let ⟨d,h1,h2⟩ := h; ⟨d,s _ _ h1,s _ _ h2⟩
structure zcQ (x : Str) : Prop where
  len : x.length <= 10000
  few : (Txt.split x " ").length <= 8
  part : ∀ p ∈ Txt.split x " ",p.length <= 640
  short : zan x = none -> (reprText x).length <= 100000 /\ (∀ p ∈ Txt.split x " ",(reprText p).length <= 100000) /\ (PyData.list ((zbd (Txt.split x " ")).map PyData.str)).shown.length <= 100000
def zhB (K : Fg) (nl : Addr) : Sp := fun vs H Q E => ∃ x : Str,vs = [.str x] /\ zcQ x /\ ∀ H',Same H H' -> Out (zan x) (fun c => ∀ a,IsCall K H' a c -> Q (.ref a) H') (E (.ref nl) none H')
def CallsAt (K : Fg) (H : Hp) (as : List Addr) (cs : List Call) : Prop := as.length = cs.length /\ ∀ (i : Nat) a c,as[i]? = some a -> cs[i]? = some c -> IsCall K H a c
theorem CallsAt.keep {K : Fg} {H H' : Hp} {as : List Addr} {cs : List Call} (s : Same H H') (h : CallsAt K H as cs) : CallsAt K H' as cs := ⟨h.1,fun i a c h1 h2 => (h.2 i a c h1 h2).keep s⟩
def zdI (K : Fg) (nl : Addr) : Sp := fun vs H Q E => ∃ (l : Addr) (xs : List Str),vs = [.ref l] /\ SqL K H l (xs.map V.str) /\ xs.length <= 1000 /\ (∀ x ∈ xs,zcQ x) ∧
  ((∃ cs : List Call,xs.map zan = cs.map some /\ ∀ H' l' as,Same H H' -> H' l' = some (.lst (as.map V.ref)) -> CallsAt K H' as cs -> Q (.ref l') H') \/ ((∃ x ∈ xs,zan x = none) /\ ∀ H',Same H H' -> E (.ref nl) none H'))
theorem zel (wd : Str) (k : Nat) : (zaZ "row" wd (k + 1) || zaZ "number" wd (k + 1)) = zau wd k := by
  have no : wd ∉ (["put","set","add","take","look"] : List Str) -> ∀ kd : Str,pOf kd wd = none := fun h kd => by
    unfold pOf zcu; have ne : ∀ (x y : Str),wd ≠ y -> ([Sum.inr x,Sum.inr y] : List Key) ≠ [.inr kd,.inr wd] := fun x y h q => h (Sum.inr.inj (List.cons.inj (List.cons.inj q).2).1).symm; simp only [List.mem_cons,List.not_mem_nil,or_false,not_or] at h; obtain ⟨h1,h2,h3,h4,h5⟩ := h; rw [zbe (ne _ _ h1),zbe (ne _ _ h4),zbe (ne _ _ h5),zbe (ne _ _ h2),zbe (ne _ _ h3),zbe (ne _ _ h5),zhF]
  have p1 : zaZ "row" "put" (k + 1) = decide (k = 1) := by show decide (((k + 1 : Nat) : Int) + 1 = 3) = _; rw [decide_eq_decide]; omega
  have p2 : zaZ "number" "put" (k + 1) = false := rfl; have s1 : zaZ "row" "set" (k + 1) = false := rfl; have s2 : zaZ "number" "set" (k + 1) = decide (k = 1) := by show decide (((k + 1 : Nat) : Int) + 1 = 3) = _; rw [decide_eq_decide]; omega
  have a1 : zaZ "row" "add" (k + 1) = false := rfl; have a2 : zaZ "number" "add" (k + 1) = decide (k = 1) := by show decide (((k + 1 : Nat) : Int) + 1 = 3) = _; rw [decide_eq_decide]; omega
  have t1 : zaZ "row" "take" (k + 1) = decide (k = 0) := by show decide (((k + 1 : Nat) : Int) + 1 = 2) = _; rw [decide_eq_decide]; omega
  have t2 : zaZ "number" "take" (k + 1) = false := rfl; have l1 : zaZ "row" "look" (k + 1) = decide (k = 0) := by show decide (((k + 1 : Nat) : Int) + 1 = 2) = _; rw [decide_eq_decide]; omega
  have l2 : zaZ "number" "look" (k + 1) = decide (k = 0) := by show decide (((k + 1 : Nat) : Int) + 1 = 2) = _; rw [decide_eq_decide]; omega
  have e1 : decide (k = 1) = (k == 1) := by rw [Bool.eq_iff_iff]; simp
  have e0 : decide (k = 0) = (k == 0) := by rw [Bool.eq_iff_iff]; simp
  by_cases h : wd ∈ (["put","set","add","take","look"] : List Str)
  . simp only [List.mem_cons,List.not_mem_nil,or_false] at h
    rcases h with rfl | rfl | rfl | rfl | rfl
    . rw [p1,p2,e1]; unfold zau; rw [show (("put" : Str) == ("put" : Str)) = true by decide,show (("put" : Str) == ("take" : Str)) = false by decide,show (("put" : Str) == ("look" : Str)) = false by decide]; simp
    . rw [s1,s2,e1]; unfold zau; rw [show (("set" : Str) == ("set" : Str)) = true by decide,show (("set" : Str) == ("take" : Str)) = false by decide,show (("set" : Str) == ("look" : Str)) = false by decide]; simp
    . rw [a1,a2,e1]; unfold zau; rw [show (("add" : Str) == ("add" : Str)) = true by decide,show (("add" : Str) == ("take" : Str)) = false by decide,show (("add" : Str) == ("look" : Str)) = false by decide]; simp
    . rw [t1,t2,e0]; unfold zau; rw [show (("take" : Str) == ("take" : Str)) = true by decide,show (("take" : Str) == ("put" : Str)) = false by decide,show (("take" : Str) == ("set" : Str)) = false by decide,show (("take" : Str) == ("add" : Str)) = false by decide]; simp
    . rw [l1,l2,e0]; unfold zau; rw [show (("look" : Str) == ("look" : Str)) = true by decide,show (("look" : Str) == ("put" : Str)) = false by decide,show (("look" : Str) == ("set" : Str)) = false by decide,show (("look" : Str) == ("add" : Str)) = false by decide]; simp
  . have e1 : zaZ "row" wd (k + 1) = false := by unfold zaZ; rw [no h]
    have e2 : zaZ "number" wd (k + 1) = false := by unfold zaZ; rw [no h]
    have e3 : zau wd k = false := by
      cases q : zau wd k with
      | false => rfl
      | true => exact absurd (zb9 q) h
    rw [e1,e2,e3]; rfl
theorem zci (F : Fun K "some_kind_can_do" "some_kind_can_do" zaL f fd) (B : Bl mg) (T : Tp P w K mg st pt nl oe n th b) (g_can_do : FnX P w K mg base "can_do" 3 (ziC K)) :
    FnOk P w K mg base CX0 4 f fd ["deed"] (zfI K) := by
  refine F.ok zcg (fun vs H Q E h => ?_) (fun cdv A outer s H vs Q E hr h => ?_)
  . obtain ⟨wd,a,xs,rfl,_⟩ := h; rfl
  . obtain ⟨wd,a,xs,rfl,hS,hT,hq⟩ := h; refine ⟨_,(zag (zaq (zai (zgG rfl) rfl B.any_ PyProof.Rows.boot_any (zaa (zfR (zc2 (sc := zaf zaL) (N0 := zbh) (ns := ["deed"]) (idx := [0]) (by decide +kernel)) rfl (zj1 (zbj (v := .ref st) rfl T.mST rfl)) (fun _ _ _ _ => zb6) (fun _ _ _ _ => (zav g_can_do za8 hr rfl (zaa (pv 0) (zaa (pv 1) zac))))) zac)))),?_⟩
    refine ⟨st,_,rfl,T.tST,zjN (fun D i ys H' => Same H H' /\ H' D = some (.lst ys) /\ ys = ([zaZ "row" wd xs.length,zaZ "number" wd xs.length].take i).map V.bl /\ i <= 2) (by decide) (fun D hD => ⟨Same.upd hD,zab,rfl,by decide⟩) (fun D i ys H' h => ⟨h.2.1,?_⟩) ?_ ?_⟩
    . obtain ⟨_,_,rfl,h2⟩ := h; rw [List.length_map,List.length_take]; show min i 2 = i; omega
    . rintro D i x ys H' R hD hx ⟨s1,hDy,rfl,hi⟩ hR
      have step : ∀ (kd : Str) (ys' : List V),([zaZ "row" wd xs.length,zaZ "number" wd xs.length].take (i + 1)).map V.bl = ([zaZ "row" wd xs.length,zaZ "number" wd xs.length].take i).map V.bl ++ [V.bl (zaZ kd wd xs.length)] -> i + 1 <= 2 -> x = .str kd →
          ∃ k wd' a' xs',[x,V.ref a] = [.str k,.ref a'] /\ SqT K H' a' (.str wd' :: xs') /\ Tail xs' /\ ∀ H2,Same H' H2 -> R (.bl (zaZ k wd' xs'.length)) H2 := fun kd _ e h2 ex => by
        subst ex; refine ⟨kd,wd,a,xs,rfl,Same.tup s1 hS,hT,fun H2 s2 => hR _ _ (s2 _ _ hDy) ⟨Same.updN (s1.trans s2) hD,zab,e.symm,h2⟩⟩
      match i,hx with
      | 0,hx =>
        have ex : V.str "row" = x := Option.some.inj hx; exact ⟨_,rfl,_,rfl,step "row" [] rfl (by decide) ex.symm⟩
      | 1,hx =>
        have ex : V.str "number" = x := Option.some.inj hx; exact ⟨_,rfl,_,rfl,step "number" [] rfl (by decide) ex.symm⟩
    . rintro D ys H' hD ⟨s1,hDy,rfl,_⟩; refine ⟨D,[zaZ "row" wd xs.length,zaZ "number" wd xs.length],rfl,SqL.of hDy,?_⟩; have := hq H' s1
      simpa using this
theorem ze9 (F : Fun K "has_only" "has_only" zbN f fd) (B : Bl mg) : FnOk P w K mg base CX0 1 f fd ["text","signs"] zfO := by
  refine F.ok ze6 (fun vs H Q E h => ?_) (fun cdv A outer s H vs Q E hr h => ?_)
  . obtain ⟨t,z,rfl,_⟩ := h; rfl
  . obtain ⟨t,z,rfl,hl,hq⟩ := h; have hsz : sizeLine = 16777216 := sizeLine_eq; refine ⟨_,(zag (zaq (zct (zbc zc6 (pv 0) zah (zaE _)) (zbO (zai (zgF rfl) rfl B.all_ PyProof.Rows.boot_all (zaa (zfR (zc2 (sc := zaf zbN) (N0 := zcY) (ns := ["signs"]) (idx := [1]) (by decide +kernel)) rfl (zh9 (pv 0)) (fun _ _ _ _ => zb6) (fun _ _ _ _ => (zbc zgu (pv 0) (pv 1) rfl))) zac)))))),?_⟩
    refine ⟨_,rfl,rfl,_,rfl,?_⟩
    by_cases he : t = ""
    . have : zaz t z = false := by rw [he]; rfl
      rw [this] at hq; subst he; exact zcU (by decide) (hq H (Same.refl H))
    . refine zdh (by simpa using he) ?_
      refine ⟨_,rfl,t,rfl,zis (fun c => V.bl (decide (c ∈ z.cps.toList))) (by show t.length <= _; omega) (fun c _ D ys R hD hR => ?_) fun D hD => ?_⟩
      . refine ⟨_,rfl,_,rfl,_,_,rfl,rfl,?_⟩; rw [StrLaws.found_one]; exact hR
      . refine ⟨D,t.cps.toList.map (fun c => decide (c ∈ z.cps.toList)),rfl,SqL.of (by rw [List.map_map]; exact zab),?_⟩
        have := hq _ (Same.upd (o := .lst (t.cps.toList.map fun c => V.bl (decide (c ∈ z.cps.toList)))) hD)
        have e : (t.cps.toList.map (fun c => decide (c ∈ z.cps.toList))).all id = zaz t z := by
          unfold zaz; rw [show (t == ("" : Str)) = false from by rw [beq_eq_false_iff_ne]; exact he,List.all_map]
          rfl
        rw [e]; exact this
theorem zcf (F : Fun K "is_written_thing" "is_written_thing" zaV f fd) (B : Bl mg) (T : Tp P w K mg st pt nl oe n th b) (g_has_only : FnX P w K mg base "has_only" 1 zfO) : FnOk P w K mg base CX0 2 f fd ["text"] zeU := by
  refine F.ok zce (fun vs H Q E h => ?_) (fun cdv A outer s H vs Q E hr h => ?_)
  . obtain ⟨t,rfl,_⟩ := h; rfl
  . obtain ⟨t,rfl,hl,hq⟩ := h; obtain ⟨tL,hL⟩ := T.mLT; refine ⟨_,(zag (zaq (zav g_has_only za8 hr rfl (zaa (pv 0) (zaa (zbj (v := .str letters) rfl hL ⟨_,rfl⟩) zac))))),?_⟩; exact ⟨_,rfl,t,letters,rfl,hl,hq⟩
theorem zbU (F : Fun K "is_written_number" "is_written_number" zaP f fd) (B : Bl mg) (T : Tp P w K mg st pt nl oe n th b) (g_has_only : FnX P w K mg base "has_only" 1 zfO) : FnOk P w K mg base CX0 2 f fd ["text"] zf2 := by
  refine F.ok sc_is_written_number (fun vs H Q E h => ?_) (fun cdv A outer s H vs Q E hr h => ?_)
  . obtain ⟨t,rfl,_⟩ := h; rfl
  . obtain ⟨t,rfl,hl,hq⟩ := h; obtain ⟨tF,hF⟩ := T.mFG; have hsz : sizeLine = 16777216 := sizeLine_eq
    have hbl : (za5 t).length <= 10000 := by
      unfold za5
      split
      . exact Nat.le_trans (Txt.slice_le t _ _) hl
      . exact hl
    refine ⟨_,(zad (zao (i := 1) sc_is_written_number.nd rfl (by first | exact .inl rfl | exact .inr rfl) (zgd (zdt (zaQ (zfa PySem.F.plainAttrs_str PySem.F.slot_str_startswith PySem.F.type_str_startswith zd5 (pv 0) (zaa zah zac))) (za0 ziU (pv 0) (zbb zae) zbx) (pv 0))))
    (zag (zaq (zct (zav g_has_only za8 hr rfl (zaa (pv 1) (zaa (zbj (v := .str figures) rfl hF ⟨_,rfl⟩) zac))) (zbO (ziy (zbc zc6 (zat zho (pv 1) zae (fun _ _ => rfl)) zah (zaE _)) (zbO (zbc zfr (pv 0) zah (zaE _))))))))),?_⟩
    have fin : ∀ (c : Nat) (r : List Nat),zaz (za5 t) figures = true -> (za5 t).cps.toList = c :: r -> zbP t = (!(c == 48) || t == ("0" : Str)) := fun c r h2 h3 => by
      unfold zbP; rw [h2,h3,Bool.true_and]
      rfl
    have zero : ∀ c : Nat,(V.str ⟨#[c]⟩ = V.str "0") ↔ c = 48 := fun c => by
      constructor
      . intro h; have h2 : (⟨#[c]⟩ : Str) = "0" := by injection h
        have h3 := congrArg (fun x : Str => x.cps.toList) h2; have h4 : ([c] : List Nat) = [48] := h3.trans (by decide)
        exact (List.cons.inj h4).1
      . intro h; rw [h]; rfl
    refine ⟨fun v H' => v = .str (za5 t) /\ H' = H,?_,?_⟩
    . refine ⟨_,rfl,rfl,t,"-",rfl,rfl,_,rfl,?_⟩
      by_cases hm : Txt.startswith t "-" = true
      . exact zdh hm ⟨_,rfl,_,rfl,t,rfl,by omega,by unfold za5; rw [if_pos hm],rfl⟩
      . exact zcU hm ⟨_,rfl,by unfold za5; rw [if_neg hm],rfl⟩
    rintro v H' ⟨rfl,rfl⟩; refine ⟨_,rfl,za5 t,figures,rfl,hbl,fun H1 s1 => ⟨_,rfl,?_⟩⟩; have hq1 := hq H1 s1
    cases ho : zaz (za5 t) figures with
    | false =>
      have e : zbP t = false := by unfold zbP; rw [ho]; rfl
      rw [e] at hq1; exact zbI hq1
    | true =>
      refine zdX ?_
      cases hc : (za5 t).cps.toList with
      | nil => exact absurd hc (only_iff.mp ho).1
      | cons c r =>
        rw [fin c r ho hc] at hq1; refine ⟨_,rfl,za5 t,0,c,rfl,rfl,(by omega),(by rw [hc]; exact at0),rfl,_,rfl,?_⟩
        by_cases h48 : c = 48
        . refine zcU (by rw [Bool.not_eq_true',decide_eq_false_iff_not,zero]; simp [h48]) ⟨_,rfl,rfl,?_⟩
          have e : (!(c == 48) || t == ("0" : Str)) = decide (V.str t = V.str "0") := by
            rw [h48,Bool.eq_iff_iff]; simp
          rw [e] at hq1; exact hq1
        . refine zdh (by rw [Bool.not_eq_true',decide_eq_false_iff_not,zero]; exact h48) ?_
          have e : (!(c == 48) || t == ("0" : Str)) = true := by simp [h48]
          rw [e] at hq1; exact hq1
theorem zdO (F : Fun K "read_number" "read_number" zbC f fd) (B : Bl mg) (T : Tp P w K mg st pt nl oe n th b) (g_is_written_number : FnX P w K mg base "is_written_number" 2 zf2) : FnOk P w K mg base (CX1 P w) 3 f fd ["text"] (zge nl) := by
  refine F.okX zdv (fun vs H Q E h => ?_) (fun cdv A outer s H vs Q E hr h => ?_)
  . obtain ⟨t,rfl,_⟩ := h; rfl
  . obtain ⟨t,rfl,hl,hrp,hq⟩ := h; have k_NoLine := T.kL; have hsz : sizeLine = 16777216 := sizeLine_eq
    refine ⟨_,(zad (zaY (zaW (zaQ (zav g_is_written_number (zc3 own_cx) hr rfl (zaa (pv 0) zac))))
    (zag (zcH k_NoLine zcb rfl rfl (zaa (zb8 (.cons (zdy (pv 0)) (.cons zah .nil))) zac) rfl)) zaB)
    (zag (zaq (zaD zd8 rfl B.int_ PyProof.Rows.boot_int (zaa (pv 0) zac))))),?_⟩
    refine ⟨_,rfl,t,rfl,by omega,fun H1 s1 => ⟨_,rfl,?_⟩⟩
    obtain ⟨q1,q2⟩ := hq H1 s1
    cases ho : zbP t with
    | false =>
      have hn : zam t = none := by unfold zam; rw [ho]; rfl
      have hl2 := hrp hn; have z1 : (Str.empty ++ reprText t).length <= 100000 := by rw [Str.empty_append]; exact hl2
      have z2 : (Str.empty ++ reprText t ++ (" is no number" : Str)).length <= 100013 := by
        rw [Str.empty_append,Str.length_append]; have : (" is no number" : Str).length = 13 := by rfl
        omega
      exact zdX ⟨_,rfl,t,rfl,by omega,_,rfl,Nat.le_trans z1 (by omega),_,rfl,Nat.le_trans z2 (by omega),Nat.le_trans z2 (by omega),nlb rfl,q2 hn⟩
    | true =>
      obtain ⟨m,hm⟩ := zhe ho hl; have hn : zam t = some m := by unfold zam; rw [ho]; exact hm
      exact zbI ⟨_,rfl,t,m,rfl,hm,hl,q1 m hn⟩
theorem zdK (F : Fun K "read_answer" "read_answer" zbA f fd) (B : Bl mg) (g_read_number : FnX P w K mg base "read_number" 3 (zge nl)) : FnOk P w K mg base (CX1 P w) 4 f fd ["text"] (ziF nl) := by
  refine F.okX zdN (fun vs H Q E h => ?_) (fun cdv A outer s H vs Q E hr h => ?_)
  . obtain ⟨t,rfl,_⟩ := h; rfl
  . obtain ⟨t,rfl,hl,hrp,hq⟩ := h; refine ⟨_,(zag (zaq (zdt (zaK zfr (pv 0) zah (zaE _)) zcs (zav g_read_number (zc3 own_cx) hr rfl (zaa (pv 0) zac))))),?_⟩; refine ⟨_,rfl,rfl,_,rfl,?_⟩
    by_cases he : t = "none"
    . have e : zaT t = some none := by unfold zaT; rw [if_pos (by rw [he]; decide)]
      exact zdh (by simpa using he) ((hq H (Same.refl H)).1 none e)
    . have e : zaT t = (zam t).map some := by unfold zaT; rw [if_neg (by simpa using he)]
      refine zcU (by simpa using he) ⟨_,rfl,t,rfl,hl,fun hm => hrp (by rw [e,hm]; rfl),fun H1 s1 => ⟨fun m hm => ?_,fun hm => ?_⟩⟩
      . exact (hq H1 s1).1 (some m) (by rw [e,hm]; rfl)
      . exact (hq H1 s1).2 (by rw [e,hm]; rfl)
theorem zg1 {ps : List Str} {i : Nat} (h : i < ps.length) : atI (ps.map V.str) (i : Int) = some (.str (ps.getD i "")) := by
  refine zbn ?_; rw [List.getElem?_map,List.getElem?_eq_getElem h,List.getD_eq_getElem?_getD,List.getElem?_eq_getElem h]
  rfl
theorem zg2 {ps : List Str} {k : Nat} (h1 : 1 <= k) (h2 : k <= ps.length) : atI (ps.map V.str) (-(k : Int)) = some (.str (ps.getD (ps.length - k) "")) := by
  have hl : (ps.map V.str).length = ps.length := List.length_map ..
  have e : ixN (ps.map V.str).length (-(k : Int)) = some (ps.length - k) := by
    unfold ixN; rw [hl,if_neg (by omega),if_pos (by omega)]
    congr 1; omega
  unfold atI; rw [e]; show (ps.map V.str)[ps.length - k]? = _; have h : ps.length - k < ps.length := by omega
  rw [List.getElem?_map,List.getElem?_eq_getElem h,List.getD_eq_getElem?_getD,List.getElem?_eq_getElem h]
  rfl
theorem zf6 (a b : V) (r : List V) : zbM (a :: b :: r) (some 2) none = r := by
  unfold zbM; have e1 : HT.sIx (a :: b :: r).length 0 (some 2) = 2 := (HT.sIx_nat _ 0 2).trans (by simp)
  have e2 : HT.sIx (a :: b :: r).length (a :: b :: r).length none = r.length + 2 := rfl; rw [e1,e2]; simp
theorem zhP {ps : List Str} (h : 6 <= ps.length) : zbM (ps.map V.str) (some 2) (some (-2)) = (zbd ps).map V.str := by
  unfold zbM zbd; have hl : (ps.map V.str).length = ps.length := List.length_map ..; have e1 : HT.sIx (ps.map V.str).length 0 (some 2) = 2 := (HT.sIx_nat _ 0 2).trans (by rw [hl]; omega)
  have e2 : HT.sIx (ps.map V.str).length (ps.map V.str).length (some (-2)) = ps.length - 2 := by
    show (if (-2 : Int) < 0 then ((-2 : Int) + ((ps.map V.str).length : Int)).toNat else min ((-2 : Int)).toNat (ps.map V.str).length) = _; rw [if_pos (by decide),hl]; omega
  rw [e1,e2,List.map_take,List.map_drop]; congr 1
theorem zec : ∀ {ns : List Str} {i : Nat} {t : Str} {ms : List Int} {m : Int},ns[i]? = some t -> zaC (ns.take i) = some ms -> zam t = some m -> zaC (ns.take (i + 1)) = some (ms ++ [m])
  | [],i,_,_,_,h,_,_ => by simp at h
  | x :: r,0,t,ms,m,h,h1,h2 => by
    have e : x = t := by simpa using h
    subst e; have : ms = [] := by simpa [zaC] using h1.symm
    subst this; show (zam x).bind _ = _; rw [h2]
    rfl
  | x :: r,i + 1,t,ms,m,h,h1,h2 => by
    have h1' : ((zam x).bind fun n => (zaC (r.take i)).map fun ms => n :: ms) = some ms := h1; show ((zam x).bind fun n => (zaC (r.take (i + 1))).map fun ms => n :: ms) = _
    cases hx : zam x with
    | none => rw [hx] at h1'; cases h1'
    | some k =>
      rw [hx] at h1'; simp only [Option.bind_some] at h1' ⊢
      cases hr : zaC (r.take i) with
      | none => rw [hr] at h1'; cases h1'
      | some ms' =>
        rw [hr] at h1'; rw [zec (by simpa using h) hr h2]
        have : k :: ms' = ms := by simpa using h1'
        rw [<- this]
        rfl
theorem zeo : ∀ {ns : List Str} {i : Nat} {t : Str},ns[i]? = some t -> zam t = none -> zaC ns = none
  | [],i,_,h,_ => by simp at h
  | x :: r,0,t,h,h2 => by
    have e : x = t := by simpa using h
    subst e; show (zam x).bind _ = _; rw [h2]
    rfl
  | x :: r,i + 1,t,h,h2 => by
    show ((zam x).bind fun n => (zaC r).map fun ms => n :: ms) = _; rw [zeo (by simpa using h) h2]
    cases zam x <;> rfl
theorem zgm {α : Type} : ∀ {l : List α},2 <= l.length -> ∃ x y r,l = x :: y :: r
  | [],h => absurd h (by simp)
  | [_],h => absurd h (by simp)
  | x :: y :: r,_ => ⟨x,y,r,rfl⟩
theorem Tail.mk {t : Str} {ms : List Int} (h : ms.length <= 2) : Tail (.str t :: ms.map V.int) := by
  refine ⟨by rw [List.length_cons,List.length_map]; omega,fun y hy => ⟨t,(Option.some.inj hy).symm⟩,fun y hy => ?_⟩
  cases ms with
  | nil => cases hy
  | cons m r => exact ⟨m,(Option.some.inj hy).symm⟩
theorem zeD (F : Fun K "read_deed" "read_deed" zbt f fd) (B : Bl mg) (T : Tp P w K mg st pt nl oe n th b) (g_is_written_thing : FnX P w K mg base "is_written_thing" 2 zeU) (g_read_number : FnX P w K mg base "read_number" 3 (zge nl)) (g_some_kind_can_do : FnX P w K mg base "some_kind_can_do" 4 (zfI K)) :
    FnOk P w K mg base (CX1 P w) 5 f fd ["parts"] (zhy K nl) := by
  refine F.okX sc_read_deed (fun vs H Q E h => ?_) (fun cdv A outer s H vs Q E hr h => ?_)
  . obtain ⟨l,ps,rfl,_⟩ := h; rfl
  . obtain ⟨l,ps,rfl,hS,h2,h4,hlen,hsh,hq⟩ := h; have k_NoLine := T.kL; have hsz : sizeLine = 16777216 := sizeLine_eq; obtain ⟨wd,t,ns,rfl⟩ := zgm h2; have hS : SqL K H l (.str wd :: .str t :: ns.map V.str) := hS; have hnl : ns.length <= 2 := by simp at h4; omega
    refine ⟨_,(zad (zao (i := 1) sc_read_deed.nd rfl (by first | exact .inl rfl | exact .inr rfl) (zaj zfW (zcO (zaa (zat zaA (pv 0) zae (fun _ _ => rfl)) (zaa (zat zaA (pv 0) zae (fun _ _ => rfl)) zac))) (zaD zd0 rfl B.tuple_ PyProof.Rows.boot_tuple (zaa (zhd (zc2 (sc := zaf zbt) (N0 := zcJ) (ns := []) (idx := []) (by decide +kernel)) rfl own_cx.wish zcb (zcd (za0 zcL (pv 0) (zbb zae) zbx)) (fun _ _ _ _ _ hpn => (zav g_read_number (zfY hpn) hr rfl (zaa (pv 0) zac)))) zac))))
    (zad (zaY (PW.pt (zc5 (zaW (zaQ (zav g_is_written_thing (zc3 own_cx) hr rfl (zaa (zat zaA (pv 0) zae (fun _ _ => rfl)) zac)))) (zcx (zaW (zaQ (zav g_some_kind_can_do (zc3 own_cx) hr rfl (zaa (pv 1) zac)))))))
    (zag (zcH k_NoLine zcb rfl rfl (zaa (zb8 (.cons (zgX hr (pv 0)) (.cons zah .nil))) zac) rfl)) zaB)
    (zag (zaq (pv 1))))),?_⟩
    refine ⟨_,rfl,l,_,_,_,rfl,rfl,hS,at0,_,rfl,l,_,_,_,rfl,rfl,hS,at1,nlb rfl,fun p hp => ?_⟩; have s1 : Same H (upd H p (.tup [.str wd,.str t])) := Same.upd hp; have p1 : (upd H p (.tup [.str wd,.str t])) p = some (.tup [.str wd,.str t]) := zab; generalize upd H p (.tup [.str wd,.str t]) = H1 at s1 p1 ⊢; refine ⟨_,rfl,_,rfl,l,_,rfl,s1.seq hS,fun q hq1 => ?_⟩; rw [zf6]; have s2 : Same H1 (upd H1 q (.lst (ns.map V.str))) := Same.upd hq1; have q2 : (upd H1 q (.lst (ns.map V.str))) q = some (.lst (ns.map V.str)) := zab; generalize upd H1 q (.lst (ns.map V.str)) = H2 at s2 q2 ⊢; have s02 := s1.trans s2; refine ⟨q,rfl,⟨_,SqL.of q2⟩,zcF (xs := ns.map V.str) (fun D i ys H' => Same H2 H' /\ H' D = some (.lst ys) /\ ∃ ms : List Int,zaC (ns.take i) = some ms /\ ys = ms.map V.int /\ ms.length = i) (by rw [List.length_map]; omega) (fun D hD => ⟨Same.upd hD,zab,[],rfl,rfl,rfl⟩) (fun D i ys H' h => ⟨h.2.1,?_,SqL.of (h.1 _ _ q2)⟩) ?_ ?_⟩
    . obtain ⟨_,_,ms,_,rfl,h3⟩ := h; rw [List.length_map,h3]
    . rintro D i x ys H' R hD hx ⟨s3,hDy,ms,hms,rfl,hml⟩ hR; rw [List.getElem?_map] at hx; obtain ⟨u,hu,rfl⟩ := Option.map_eq_some_iff.mp hx; have hmem : u ∈ wd :: t :: ns := List.mem_cons_of_mem _ (List.mem_cons_of_mem _ (List.mem_of_getElem? hu))
      have bad : zam u = none -> za2 (wd :: t :: ns) = none := fun hn => by
        show (zaC ns).bind _ = none; rw [zeo hu hn]
        rfl
      refine ⟨_,rfl,u,rfl,hlen u hmem,fun hn => (hsh (bad hn)).1 u hmem,fun H4 s4 => ⟨fun m hm => ?_,fun hn => ?_⟩⟩
      . refine hR _ _ (s4 _ _ hDy) ⟨Same.updN (s3.trans s4) hD,zab,ms ++ [m],zec hu hms hm,by rw [List.map_append]; rfl,by rw [List.length_append,hml]; rfl⟩
      . exact (hq H4 (s02.trans (s3.trans s4))).2 (bad hn)
    . rintro D ys H3 hD ⟨s3,hDy,ms,hms,rfl,hml⟩; rw [List.length_map,List.take_length] at hms; rw [List.length_map] at hml; refine ⟨D,_,rfl,.inl ⟨SqL.of hDy,fun q3 hq3 => ?_⟩⟩; have s4 : Same H3 (upd H3 q3 (.tup (ms.map V.int))) := Same.upd hq3; have p4 : (upd H3 q3 (.tup (ms.map V.int))) q3 = some (.tup (ms.map V.int)) := zab; generalize upd H3 q3 (.tup (ms.map V.int)) = H4 at s4 p4 ⊢; have s24 := s2.trans (s3.trans s4); refine ⟨p,q3,_,_,rfl,rfl,s24 _ _ p1,SqT.of p4,by simp,by simp; omega,fun H5 a s5 ha => ?_⟩
      have ha : H5 a = some (.tup (.str wd :: .str t :: ms.map V.int)) := ha; have s05 := s1.trans (s24.trans s5)
      have hrd : za2 (wd :: t :: ns) = if (zaz t letters && zau wd ms.length) = true then some (wd,t,ms) else none := by
        show (zaC ns).bind _ = _; rw [hms]
        rfl
      have hex : (zaz t letters && zau wd ms.length) = false -> ∀ H',Same H H' -> (PyData.list ((wd :: t :: ns).map PyData.str)).shown.length <= 100000 /\ E (.ref nl) none H' := fun hf H' s' => by
        have hn : za2 (wd :: t :: ns) = none := by rw [hrd,hf]; rfl
        exact ⟨(hsh hn).2,(hq H' s').2 hn⟩
      have z2 : ∀ y : Str,y.length <= 100000 -> (Str.empty ++ y).length <= 100000 := fun y hy => by rw [Str.empty_append]; exact hy
      have z3 : ∀ y : Str,y.length <= 100000 -> (Str.empty ++ y ++ (" are no parts of a deed" : Str)).length <= 100023 := fun y hy => by
        rw [Str.empty_append,Str.length_append]; have : (" are no parts of a deed" : Str).length = 23 := by rfl
        omega
      refine ⟨_,rfl,l,_,_,_,rfl,rfl,s05.seq hS,at1,t,rfl,Nat.le_trans (hlen t (by simp)) (by decide),fun H6 s6 => ⟨_,rfl,?_⟩⟩
      cases ho : zaz t letters with
      | false =>
        obtain ⟨hsl,hE⟩ := hex (by rw [ho]; rfl) H6 (s05.trans s6)
        exact zdX (zdX ⟨_,rfl,l,wd :: t :: ns,rfl,(s05.trans s6).seq hS,by simp,by omega,_,rfl,Nat.le_trans (z2 _ hsl) (by omega),_,rfl,Nat.le_trans (z3 _ hsl) (by omega),Nat.le_trans (z3 _ hsl) (by omega),nlb rfl,hE⟩)
      | true =>
        refine zbI ⟨_,rfl,wd,a,.str t :: ms.map V.int,rfl,SqT.of (s6 _ _ ha),Tail.mk (by omega),fun H7 s7 => ⟨_,rfl,?_⟩⟩
        rw [show (V.str t :: ms.map V.int).length = ms.length + 1 by simp,zel]
        have s07 := s05.trans (s6.trans s7)
        cases hk : zau wd ms.length with
        | false =>
          obtain ⟨hsl,hE⟩ := hex (by rw [ho,hk]; rfl) H7 s07
          exact zdX ⟨_,rfl,l,wd :: t :: ns,rfl,s07.seq hS,by simp,by omega,_,rfl,Nat.le_trans (z2 _ hsl) (by omega),_,rfl,Nat.le_trans (z3 _ hsl) (by omega),Nat.le_trans (z3 _ hsl) (by omega),nlb rfl,hE⟩
        | true =>
          refine zbI ⟨_,rfl,?_⟩; exact (hq H7 s07).1 (wd,t,ms) (by rw [hrd,ho,hk]; rfl) a ((s6.trans s7) _ _ ha)
theorem zeZ (F : Fun K "read_line" "read_line" zbX f fd) (B : Bl mg) (T : Tp P w K mg st pt nl oe n th b) (g_read_answer : FnX P w K mg base "read_answer" 4 (ziF nl)) (g_read_deed : FnX P w K mg base "read_deed" 5 (zhy K nl)) (g_read_number : FnX P w K mg base "read_number" 3 (zge nl)) :
    FnOk P w K mg base (CX1 P w) 6 f fd ["line"] (zhB K nl) := by
  refine F.okX sc_read_line (fun vs H Q E h => ?_) (fun cdv A outer s H vs Q E hr h => ?_)
  . obtain ⟨x,rfl,_⟩ := h; rfl
  . obtain ⟨x,rfl,hok,hq⟩ := h; have k_NoLine := T.kL; have hsz : sizeLine = 16777216 := sizeLine_eq
    refine ⟨_,(zad (zao (i := 1) sc_read_line.nd rfl (by first | exact .inl rfl | exact .inr rfl) (zfa PySem.F.plainAttrs_str PySem.F.slot_str_split PySem.F.type_str_split zg3 (pv 0) (zaa zah zac)))
    (zad (zaY (PW.pt (zc5 (zaK ziD (zai zas rfl B.len_ PySem.boot_len (zaa (pv 1) zac)) zae (zaE _)) (zcx (zaK zc6 (zat zaA (pv 1) (zfU zeJ zae) (fun _ _ => rfl)) zah (zaE _)))))
    (zag (zcH k_NoLine zcb rfl rfl (zaa (zb8 (.cons (zdy (pv 0)) (.cons zah .nil))) zac) rfl)) zaB)
    (zad (zao (i := 2) sc_read_line.nd rfl (by first | exact .inl rfl | exact .inr rfl) (zav g_read_number (zc3 own_cx) hr rfl (zaa (zat zaA (pv 1) zae (fun _ _ => rfl)) zac)))
    (zad (zao (i := 3) sc_read_line.nd rfl (by first | exact .inl rfl | exact .inr rfl) (zav g_read_number (zc3 own_cx) hr rfl (zaa (zat zaA (pv 1) zae (fun _ _ => rfl)) zac)))
    (zad (zaY (zaK ziw (pv 2) (pv 3) (zaE _))
    (zag (zcH k_NoLine zcb rfl rfl (zaa (zb8 (.cons (zdy (pv 0)) (.cons zah .nil))) zac) rfl)) zaB)
    (zag (zaq (zcO (zaa (pv 2) (zaa (pv 3) (zaa (zav g_read_deed (zc3 own_cx) hr rfl (zaa (za0 zcL (pv 1) (zbb zae) (zbb (zfU zeJ zae))) zac)) (zaa (zav g_read_answer (zc3 own_cx) hr rfl (zaa (zat zaA (pv 1) (zfU zeJ zae) (fun _ _ => rfl)) zac)) zac)))))))))))),?_⟩
    refine ⟨_,rfl,rfl,x," ",rfl,rfl,rfl,by have := hok.len; omega,fun l hl => ?_⟩
    have hrl : zan x = za9 (Txt.split x " ") := rfl; have hpt := hok.part; have hfw := hok.few; have hsh := hok.short; generalize Txt.split x " " = ps at hrl hpt hfw hsh ⊢; have s1 : Same H (upd H l (.lst (ps.map V.str))) := Same.upd hl; have q1 : (upd H l (.lst (ps.map V.str))) l = some (.lst (ps.map V.str)) := zab; generalize upd H l (.lst (ps.map V.str)) = H1 at s1 q1 ⊢; have hn1 : (ps.map V.str).length = ps.length := List.length_map ..; have z1 : ∀ y : Str,y.length <= 100000 -> (Str.empty ++ y).length <= 100000 := fun y hy => by rw [Str.empty_append]; exact hy
    have z2 : ∀ y : Str,y.length <= 100000 -> (Str.empty ++ y ++ (" has other parts than a call" : Str)).length <= 100028 := fun y hy => by
      rw [Str.empty_append,Str.length_append]; have : (" has other parts than a call" : Str).length = 28 := by rfl
      omega
    have z3 : ∀ y : Str,y.length <= 100000 -> (Str.empty ++ y ++ (" has no end that is greater than its beginning" : Str)).length <= 100046 := fun y hy => by
      rw [Str.empty_append,Str.length_append]; have : (" has no end that is greater than its beginning" : Str).length = 46 := by rfl
      omega
    refine ⟨_,rfl,l,_,rfl,.inl (SqL.of q1),_,_,rfl,rfl,_,rfl,?_⟩
    by_cases h6 : ps.length < 6
    . have hn : zan x = none := by rw [hrl]; unfold za9; rw [if_pos (by simp [h6])]
      have hrx := (hsh hn).1; refine zdh (by rw [hn1]; simp; omega) (zdX ?_)
      exact ⟨_,rfl,x,rfl,by omega,_,rfl,Nat.le_trans (z1 _ hrx) (by omega),_,rfl,Nat.le_trans (z2 _ hrx) (by omega),Nat.le_trans (z2 _ hrx) (by omega),nlb rfl,(hq H1 s1).2 hn⟩
    . refine zcU (by rw [hn1]; simp; omega) ?_
      refine ⟨_,rfl,_,rfl,l,_,_,_,rfl,rfl,SqL.of q1,zg2 (k := 2) (by decide) (by omega),rfl,_,rfl,?_⟩
      by_cases hg : ps.getD (ps.length - 2) "" = "gives"
      case neg =>
        have hn : zan x = none := by rw [hrl]; unfold za9; rw [if_pos (by rw [Bool.or_eq_true,Bool.not_eq_true']; exact .inr (by rw [beq_eq_false_iff_ne]; exact hg))]
        have hrx := (hsh hn).1; refine zdh (by simpa using hg) ?_
        exact ⟨_,rfl,x,rfl,by omega,_,rfl,Nat.le_trans (z1 _ hrx) (by omega),_,rfl,Nat.le_trans (z2 _ hrx) (by omega),Nat.le_trans (z2 _ hrx) (by omega),nlb rfl,(hq H1 s1).2 hn⟩
      refine zcU (by simpa using hg) ?_
      have m0 : ps.getD 0 "" ∈ ps := by rw [List.getD_eq_getElem?_getD,List.getElem?_eq_getElem (show 0 < ps.length by omega)]; exact List.getElem_mem _
      have m1 : ps.getD 1 "" ∈ ps := by rw [List.getD_eq_getElem?_getD,List.getElem?_eq_getElem (show 1 < ps.length by omega)]; exact List.getElem_mem _
      have m9 : ps.getD (ps.length - 1) "" ∈ ps := by rw [List.getD_eq_getElem?_getD,List.getElem?_eq_getElem (show ps.length - 1 < ps.length by omega)]; exact List.getElem_mem _
      have hr0 : zan x = (zam (ps.getD 0 "")).bind fun b => (zam (ps.getD 1 "")).bind fun e => if e <= b then none else (za2 (zbd ps)).bind fun d => (zaT (ps.getD (ps.length - 1) "")).map fun a => ⟨b,e,d.1,d.2.1,d.2.2,a⟩ := by
        rw [hrl]; unfold za9; rw [if_neg (by rw [hg]; simp; omega)]
      have n0 : zam (ps.getD 0 "") = none -> zan x = none := fun h => by rw [hr0,h]; rfl
      refine ⟨_,rfl,l,_,_,_,rfl,rfl,SqL.of q1,zg1 (i := 0) (by omega),_,rfl,hpt _ m0,fun h => (hsh (n0 h)).2.1 _ m0,fun H2 s2 => ⟨fun b' hb => ?_,fun h => (hq H2 (s1.trans s2)).2 (n0 h)⟩⟩
      rw [hb] at hr0; simp only [Option.bind_some] at hr0; have n1 : zam (ps.getD 1 "") = none -> zan x = none := fun h => by rw [hr0,h]; rfl
      refine ⟨_,rfl,l,_,_,_,rfl,rfl,SqL.of (s2 _ _ q1),zg1 (i := 1) (by omega),_,rfl,hpt _ m1,fun h => (hsh (n1 h)).2.1 _ m1,fun H3 s3 => ⟨fun e' he => ?_,fun h => (hq H3 (s1.trans (s2.trans s3))).2 (n1 h)⟩⟩
      rw [he] at hr0; simp only [Option.bind_some] at hr0; have s23 := s2.trans s3; refine ⟨_,rfl,_,rfl,_,_,rfl,rfl,_,rfl,zjY (fun hbe => ?_) fun hbe => ?_⟩
      . have hn : zan x = none := by rw [hr0,if_pos hbe]
        have hrx := (hsh hn).1; exact ⟨_,rfl,x,rfl,by omega,_,rfl,Nat.le_trans (z1 _ hrx) (by omega),_,rfl,Nat.le_trans (z3 _ hrx) (by omega),Nat.le_trans (z3 _ hrx) (by omega),nlb rfl,(hq H3 (s1.trans s23)).2 hn⟩
      . rw [if_neg hbe] at hr0; have nd : za2 (zbd ps) = none -> zan x = none := fun h => by rw [hr0,h]; rfl
        have hmid : ∀ p ∈ zbd ps,p ∈ ps := fun p hp => List.mem_of_mem_drop (List.mem_of_mem_take hp); have hml : (zbd ps).length = ps.length - 4 := by unfold zbd; rw [List.length_take,List.length_drop]; omega
        refine ⟨_,rfl,_,rfl,_,rfl,_,rfl,_,rfl,_,rfl,l,_,rfl,SqL.of (s23 _ _ q1),fun q hq3 => ?_⟩; rw [zhP (by omega)]
        have s4 : Same H3 (upd H3 q (.lst ((zbd ps).map V.str))) := Same.upd hq3; have q4 : (upd H3 q (.lst ((zbd ps).map V.str))) q = some (.lst ((zbd ps).map V.str)) := zab; generalize upd H3 q (.lst ((zbd ps).map V.str)) = H4 at s4 q4 ⊢; have s14 := s23.trans s4; refine ⟨q,zbd ps,rfl,SqL.of q4,by omega,by omega,fun p hp => hpt p (hmid p hp),fun h => ⟨fun p hp => (hsh (nd h)).2.1 p (hmid p hp),(hsh (nd h)).2.2⟩,fun H5 s5 => ⟨fun d hd a ha => ?_,fun h => (hq H5 (s1.trans (s14.trans s5))).2 (nd h)⟩⟩
        rw [hd] at hr0; simp only [Option.bind_some] at hr0; have na : zaT (ps.getD (ps.length - 1) "") = none -> zan x = none := fun h => by rw [hr0,h]; rfl
        refine ⟨_,rfl,_,rfl,l,_,_,_,rfl,rfl,SqL.of ((s14.trans s5) _ _ q1),zg2 (k := 1) (by decide) (by omega),_,rfl,hpt _ m9,fun h => (hsh (na h)).2.1 _ m9,fun H6 s6 => ⟨fun a' ha' => ?_,fun h => (hq H6 (s1.trans ((s14.trans s5).trans s6))).2 (na h)⟩⟩
        refine ⟨nlb rfl,fun p hp => ?_⟩; have s7 := Same.upd (o := .tup [.int b',.int e',.ref a,anV a']) hp; exact (hq _ ((s1.trans ((s14.trans s5).trans s6)).trans s7)).1 ⟨b',e',d.1,d.2.1,d.2.2,a'⟩ (by rw [hr0,ha']; rfl) p ⟨a,zab,(s6.trans s7) _ _ ha⟩
theorem IsCall.updL {H : Hp} {a g : Addr} {zs : List V} {o : HO} {c : Call} (hg : H g = some (.lst zs)) (h : IsCall K H a c) : IsCall K (upd H g o) a c := let ⟨d,h1,h2⟩ := h; ⟨d,by rw [zax (fun e => by rw [e,hg] at h1; cases h1)]; exact h1,by rw [zax (fun e => by rw [e,hg] at h2; cases h2)]; exact h2⟩
theorem CallsAt.snoc {H : Hp} {as : List Addr} {cs : List Call} {a : Addr} {c : Call} (h : CallsAt K H as cs) (hc : IsCall K H a c) : CallsAt K H (as ++ [a]) (cs ++ [c]) := by
  refine ⟨by rw [List.length_append,List.length_append,h.1]; rfl,fun i x y h1 h2 => ?_⟩
  by_cases hi : i < as.length
  . rw [List.getElem?_append_left hi] at h1; rw [List.getElem?_append_left (by rw [<- h.1]; exact hi)] at h2
    exact h.2 i x y h1 h2
  . have hl := (List.getElem?_eq_some_iff.mp h1).1; rw [List.length_append] at hl; have hi2 : i = as.length := by simp at hl; omega
    subst hi2; rw [List.getElem?_append_right (Nat.le_refl _),Nat.sub_self] at h1; rw [h.1,List.getElem?_append_right (Nat.le_refl _),Nat.sub_self] at h2
    cases (Option.some.inj h1)
    cases (Option.some.inj h2)
    exact hc
theorem CallsAt.updL {H : Hp} {as : List Addr} {cs : List Call} {g : Addr} {zs : List V} {o : HO} (hg : H g = some (.lst zs)) (h : CallsAt K H as cs) : CallsAt K (upd H g o) as cs := ⟨h.1,fun i a c h1 h2 => (h.2 i a c h1 h2).updL hg⟩
theorem zh1 (F : Fun K "read" "read" zeB f fd) (B : Bl mg) (g_read_line : FnX P w K mg base "read_line" 6 (zhB K nl)) : FnOk P w K mg base (CX1 P w) 7 f fd ["lines"] (zdI K nl) := by
  refine F.okX zhQ (fun vs H Q E h => ?_) (fun cdv A outer s H vs Q E hr h => ?_)
  . obtain ⟨l,xs,rfl,_⟩ := h; rfl
  . obtain ⟨l,xs,rfl,hS,hn,hok,hq⟩ := h; have hsz : sizeLine = 16777216 := sizeLine_eq; refine ⟨_,(zag (zaq (zhd (zc2 (sc := zaf zeB) (N0 := zf0) (ns := []) (idx := []) (by decide +kernel)) rfl own_cx.wish zcb (zcd (pv 0)) (fun _ _ _ _ _ hpn => (zav g_read_line (zfY hpn) hr rfl (zaa (pv 0) zac)))))),?_⟩
    refine ⟨_,rfl,l,rfl,⟨_,hS⟩,zcF (xs := xs.map V.str) (fun D i ys H' => Same H H' /\ H' D = some (.lst ys) /\ ∃ (as : List Addr) (cs : List Call),ys = as.map V.ref /\ as.length = i /\ (xs.take i).map zan = cs.map some /\ CallsAt K H' as cs) (by rw [List.length_map]; omega)
      (fun D hD => ⟨Same.upd hD,zab,[],[],rfl,rfl,rfl,rfl,fun i a c h1 _ => by simp at h1⟩) (fun D i ys H' h => ⟨h.2.1,?_,h.1.seq hS⟩) ?_ ?_⟩
    . obtain ⟨_,_,as,cs,rfl,h3,_⟩ := h; rw [List.length_map,h3]
    . rintro D i v ys H' R hD hx ⟨s1,hDy,as,cs,rfl,hal,hcs,hC⟩ hR; rw [List.getElem?_map] at hx; obtain ⟨x,hx',rfl⟩ := Option.map_eq_some_iff.mp hx; clear hx; have hx := hx'; have hmem := List.mem_of_getElem? hx; refine ⟨_,rfl,x,rfl,hok x hmem,fun H2 s2 => ⟨fun c hc a ha => ?_,fun hno => ?_⟩⟩
      . refine hR _ _ (s2 _ _ hDy) ⟨Same.updN (s1.trans s2) hD,zab,as ++ [a],cs ++ [c],by rw [List.map_append]; rfl,by rw [List.length_append,hal]; rfl,?_,((hC.keep s2).snoc ha).updL (s2 _ _ hDy)⟩
        rw [List.take_add_one,hx,List.map_append,List.map_append,hcs,Option.toList_some,List.map_cons,List.map_nil,hc]
        rfl
      . rcases hq with ⟨cs',h1,_⟩ | ⟨_,h2⟩
        . exfalso; have : zan x ∈ xs.map zan := List.mem_map_of_mem hmem; rw [h1,hno] at this; obtain ⟨_,_,z⟩ := List.mem_map.mp this; cases z
        . exact h2 H2 (s1.trans s2)
    . rintro D ys H' hD ⟨s1,hDy,as,cs,rfl,hal,hcs,hC⟩; rw [List.length_map,List.take_length] at hcs
      rcases hq with ⟨cs',h1,h2⟩ | ⟨⟨x,hx,hno⟩,_⟩
      . have e : cs' = cs := by
          rw [h1] at hcs; exact (List.map_inj_right (fun _ _ h => Option.some.inj h)).mp hcs
        subst e; exact h2 H' D as s1 hDy hC
      . exfalso; have : zan x ∈ xs.map zan := List.mem_map_of_mem hx; rw [hcs,hno] at this; obtain ⟨_,_,z⟩ := List.mem_map.mp this; cases z
def zfZ (K : Fg) : Sp := fun vs H Q _ => ∃ (a : Addr) (c : Call),vs = [.ref a] /\ IsCall K H a c /\ c.b < c.e /\ Q .non H
def zc4 (K : Fg) : Sp := fun vs H Q _ => ∃ (a : Addr) (c : Call),vs = [.ref a] /\ IsCall K H a c /\ c.Ok /\ ∀ H',Same H H' -> Q (.str c.line) H'
def zeO (K : Fg) : Sp := fun vs H Q _ => ∃ (l : Addr) (as : List Addr) (cs : List Call),vs = [.ref l] /\ SqL K H l (as.map V.ref) /\ CallsAt K H as cs /\ as.length <= 1000 /\ (∀ c ∈ cs,c.Ok) /\ ∀ H' l',Same H H' -> H' l' = some (.lst (cs.map fun c => V.str c.line)) -> Q (.ref l') H'
theorem zdQ (F : Fun K "check_times" "check_times" zbB f fd) (B : Bl mg) : FnOk P w K mg base CX0 1 f fd ["call"] (zfZ K) := by
  refine F.ok zdE (fun vs H Q E h => ?_) (fun cdv A outer s H vs Q E hr h => ?_)
  . obtain ⟨a,c,rfl,_⟩ := h; rfl
  . obtain ⟨a,c,rfl,⟨d,hS',_⟩,hlt,hq⟩ := h; have hS : SqT K H a _ := SqT.of hS'
    refine ⟨_,(zag (zaY (zaK ziw (zat zaJ (pv 0) zae (fun _ _ => rfl)) (zat zaJ (pv 0) zae (fun _ _ => rfl)) (zaE _))
    (zag zdD) zaB)),?_⟩
    exact ⟨_,rfl,a,_,0,_,rfl,rfl,hS,at0,_,rfl,a,_,1,_,rfl,rfl,hS,at1,_,_,rfl,rfl,_,rfl,zhI (by omega) hq⟩
def zdP : V -> V
  | .int i => .str (zak i)
  | v => v
theorem zgg (c : Call) : Txt.join " " c.parts = c.line := StrLaws.glued_eq_join _ _
theorem zbF {c : Call} (h : c.Ok) : ∀ p ∈ c.parts,p.length <= 93 := by
  intro p hp; unfold Call.parts at hp; simp only [List.mem_cons,List.mem_append,List.not_mem_nil,or_false] at hp
  rcases hp with rfl | rfl | rfl | rfl | hp | rfl | rfl
  . exact zby h.nb
  . exact zby h.ne
  . have := zb9 h.kd; simp only [List.mem_cons,List.not_mem_nil,or_false] at this
    rcases this with e | e | e | e | e <;> rw [e] <;> decide
  . exact Nat.le_trans h.tl (by decide)
  . obtain ⟨v,hv,rfl⟩ := List.mem_map.mp hp; exact zby (h.nv v hv)
  . decide
  . cases ha : c.an with
    | none => decide
    | some m => exact zby (h.na m ha)
theorem zb5 {wd : Str} {k : Nat} (h : zau wd k = true) : k <= 1 := by
  unfold zau at h; simp only [Bool.or_eq_true,Bool.and_eq_true,beq_iff_eq] at h; omega
theorem zb4 {c : Call} (h : c.Ok) : c.parts.length <= 7 := by
  have := zb5 h.kd; unfold Call.parts; simp; omega
theorem zhH {c : Call} (h : c.Ok) : c.line.length <= 700 := by
  have h1 := zds " " 93 (by decide) c.parts (zbF h)
  have h2 := zb4 h; have h3 : c.parts.length * (93 + 1) <= 7 * 94 := Nat.mul_le_mul_right 94 h2; show (Str.join " " c.parts).length <= 700; omega
theorem ze1 (k : Nat) : ∀ (l : List Str) (acc : Nat),(∀ p ∈ l,p.length <= k) -> l.foldl (fun a p => a + p.length + (" " : Str).length) acc <= acc + l.length * (k + 1)
  | [],acc,_ => by simp
  | p :: r,acc,h => by
    have h1 := h p (by simp)
    have h2 := ze1 k r (acc + p.length + (" " : Str).length) fun x hx => h x (List.mem_cons_of_mem _ hx); have e : (" " : Str).length = 1 := by decide
    rw [List.foldl_cons]; refine Nat.le_trans h2 ?_; rw [List.length_cons,Nat.succ_mul,e]; omega
theorem zit {c : Call} (h : c.Ok) : JoinOk " " c.parts = true := by
  have h1 := ze1 93 c.parts 0 (zbF h); have h2 := zb4 h; have h3 : c.parts.length * (93 + 1) <= 7 * 94 := Nat.mul_le_mul_right 94 h2; have hsz : sizeLine = 16777216 := sizeLine_eq; unfold JoinOk; rw [Bool.not_eq_true',List.foldl_toArray]
  have : ¬ Builtin.Str.tooLong (c.parts.foldl (fun a p => a + p.length + (" " : Str).length) 0) = true := by
    unfold Builtin.Str.tooLong; simp only [decide_eq_true_eq]; omega
  simpa using this
theorem zd6 (F : Fun K "shown_call" "shown_call" zbm f fd) (B : Bl mg) (g_check_times : FnX P w K mg base "check_times" 1 (zfZ K)) (g_is_written_thing : FnX P w K mg base "is_written_thing" 2 zeU) (g_some_kind_can_do : FnX P w K mg base "some_kind_can_do" 4 (zfI K)) :
    FnOk P w K mg base CX0 5 f fd ["call"] (zc4 K) := by
  refine F.ok sc_shown_call (fun vs H Q E h => ?_) (fun cdv A outer s H vs Q E hr h => ?_)
  . obtain ⟨a,c,rfl,_⟩ := h; rfl
  . obtain ⟨a,c,rfl,hC,hok,hq⟩ := h; have hsz : sizeLine = 16777216 := sizeLine_eq; obtain ⟨d,hS',hD'⟩ := id hC; have hS : SqT K H a _ := SqT.of hS'; have hD : SqT K H d _ := SqT.of hD'; have hkd := hok.kd; have hfew := zb5 hkd
    refine ⟨_,(zad (zdp (zav g_check_times za8 hr rfl (zaa (pv 0) zac)))
    (zad (zao (i := 1) sc_shown_call.nd rfl (by first | exact .inl rfl | exact .inr rfl) (zat zaJ (pv 0) zae (fun _ _ => rfl)))
    (zad (zaY (zaW (zaQ (zav g_some_kind_can_do za8 hr rfl (zaa (pv 1) zac))))
    (zag zdD) zaB)
    (zad (zao (i := 2) sc_shown_call.nd rfl (by first | exact .inl rfl | exact .inr rfl) (zat zaJ (pv 1) zae (fun _ _ => rfl)))
    (zad (zaY (zaW (zaQ (zav g_is_written_thing za8 hr rfl (zaa (pv 2) zac))))
    (zag zdD) zaB)
    (zad (zao (i := 3) sc_shown_call.nd rfl (by first | exact .inl rfl | exact .inr rfl) (zgd (zdt (zaK zfv (zat zaJ (pv 0) zae (fun _ _ => rfl)) zcs (zaE _)) zah (zaD call_str_int rfl B.str_ PyProof.Rows.boot_str (zaa (zat zaJ (pv 0) zae (fun _ _ => rfl)) zac)))))
    (zag (zaq (zfa PySem.F.plainAttrs_str PySem.F.slot_str_join PySem.F.type_str_join zhN zah (zaa (zaj zbf (zfR (zc2 (sc := zaf zbm) (N0 := zcl) (ns := []) (idx := []) (by decide +kernel)) rfl (zhx (zaj zfW (za0 zeV (pv 0) zbx (zbb zae)) (pv 1))) (fun _ _ _ _ => zb6) (fun _ _ _ _ => (zaD zei rfl B.str_ PyProof.Rows.boot_str (zaa (pv 0) zac)))) (zaO (zaa zah (zaa (pv 3) zac)))) zac)))))))))),?_⟩
    refine ⟨_,rfl,a,c,rfl,hC,hok.lt,?_⟩; refine ⟨_,rfl,a,_,2,_,rfl,rfl,hS,at2,?_⟩; refine ⟨_,rfl,c.w,d,.str c.t :: c.vs.map V.int,rfl,hD,Tail.mk (by omega),fun H1 s1 => ⟨_,rfl,?_⟩⟩
    rw [show (V.str c.t :: c.vs.map V.int).length = c.vs.length + 1 by simp,zel,hkd]
    refine zbI ?_; refine ⟨_,rfl,d,_,1,_,rfl,rfl,Same.tup s1 hD,at1,?_⟩; refine ⟨_,rfl,c.t,rfl,Nat.le_trans hok.tl (by decide),fun H2 s2 => ⟨_,rfl,?_⟩⟩
    rw [hok.th]; refine zbI ?_; have s02 := s1.trans s2; have hS2 := Same.tup s02 hS; have hD2 := Same.tup s02 hD; refine ⟨fun v H' => v = .str (zbS c.an) /\ H2 = H',?_,?_⟩
    . refine ⟨_,rfl,a,_,3,_,rfl,rfl,hS2,at3,rfl,_,rfl,?_⟩
      cases ha : c.an with
      | none => exact zdh (by rfl) ⟨rfl,rfl⟩
      | some m =>
        rw [ha] at hS2; exact zhI (show ¬ (V.int m = V.non) from fun z => nomatch z) ⟨_,rfl,a,_,3,_,rfl,rfl,hS2,at3,m,rfl,zbv (hok.na m ha),rfl,rfl⟩
    rintro v H' ⟨rfl,rfl⟩; refine ⟨rfl,_,rfl,_,rfl,a,_,rfl,hS2,.inr ⟨by rintro ⟨_,h⟩; exact absurd (show (2 : Nat) = 4 from h) (by decide),fun q hq1 => ?_⟩⟩
    rw [show zbM [V.int c.b,.int c.e,.ref d,anV c.an] none (some 2) = [.int c.b,.int c.e] from rfl]; have s3 : Same H2 (upd H2 q (.tup [.int c.b,.int c.e])) := Same.upd hq1; have q3 : (upd H2 q (.tup [.int c.b,.int c.e])) q = some (.tup [.int c.b,.int c.e]) := zab; generalize upd H2 q (.tup [.int c.b,.int c.e]) = H3 at s3 q3 ⊢; refine ⟨_,rfl,q,d,_,_,rfl,rfl,q3,Same.tup s3 hD2,by simp,by simp; omega,fun H4 t s4 ht => ?_⟩
    have ht : SqT K H4 t (.int c.b :: .int c.e :: .str c.w :: .str c.t :: c.vs.map V.int) := SqT.of ht; refine ⟨t,rfl,⟨_,ht⟩,zi5 zdP ht (by simp; omega) (fun x hx D ys R hD hR => ?_) fun D hD => ?_⟩
    . refine ⟨_,rfl,?_⟩; simp only [List.mem_cons,List.mem_map] at hx
      rcases hx with rfl | rfl | rfl | rfl | ⟨m,hm,rfl⟩
      . exact .inl ⟨_,rfl,zbv hok.nb,hR⟩
      . exact .inl ⟨_,rfl,zbv hok.ne,hR⟩
      . exact .inr ⟨_,rfl,hR⟩
      . exact .inr ⟨_,rfl,hR⟩
      . exact .inl ⟨_,rfl,zbv (hok.nv m hm),hR⟩
    have s5 := Same.upd (o := .lst ((V.int c.b :: .int c.e :: .str c.w :: .str c.t :: c.vs.map V.int).map zdP)) hD; have q5 : (upd H4 D (.lst ((V.int c.b :: .int c.e :: .str c.w :: .str c.t :: c.vs.map V.int).map zdP))) D = some (.lst ((V.int c.b :: .int c.e :: .str c.w :: .str c.t :: c.vs.map V.int).map zdP)) := zab; generalize upd H4 D (.lst ((V.int c.b :: .int c.e :: .str c.w :: .str c.t :: c.vs.map V.int).map zdP)) = H5 at s5 q5 ⊢; refine ⟨_,rfl,nlb rfl,fun p1 hp1 => ?_⟩; have s6 : Same H5 (upd H5 p1 (.lst [.str "gives",.str (zbS c.an)])) := Same.upd hp1; have q6 : (upd H5 p1 (.lst [.str "gives",.str (zbS c.an)])) p1 = some (.lst [.str "gives",.str (zbS c.an)]) := zab; generalize upd H5 p1 (.lst [.str "gives",.str (zbS c.an)]) = H6 at s6 q6 ⊢; refine ⟨D,p1,_,_,rfl,rfl,s6 _ _ q5,q6,by simp; omega,fun p2 hp2 => ?_⟩
    have s7 := Same.upd (o := .lst ((V.int c.b :: .int c.e :: .str c.w :: .str c.t :: c.vs.map V.int).map zdP ++ [.str "gives",.str (zbS c.an)])) hp2
    have e : (V.int c.b :: .int c.e :: .str c.w :: .str c.t :: c.vs.map V.int).map zdP ++ [.str "gives",.str (zbS c.an)] = c.parts.map V.str := by
      unfold Call.parts; simp only [List.map_cons,List.map_append,List.map_map,List.map_nil,List.cons_append]
      rfl
    refine ⟨" ",p2,c.parts,rfl,rfl,SqL.of (by rw [<- e]; exact zab),zit hok,?_⟩
    rw [zgg]; exact hq _ (s02.trans (s3.trans (s4.trans (s5.trans (s6.trans s7)))))
theorem zhz (F : Fun K "shown" "shown" zdm f fd) (B : Bl mg) (g_shown_call : FnX P w K mg base "shown_call" 5 (zc4 K)) : FnOk P w K mg base CX0 6 f fd ["calls"] (zeO K) := by
  refine F.ok zgQ (fun vs H Q E h => ?_) (fun cdv A outer s H vs Q E hr h => ?_)
  . obtain ⟨l,as,cs,rfl,_⟩ := h; rfl
  . obtain ⟨l,as,cs,rfl,hS,hC,hn,hok,hq⟩ := h; have hsz : sizeLine = 16777216 := sizeLine_eq; refine ⟨_,(zag (zaq (zfR (zc2 (sc := zaf zdm) (N0 := zfi) (ns := []) (idx := []) (by decide +kernel)) rfl (zcd (pv 0)) (fun _ _ _ _ => zb6) (fun _ _ _ _ => (zav g_shown_call za8 hr rfl (zaa (pv 0) zac)))))),?_⟩
    refine ⟨_,rfl,l,rfl,⟨_,hS⟩,zcF (xs := as.map V.ref) (fun D i ys H' => Same H H' /\ H' D = some (.lst ys) /\ ys = (cs.take i).map (fun c => V.str c.line) /\ i <= cs.length) (by rw [List.length_map]; omega)
      (fun D hD => ⟨Same.upd hD,zab,rfl,Nat.zero_le _⟩) (fun D i ys H' h => ⟨h.2.1,?_,h.1.seq hS⟩) ?_ ?_⟩
    . obtain ⟨_,_,rfl,h3⟩ := h; rw [List.length_map,List.length_take]; omega
    . rintro D i v ys H' R hD hx ⟨s1,hDy,rfl,hi⟩ hR; rw [List.getElem?_map] at hx; obtain ⟨a,hx',rfl⟩ := Option.map_eq_some_iff.mp hx; clear hx; have hx := hx'; have hi2 : i < cs.length := by rw [<- hC.1]; exact (List.getElem?_eq_some_iff.mp hx).1
      have hc := List.getElem?_eq_getElem hi2; refine ⟨_,rfl,a,cs[i],rfl,(hC.2 i a _ hx hc).keep s1,hok _ (List.getElem_mem _),fun H2 s2 => hR _ _ (s2 _ _ hDy) ⟨Same.updN (s1.trans s2) hD,zab,?_,hi2⟩⟩; rw [List.take_add_one,hc,List.map_append]
      rfl
    . rintro D ys H' hD ⟨s1,hDy,rfl,_⟩; rw [List.length_map,hC.1,List.take_length] at hDy; exact hq H' D s1 hDy
theorem zd1 (F : Fun K "_law_whole" "_law_whole" zbL f fd) (B : Bl mg) : FnOk P w K mg base CX0 1 f fd ["_law_found"] zdn := by
  refine F.ok zd2 (fun vs H Q E h => ?_) (fun cdv A outer s H vs Q E hr h => ?_)
  . obtain ⟨i,rfl,_⟩ := h; rfl
  . obtain ⟨i,rfl,k⟩ := h; refine ⟨_,(zag (zaq (zct (zai zaR rfl B.isinstance_ PyProof.Rows.boot_isinstance (zaa (pv 0) (zaa (za1 (v := .ty "int") rfl B.int_ PyProof.Rows.boot_int rfl) zac))) (zbO (zhr (zai zaR rfl B.isinstance_ PyProof.Rows.boot_isinstance (zaa (pv 0) (zaa (za1 (v := .ty "bool") rfl B.bool_ PyProof.Rows.boot_bool rfl) zac)))))))),?_⟩; refine ⟨_,rfl,_,_,.type "int",true,rfl,TyOf.int i,zhf,true,rfl,?_⟩; exact ⟨_,rfl,_,_,.type "int",false,rfl,TyOf.int i,zgU,false,rfl,k⟩
def zjd (K : Fg) : Sp := fun vs H Q _ => ∃ (a : Addr) (ns : List Int) (k : Int),vs = [.ref a,.int k] /\ SqL K H a (ns.map V.int) /\ 0 <= k /\ Q (.int (ns.getD k.toNat 0)) H
theorem zft (F : Fun K "_law_at" "_law_at" zcV f fd) (B : Bl mg) : FnOk P w K mg base CX0 1 f fd ["_law_script","_law_k"] (zjd K) := by
  refine F.ok zfK (fun vs H Q E h => ?_) (fun cdv A outer s H vs Q E hr h => ?_)
  . obtain ⟨a,ns,i,rfl,_⟩ := h; rfl
  . obtain ⟨a,ns,i,rfl,ha,h0,k⟩ := h
    refine ⟨_,(zad (zaY (zaK ziD (pv 1) (zai zas rfl B.len_ PySem.boot_len (zaa (pv 0) zac)) (zaE _))
    (zag (zaq (zat zaA (pv 0) (pv 1) (fun _ _ => rfl)))) zaB)
    (zag (zaq zae))),?_⟩
    refine ⟨_,rfl,_,rfl,a,_,rfl,.inl ha,_,_,rfl,rfl,_,rfl,?_⟩; refine zjY (fun h => ?_) (fun h => ?_)
    . rw [List.length_map] at h; obtain ⟨v,hv,hv'⟩ := zcT (xs := ns.map V.int) h0 (by rw [List.length_map]; exact h)
      rw [List.getElem?_map] at hv'; obtain ⟨z,hz,rfl⟩ := Option.map_eq_some_iff.mp hv'; have e : ns.getD i.toNat 0 = z := by rw [List.getD_eq_getElem?_getD,hz]; rfl
      rw [e] at k; exact ⟨_,rfl,_,rfl,a,_,i,_,rfl,rfl,ha,hv,k⟩
    . rw [List.length_map] at h; have e : ns.getD i.toNat 0 = 0 := by rw [List.getD_eq_getElem?_getD,List.getElem?_eq_none (by omega)]; rfl
      rw [e] at k; exact k
def zem (K : Fg) : Sp := fun vs H Q _ => ∃ (l : Addr) (xs : List Str),vs = [.ref l] /\ SqL K H l (xs.map V.str) /\ xs.length <= 1000 /\ (∀ x ∈ xs,zcQ x) /\ (∃ x ∈ xs,zan x = none) /\ ∀ H',Same H H' -> Q (.bl true) H'
theorem zdg (F : Fun K "_law_refused" "_law_refused" zbo f fd) (B : Bl mg) (T : Tp P w K mg st pt nl oe n th b) (g_read : FnX P w K mg base "read" 7 (zdI K nl)) : FnOk P w K mg base CX0 8 f fd ["_law_lines"] (zem K) := by
  refine F.ok zdf (fun vs H Q E h => ?_) (fun cdv A outer s H vs Q E hr h => ?_)
  . obtain ⟨l,xs,rfl,_⟩ := h; rfl
  . obtain ⟨l,xs,rfl,hS,hn,hok,hx,hq⟩ := h; have m_NoLine := T.kL.bound
    refine ⟨_,(zad (ziY own_cx.wish rfl (fun pn E' => (zag (zdp (zav g_read (zfS own_cx.wish) hr rfl (zaa (pv 0) zac)))))
    (.cons rfl m_NoLine (by decide) (fun e => (zag (zaq zbw))) .nil))
    (zag (zaq zbw))),?_⟩
    refine ⟨_,rfl,l,xs,rfl,hS,hn,hok,.inr ⟨hx,fun H' s1 => ?_⟩⟩; exact .inl ⟨T.e1,hq H' s1⟩
theorem zcv (F : Fun K "_law_under_base" "_law_under_base" za3 f fd) (B : Bl mg) (T : Tp P w K mg st pt nl oe n th b) (g_read : FnX P w K mg base "read" 7 (zdI K nl)) : FnOk P w K mg base CX0 8 f fd ["_law_lines"] (zem K) := by
  refine F.ok sc__law_under_base (fun vs H Q E h => ?_) (fun cdv A outer s H vs Q E hr h => ?_)
  . obtain ⟨l,xs,rfl,_⟩ := h; rfl
  . obtain ⟨l,xs,rfl,hS,hn,hok,hx,hq⟩ := h; have m_OrderError := T.mO; have hsz : sizeLine = 16777216 := sizeLine_eq
    refine ⟨_,(zad (zhu (i := 1) own_cx.wish rfl (fun pn E' => (zag (zdp (zav g_read (zfS own_cx.wish) hr rfl (zaa (pv 0) zac)))))
    rfl m_OrderError (by decide) (fun e => (zad (zao (i := 2) sc__law_under_base.nd rfl (by first | exact .inl rfl | exact .inr rfl) (zaO (zaa (zai (zbp K) rfl B.isinstance_ PyProof.Rows.boot_isinstance (zaa (pv 1) (zaa (zbj (v := .ref n) rfl T.mN rfl) zac))) (zaa (zai (zbp K) rfl B.isinstance_ PyProof.Rows.boot_isinstance (zaa (pv 1) (zaa (zbj (v := .ref th) rfl T.mT rfl) zac))) (zaa (zai (zbp K) rfl B.isinstance_ PyProof.Rows.boot_isinstance (zaa (pv 1) (zaa (zbj (v := .ref b) rfl T.mB rfl) zac))) zac)))))
    (zad (zao (i := 2) sc__law_under_base.nd rfl (by first | exact .inl rfl | exact .inr rfl) (zaj zbf (pv 2) (zaO (zaa (zai (zbp K) rfl B.isinstance_ PyProof.Rows.boot_isinstance (zaa (pv 1) (zaa (zbj (v := .ref nl) rfl T.kL.bound rfl) zac))) zac))))
    (zag (zaq (zct (zai (zbp K) rfl B.isinstance_ PyProof.Rows.boot_isinstance (zaa (pv 1) (zaa (za1 (v := .ty "ValueError") rfl T.mV zid rfl) zac))) (zbO (zbc zfr (zjp K PySem.F.plainAttrs_list PySem.F.slot_list_count PySem.F.type_list_count zhq (pv 2) (zaa zbw zac)) zae (zaE _))))))))) sc__law_under_base.nd rfl rfl (by first | exact .inl rfl | exact .inr rfl))
    (zag (zaq zbw))),?_⟩
    refine ⟨_,rfl,l,xs,rfl,hS,hn,hok,.inr ⟨hx,fun H' s1 => ?_⟩⟩; refine ⟨nl,rfl,T.e2,fun e he => ?_⟩; have s2 : Same H' (upd H' e (.ext (zbR e nl))) := Same.upd he; have q2 : (upd H' e (.ext (zbR e nl))) e = some (.ext (zbR e nl)) := zab; generalize upd H' e (.ext (zbR e nl)) = H2 at s2 q2 ⊢; have s12 := s1.trans s2; refine ⟨_,rfl,e,nl,_,false,rfl,q2,T.xl,.inr ⟨n,rfl,T.k1⟩,_,rfl,e,nl,_,false,rfl,q2,T.xl,.inr ⟨th,rfl,T.k2⟩,_,rfl,e,nl,_,false,rfl,q2,T.xl,.inr ⟨b,rfl,T.k3⟩,nlb rfl,fun p hp => ?_⟩; have s3 : Same H2 (upd H2 p (.lst [.bl false,.bl false,.bl false])) := Same.upd hp; have q3 : (upd H2 p (.lst [.bl false,.bl false,.bl false])) p = some (.lst [.bl false,.bl false,.bl false]) := zab; generalize upd H2 p (.lst [.bl false,.bl false,.bl false]) = H3 at s3 q3 ⊢; refine ⟨_,rfl,_,rfl,e,nl,_,true,rfl,s3 _ _ q2,T.xl,.inr ⟨nl,rfl,T.k4⟩,nlb rfl,fun p1 hp1 => ?_⟩; have s4 : Same H3 (upd H3 p1 (.lst [.bl true])) := Same.upd hp1; have q4 : (upd H3 p1 (.lst [.bl true])) p1 = some (.lst [.bl true]) := zab; generalize upd H3 p1 (.lst [.bl true]) = H4 at s4 q4 ⊢; refine ⟨p,p1,_,_,rfl,rfl,s4 _ _ q3,q4,by show 3 + 1 <= _; omega,fun p2 hp2 => ?_⟩
    have s5 := Same.upd (o := .lst ([.bl false,.bl false,.bl false] ++ [.bl true])) hp2; have q5 : (upd H4 p2 (.lst ([.bl false,.bl false,.bl false] ++ [.bl true]))) p2 = some (.lst ([false,false,false,true].map V.bl)) := zab; generalize upd H4 p2 (.lst ([.bl false,.bl false,.bl false] ++ [.bl true])) = H5 at s5 q5 ⊢; have s35 := (s3.trans s4).trans s5; refine ⟨_,rfl,e,nl,_,true,rfl,s35 _ _ q2,T.xl,.inl ⟨"ValueError",rfl,T.k5⟩,_,rfl,zdX ?_⟩; refine ⟨_,rfl,.inl ⟨rfl,_,SqL.of q5⟩,p2,_,true,rfl,rfl,q5,rfl,?_⟩; exact hq _ (s12.trans s35)
def zdz (K : Fg) : Sp := fun vs H Q _ => ∃ (a : Addr) (c : Call),vs = [.ref a] /\ IsCall K H a c /\ c.Ok /\ Q (.str c.line) H
theorem zh4 (c : Call) : Str.join " " (zak c.b :: zak c.e :: c.w :: c.t :: c.vs.map zak) ++ (" gives " : Str) ++ zbS c.an = c.line := by
  have e : (" gives " : Str) = (" " : Str) ++ "gives" ++ " " := by decide
  have h : c.line = Str.join " " ((zak c.b :: zak c.e :: c.w :: c.t :: c.vs.map zak) ++ [("gives" : Str)] ++ [zbS c.an]) := by
    unfold Call.line Call.parts; simp
  rw [h,zcc _ (by simp),zcc _ (by simp),e]
  simp only [Str.append_assoc]
theorem zdi (F : Fun K "_law_line_of" "_law_line_of" zbq f fd) (B : Bl mg) : FnOk P w K mg base CX0 1 f fd ["_law_call"] (zdz K) := by
  refine F.ok sc__law_line_of (fun vs H Q E h => ?_) (fun cdv A outer s H vs Q E hr h => ?_)
  . obtain ⟨a,c,rfl,_⟩ := h; rfl
  . obtain ⟨a,c,rfl,⟨d,hS',hD'⟩,hok,hq⟩ := h; have hsz : sizeLine = 16777216 := sizeLine_eq; have hfew := zb5 hok.kd; have lb := zby hok.nb; have le := zby hok.ne; have hS : SqT K H a _ := SqT.of hS'; have hD : SqT K H d _ := SqT.of hD'; have b1 : (" " : Str).length = 1 := by decide
    have deed : ∀ (i : Nat) x,(V.str c.w :: .str c.t :: c.vs.map V.int)[i]? = some x -> ∃ p,(c.w :: c.t :: c.vs.map zak)[i]? = some p /\ p.length <= 93 /\ (x = .str p \/ ∃ m,x = .int m /\ p = zak m /\ zbu m) := fun i x hx => by
      match i,hx with
      | 0,hx => exact ⟨c.w,rfl,zbF hok c.w (by unfold Call.parts; simp),.inl (Option.some.inj hx).symm⟩
      | 1,hx => exact ⟨c.t,rfl,Nat.le_trans hok.tl (by decide),.inl (Option.some.inj hx).symm⟩
      | i + 2,hx =>
        have hx : (c.vs.map V.int)[i]? = some x := hx; rw [List.getElem?_map] at hx; obtain ⟨m,hm,rfl⟩ := Option.map_eq_some_iff.mp hx; have hs := hok.nv m (List.mem_of_getElem? hm); refine ⟨zak m,?_,zby hs,.inr ⟨m,rfl,rfl,hs⟩⟩; show (c.vs.map zak)[i]? = _; rw [List.getElem?_map,hm]
        rfl
    have jl : ∀ i,i <= c.vs.length + 2 -> (Str.join " " (zak c.b :: zak c.e :: (c.w :: c.t :: c.vs.map zak).take i)).length <= 600 := fun i hi => by
      have h1 := zds " " 93 (by decide) (zak c.b :: zak c.e :: (c.w :: c.t :: c.vs.map zak).take i) (fun p hp => zbF hok p (by
        unfold Call.parts
        rcases List.mem_cons.mp hp with rfl | hp
        . simp
        rcases List.mem_cons.mp hp with rfl | hp
        . simp
        have := List.mem_of_mem_take hp; simp only [List.mem_cons,List.mem_append] at this ⊢
        rcases this with h | h | h
        . exact .inr (.inr (.inl h))
        . exact .inr (.inr (.inr (.inl h)))
        . exact .inr (.inr (.inr (.inr (.inl h))))))
      have h2 : (zak c.b :: zak c.e :: (c.w :: c.t :: c.vs.map zak).take i).length <= 5 := by
        simp only [List.length_cons,List.length_take,List.length_map]; omega
      have h3 : (zak c.b :: zak c.e :: (c.w :: c.t :: c.vs.map zak).take i).length * (93 + 1) <= 5 * 94 := Nat.mul_le_mul_right 94 h2; omega
    refine ⟨_,(zad (zao (i := 1) sc__law_line_of.nd rfl (by first | exact .inl rfl | exact .inr rfl) (zaj zaN (zaj zaN (zaD call_str_int rfl B.str_ PyProof.Rows.boot_str (zaa (zat zaJ (pv 0) zae (fun _ _ => rfl)) zac)) zah) (zaD call_str_int rfl B.str_ PyProof.Rows.boot_str (zaa (zat zaJ (pv 0) zae (fun _ _ => rfl)) zac))))
    (zad (zcX PassesOwn.never rfl (zhx (zat zaJ (pv 0) zae (fun _ _ => rfl))) (zbK (i := 2) sc__law_line_of.nd rfl (by first | exact .inl rfl | exact .inr rfl))
    (zag (zao (i := 1) sc__law_line_of.nd rfl (by first | exact .inl rfl | exact .inr rfl) (zaj zaN (zaj zaN (pv 1) zah) (zaD zei rfl B.str_ PyProof.Rows.boot_str (zaa (pv 2) zac))))))
    (zad (zao (i := 3) sc__law_line_of.nd rfl (by first | exact .inl rfl | exact .inr rfl) zah)
    (zad (zeN (zaY (zaK zfP (zat zaJ (pv 0) zae (fun _ _ => rfl)) zcs (zaE _))
    (zag (zao (i := 3) sc__law_line_of.nd rfl (by first | exact .inl rfl | exact .inr rfl) (zaD call_str_int rfl B.str_ PyProof.Rows.boot_str (zaa (zat zaJ (pv 0) zae (fun _ _ => rfl)) zac)))) zaB))
    (zag (zaq (zaj zaN (zaj zaN (pv 1) zah) (pv 3)))))))),?_⟩
    have l1 : (zak c.b ++ (" " : Str)).length <= 94 := by rw [Str.length_append]; omega
    refine ⟨_,rfl,a,_,0,_,rfl,rfl,hS,at0,c.b,rfl,zbv hok.nb,_,_,rfl,rfl,(by show (zak c.b).length + _ <= _; omega),_,rfl,a,_,1,_,rfl,rfl,hS,at1,c.e,rfl,zbv hok.ne,_,_,rfl,rfl,(by show (zak c.b ++ (" " : Str)).length + (zak c.e).length <= _; omega),?_⟩
    refine ⟨_,rfl,a,_,2,_,rfl,rfl,hS,at2,d,rfl,⟨_,hD⟩,ziq (K := K) (a := d) (xs := V.str c.w :: .str c.t :: c.vs.map V.int) (fun i σ H2 => H2 = H /\ i <= c.vs.length + 2 /\ ∃ v,σ = [some (.ref a),some (.str (Str.join " " (zak c.b :: zak c.e :: (c.w :: c.t :: c.vs.map zak).take i))),v,none]) ⟨rfl,Nat.zero_le _,none,rfl⟩ (fun i σ H2 _ q => by obtain ⟨rfl,_⟩ := q; exact hD) ?_ ?_⟩
    . rintro i x σ H2 hx ⟨rfl,hi,v,rfl⟩; obtain ⟨p,hp,hpl,hpx⟩ := deed i x hx
      have hi2 : i + 1 <= c.vs.length + 2 := by
        have := (List.getElem?_eq_some_iff.mp hx).1; simp only [List.length_cons,List.length_map] at this; omega
      have hj := jl i hi
      have e : Str.join " " (zak c.b :: zak c.e :: (c.w :: c.t :: c.vs.map zak).take (i + 1)) = Str.join " " (zak c.b :: zak c.e :: (c.w :: c.t :: c.vs.map zak).take i) ++ " " ++ p := by
        rw [List.take_add_one,hp]; exact zcc (ps := zak c.b :: zak c.e :: (c.w :: c.t :: c.vs.map zak).take i) p (by simp)
      generalize Str.join " " (zak c.b :: zak c.e :: (c.w :: c.t :: c.vs.map zak).take i) = ln at hj e ⊢; have l2 : (ln ++ (" " : Str)).length <= 601 := by rw [Str.length_append]; omega
      refine ⟨_,rfl,_,_,rfl,rfl,(by omega),_,rfl,?_⟩
      rcases hpx with rfl | ⟨m,rfl,rfl,hm⟩
      . exact .inr ⟨_,rfl,_,_,rfl,rfl,(by omega),rfl,hi2,_,by rw [e]; rfl⟩
      . exact .inl ⟨_,rfl,zbv hm,_,_,rfl,rfl,(by show (ln ++ (" " : Str)).length + (zak m).length <= _; omega),rfl,hi2,_,by rw [e]; rfl⟩
    . rintro σ H2 ⟨rfl,_,v,rfl⟩
      have e1 : (c.w :: c.t :: c.vs.map zak).take (V.str c.w :: .str c.t :: c.vs.map V.int).length = c.w :: c.t :: c.vs.map zak := by
        rw [show (V.str c.w :: .str c.t :: c.vs.map V.int).length = (c.w :: c.t :: c.vs.map zak).length by simp,List.take_length]
      rw [e1]; have hj := jl (c.vs.length + 2) (Nat.le_refl _); rw [show (c.w :: c.t :: c.vs.map zak).take (c.vs.length + 2) = c.w :: c.t :: c.vs.map zak by rw [show c.vs.length + 2 = (c.w :: c.t :: c.vs.map zak).length by simp,List.take_length]] at hj
      have hli := zh4 c; generalize Str.join " " (zak c.b :: zak c.e :: c.w :: c.t :: c.vs.map zak) = ln at hj hli ⊢; refine ⟨fun σ' H' => σ' = [some (.ref a),some (.str ln),v,some (.str (zbS c.an))] /\ H' = H2,?_,?_⟩
      . refine ⟨_,rfl,a,_,3,_,rfl,rfl,hS,at3,rfl,_,rfl,?_⟩
        cases ha : c.an with
        | none => exact zcU (by decide) ⟨rfl,rfl⟩
        | some m =>
          rw [ha] at hS; exact zdh (by rfl) ⟨_,rfl,a,_,3,_,rfl,rfl,hS,at3,m,rfl,zbv (hok.na m ha),rfl,rfl⟩
      . rintro σ' H' ⟨rfl,rfl⟩; have la : (zbS c.an).length <= 93 := zbF hok _ (by unfold Call.parts; simp)
        have lg : (" gives " : Str).length = 7 := by decide
        have l3 : (ln ++ (" gives " : Str)).length <= 607 := by rw [Str.length_append]; omega
        refine ⟨_,rfl,_,_,rfl,rfl,(by omega),_,rfl,_,_,rfl,rfl,(by omega),?_⟩
        rw [hli]; exact hq
def zeS (K : Fg) : Sp := fun vs H Q _ => ∃ z : Int,vs = [.int z] /\ ∀ H' a c,Same H H' -> IsCall K H' a c -> c.Ok -> Q (.ref a) H'
def za6 (z : Int) : List Int := [0,-1,0 - 100000000000000000000,100000000000000000000,z % 10 ^ 90,z * 48271 % 1009 % 99]
theorem zfN (z : Int) : ∀ v ∈ za6 z,v.natAbs < 10 ^ 91 := by
  intro v hv; unfold za6 at hv; simp only [List.mem_cons,List.not_mem_nil,or_false] at hv; have h90 : (0 : Int) < 10 ^ 90 := by decide
  have h1 := Int.emod_nonneg z (show (10 : Int) ^ 90 ≠ 0 by decide)
  have h2 := Int.emod_lt_of_pos z h90
  rcases hv with rfl | rfl | rfl | rfl | rfl | rfl
  . decide
  . decide
  . decide
  . decide
  . have h3 : ((z % 10 ^ 90).natAbs : Int) < ((10 ^ 91 : Nat) : Int) := by
      rw [Int.natAbs_of_nonneg h1]; exact Int.lt_of_lt_of_le h2 (by decide)
    exact Int.ofNat_lt.mp h3
  . have h3 : 0 <= z * 48271 % 1009 % 99 /\ z * 48271 % 1009 % 99 < 99 := by omega
    generalize z * 48271 % 1009 % 99 = q at h3 ⊢; have : q.natAbs < 99 := by omega
    exact Nat.lt_of_lt_of_le this (by decide)
theorem zdU {v : Int} (h : v.natAbs < 10 ^ 91) : zbu v := Nat.lt_of_lt_of_le h (by decide)
theorem zgJ {v u : Int} (h : v.natAbs < 10 ^ 91) (h0 : 0 < u) (h1 : u <= 100000000000000000000) : zbu (v + u) := by
  unfold zbu; have e : (v + u).natAbs <= v.natAbs + u.natAbs := Int.natAbs_add_le v u
  have e2 : u.natAbs <= 10 ^ 20 := by
    have : (10 : Nat) ^ 20 = 100000000000000000000 := by decide
    omega
  have e3 : (10 : Nat) ^ 91 + 10 ^ 20 <= 10 ^ 92 := by decide
  exact Nat.lt_of_lt_of_le (Nat.lt_of_le_of_lt e (Nat.add_lt_add_of_lt_of_le h e2)) e3
theorem zgc (z : Int) {i : Int} (h0 : 0 <= i) (h1 : i < 6) : ∃ v ∈ za6 z,atI ((za6 z).map V.int) i = some (.int v) := by
  obtain ⟨v,hv,hv'⟩ := zcT (xs := (za6 z).map V.int) h0 (by rw [List.length_map]; exact h1)
  rw [List.getElem?_map] at hv'; obtain ⟨m,hm,rfl⟩ := Option.map_eq_some_iff.mp hv'; exact ⟨m,List.mem_of_getElem? hm,hv⟩
theorem zij (z : Int) {i : Int} (h0 : 0 <= i) (h1 : i < 7) : ∃ a : Option Int,(∀ m,a = some m -> m ∈ za6 z) /\ atI ([V.non] ++ (za6 z).map V.int) i = some (anV a) := by
  obtain ⟨v,hv,hv'⟩ := zcT (xs := ((none :: (za6 z).map some).map anV)) h0 (by rw [List.length_map]; exact h1)
  rw [List.getElem?_map] at hv'; obtain ⟨m,hm,rfl⟩ := Option.map_eq_some_iff.mp hv'; refine ⟨m,fun k hk => ?_,?_⟩
  . subst hk; have := List.mem_of_getElem? hm
    rcases List.mem_cons.mp this with h | h
    . cases h
    . obtain ⟨y,hy,e⟩ := List.mem_map.mp h; cases e; exact hy
  . rw [List.map_cons,List.map_map] at hv; exact hv
theorem zh2 {i : Int} (h0 : 0 <= i) (h1 : i < 3) : ∃ u,0 < u /\ u <= 100000000000000000000 /\ atI [V.int 1,.int 10,.int 100000000000000000000] i = some (.int u) := by
  have : i = 0 \/ i = 1 \/ i = 2 := by omega
  rcases this with rfl | rfl | rfl
  . exact ⟨1,by decide,by decide,at0⟩
  . exact ⟨10,by decide,by decide,at1⟩
  . exact ⟨_,by decide,by decide,at2⟩
theorem zgj {t : Str} {c : Nat} (h : zaz t letters = true) (hc : 97 <= c /\ c <= 122) : zaz (t ++ (⟨#[c]⟩ : Str)) letters = true := by
  obtain ⟨h1,h2⟩ := only_iff.mp h; refine only_iff.mpr ⟨by rw [zdo]; simp,fun d hd => ?_⟩
  rw [zdo] at hd
  rcases List.mem_append.mp hd with hd | hd
  . exact h2 d hd
  . have : d = c := by simpa using hd
    rw [this]; exact let_mem.mpr hc
theorem zgK {i : Int} (h0 : 0 <= i) (h1 : i < 26) : ∃ c,atI letters.cps.toList i = some c /\ 97 <= c /\ c <= 122 := by
  obtain ⟨c,hc,hc'⟩ := zcT (xs := letters.cps.toList) h0 (by rw [show letters.cps.toList.length = 26 by decide]; exact h1)
  exact ⟨c,hc,let_mem.mp (List.mem_of_getElem? hc')⟩
theorem ziE {x0 x1 x2 x3 x4 : Str} {i : Int} (h0 : 0 <= i) (h1 : i < 5) : ∃ y ∈ [x0,x1,x2,x3,x4],atI [V.str x0,.str x1,.str x2,.str x3,.str x4] i = some (.str y) := by
  obtain ⟨v,hv,hv'⟩ := zcT (xs := [x0,x1,x2,x3,x4].map V.str) h0 (by simp; omega)
  rw [List.getElem?_map] at hv'; obtain ⟨m,hm,rfl⟩ := Option.map_eq_some_iff.mp hv'; exact ⟨m,List.mem_of_getElem? hm,hv⟩
theorem zcq (F : Fun K "_law_drawn_call" "_law_drawn_call" za4 f fd) (B : Bl mg) : FnOk P w K mg base CX0 1 f fd ["_law_cell"] (zeS K) := by
  refine F.ok sc__law_drawn_call (fun vs H Q E h => ?_) (fun cdv A outer s H vs Q E hr h => ?_)
  . obtain ⟨z,rfl,_⟩ := h; rfl
  . obtain ⟨z,rfl,hq⟩ := h; have hsz : sizeLine = 16777216 := sizeLine_eq
    refine ⟨_,(zad (zao (i := 1) sc__law_drawn_call.nd rfl (by first | exact .inl rfl | exact .inr rfl) zae)
    (zad (zao (i := 2) sc__law_drawn_call.nd rfl (by first | exact .inl rfl | exact .inr rfl) (zaO (zaa zae (zaa (zfU zeJ zae) (zaa (zaj ziK zae (pv 1)) (zaa (pv 1) (zaa (zaj zaH (pv 0) (zaD zd8 rfl B.int_ PyProof.Rows.boot_int (zaa (zaj zaN zah (zaj zhT zah zae)) zac))) (zaa (zaj zaH (zaj zaH (zaj zbg (pv 0) zae) zae) zae) zac))))))))
    (zad (zao (i := 3) sc__law_drawn_call.nd rfl (by first | exact .inl rfl | exact .inr rfl) (zat zaA (pv 2) (zaj zaH (zaj zaH (zaj zbg (pv 0) zae) zae) zae) (fun _ _ => rfl)))
    (zad (zao (i := 4) sc__law_drawn_call.nd rfl (by first | exact .inl rfl | exact .inr rfl) (zaj zeP (pv 3) (zat zaA (zaO (zaa zae (zaa zae (zaa (pv 1) zac)))) (zaj zaH (zaj zaH (zaj zbg (pv 0) zae) zae) zae) (fun _ _ => rfl))))
    (zad (zao (i := 5) sc__law_drawn_call.nd rfl (by first | exact .inl rfl | exact .inr rfl) (zat zaA (zaO (zaa zah (zaa zah (zaa zah (zaa zah (zaa zah zac)))))) (zaj zaH (zaj zaH (zaj zbg (pv 0) zae) zae) zae) (fun _ _ => rfl)))
    (zad (zao (i := 6) sc__law_drawn_call.nd rfl (by first | exact .inl rfl | exact .inr rfl) (zat zaA (zaO (zaa zah (zaa zah (zaa zah (zaa zah (zaa zah zac)))))) (zaj zaH (zaj zaH (zaj zbg (pv 0) zae) zae) zae) (fun _ _ => rfl)))
    (zad (zcX PassesOwn.never rfl (zcW rfl B.range_ (zaa (zaj zaH (zaj zaH (zaj zbg (pv 0) zae) zae) zae) zac)) (zbK (i := 7) sc__law_drawn_call.nd rfl (by first | exact .inl rfl | exact .inr rfl))
    (zag (zao (i := 6) sc__law_drawn_call.nd rfl (by first | exact .inl rfl | exact .inr rfl) (zaj zaN (pv 6) (zat zho zah (zaj zaH (zaj zaH (zaj zbg (zaj zeP (pv 0) (zaj zbg zae (pv 7))) zae) zae) zae) (fun _ _ => rfl))))))
    (zad (zao (i := 8) sc__law_drawn_call.nd rfl (by first | exact .inl rfl | exact .inr rfl) (zcO (zaa (pv 5) (zaa (pv 6) zac))))
    (zad (zeN (zaY (zaK zgo (pv 5) (zaO (zaa zah (zaa zah (zaa zah zac)))) rfl)
    (zag (zao (i := 8) sc__law_drawn_call.nd rfl (by first | exact .inl rfl | exact .inr rfl) (zcO (zaa (pv 5) (zaa (pv 6) (zaa (zat zaA (pv 2) (zaj zaH (zaj zaH (zaj zbg (pv 0) zae) zae) zae) (fun _ _ => rfl)) zac)))))) zaB))
    (zad (zao (i := 9) sc__law_drawn_call.nd rfl (by first | exact .inl rfl | exact .inr rfl) (zat zaA (zaj zbf (zaO (zaa zcs zac)) (pv 2)) (zaj zaH (zaj zaH (zaj zbg (pv 0) zae) zae) zae) (fun _ _ => rfl)))
    (zag (zaq (zcO (zaa (pv 3) (zaa (pv 4) (zaa (pv 8) (zaa (pv 9) zac))))))))))))))))),?_⟩
    refine ⟨_,rfl,_,rfl,_,_,rfl,rfl,_,rfl,_,rfl,_,_,rfl,rfl,by decide,by decide,by decide +kernel,by decide +kernel,_,_,rfl,rfl,by decide +kernel,_,(10 ^ 90 : Int),rfl,by decide +kernel,by decide +kernel,_,_,rfl,rfl,(by show (0 : Int) < _; decide),_,rfl,_,_,rfl,rfl,.inr ⟨by decide,by decide⟩,_,_,rfl,rfl,(by show (0 : Int) < _; first | decide | omega),_,_,rfl,rfl,(by show (0 : Int) < _; first | decide | omega),nlb rfl,fun p hp => ?_⟩
    have s1 : Same H (upd H p (.lst [.int 0,.int (-1),.int (0 - 100000000000000000000),.int 100000000000000000000,.int (z % 10 ^ 90),.int (z * 48271 % 1009 % 99)])) := Same.upd hp; have q1 : (upd H p (.lst [.int 0,.int (-1),.int (0 - 100000000000000000000),.int 100000000000000000000,.int (z % 10 ^ 90),.int (z * 48271 % 1009 % 99)])) p = some (.lst ((za6 z).map V.int)) := zab; generalize upd H p (.lst [.int 0,.int (-1),.int (0 - 100000000000000000000),.int 100000000000000000000,.int (z % 10 ^ 90),.int (z * 48271 % 1009 % 99)]) = H1 at s1 q1 ⊢; have hsm := zfN z; obtain ⟨bg,hbm,hbg⟩ := zgc z (i := z * 48271 % 1013 % 6) (by omega) (by omega)
    refine ⟨_,rfl,_,rfl,_,_,rfl,rfl,.inr ⟨by decide,by decide⟩,_,_,rfl,rfl,(by show (0 : Int) < _; first | decide | omega),_,_,rfl,rfl,(by show (0 : Int) < _; first | decide | omega),p,_,_,_,rfl,rfl,SqL.of q1,hbg,?_⟩
    obtain ⟨u,hu0,hu1,hu⟩ := zh2 (i := z * 48271 % 1019 % 3) (by omega) (by omega)
    refine ⟨_,rfl,_,rfl,nlb rfl,fun p2 hp2 => ?_⟩; have s2 : Same H1 (upd H1 p2 (.lst [.int 1,.int 10,.int 100000000000000000000])) := Same.upd hp2; have q2 : (upd H1 p2 (.lst [.int 1,.int 10,.int 100000000000000000000])) p2 = some (.lst [.int 1,.int 10,.int 100000000000000000000]) := zab; generalize upd H1 p2 (.lst [.int 1,.int 10,.int 100000000000000000000]) = H2 at s2 q2 ⊢; refine ⟨_,rfl,_,_,rfl,rfl,.inr ⟨by decide,by decide⟩,_,_,rfl,rfl,(by show (0 : Int) < _; first | decide | omega),_,_,rfl,rfl,(by show (0 : Int) < _; first | decide | omega),p2,_,_,_,rfl,rfl,SqL.of q2,hu,_,_,rfl,rfl,?_⟩
    obtain ⟨wd,hwm,hw⟩ := ziE (x0 := "put") (x1 := "set") (x2 := "add") (x3 := "take") (x4 := "look") (i := z * 48271 % 1021 % 5) (by omega) (by omega)
    refine ⟨nlb rfl,fun p3 hp3 => ?_⟩; have s3 : Same H2 (upd H2 p3 (.lst [.str "put",.str "set",.str "add",.str "take",.str "look"])) := Same.upd hp3; have q3 : (upd H2 p3 (.lst [.str "put",.str "set",.str "add",.str "take",.str "look"])) p3 = some (.lst [.str "put",.str "set",.str "add",.str "take",.str "look"]) := zab; generalize upd H2 p3 (.lst [.str "put",.str "set",.str "add",.str "take",.str "look"]) = H3 at s3 q3 ⊢; refine ⟨_,rfl,_,_,rfl,rfl,.inr ⟨by decide,by decide⟩,_,_,rfl,rfl,(by show (0 : Int) < _; first | decide | omega),_,_,rfl,rfl,(by show (0 : Int) < _; first | decide | omega),p3,_,_,_,rfl,rfl,SqL.of q3,hw,?_⟩
    obtain ⟨t0,htm,ht⟩ := ziE (x0 := "a") (x1 := "gives") (x2 := "put") (x3 := "none") (x4 := "zz") (i := z * 48271 % 1031 % 5) (by omega) (by omega)
    refine ⟨nlb rfl,fun p4 hp4 => ?_⟩; have s4 : Same H3 (upd H3 p4 (.lst [.str "a",.str "gives",.str "put",.str "none",.str "zz"])) := Same.upd hp4; have q4 : (upd H3 p4 (.lst [.str "a",.str "gives",.str "put",.str "none",.str "zz"])) p4 = some (.lst [.str "a",.str "gives",.str "put",.str "none",.str "zz"]) := zab; generalize upd H3 p4 (.lst [.str "a",.str "gives",.str "put",.str "none",.str "zz"]) = H4 at s4 q4 ⊢; refine ⟨_,rfl,_,_,rfl,rfl,.inr ⟨by decide,by decide⟩,_,_,rfl,rfl,(by show (0 : Int) < _; first | decide | omega),_,_,rfl,rfl,(by show (0 : Int) < _; first | decide | omega),p4,_,_,_,rfl,rfl,SqL.of q4,ht,?_⟩
    have ht0 : zaz t0 letters = true /\ t0.length <= 5 := by
      simp only [List.mem_cons,List.not_mem_nil,or_false] at htm
      rcases htm with e | e | e | e | e <;> rw [e] <;> exact ⟨by decide,by decide⟩
    have s14 := s2.trans (s3.trans s4); refine ⟨_,rfl,_,_,rfl,rfl,.inr ⟨by decide,by decide⟩,_,_,rfl,rfl,(by show (0 : Int) < _; first | decide | omega),_,_,rfl,rfl,(by show (0 : Int) < _; first | decide | omega),z * 48271 % 1049 % 7,rfl,by omega,by omega,zcP (lo := 0) (n := (z * 48271 % 1049 % 7).toNat) (fun i σ H' => H' = H4 /\ i <= 7 /\ ∃ (t : Str) (v : Option V),zaz t letters = true /\ t.length <= 5 + i /\ σ = [some (.int z),some (.int 100000000000000000000),some (.ref p),some (.int bg),some (.int (bg + u)),some (.str wd),some (.str t),v,none,none]) ⟨rfl,by decide,t0,none,ht0.1,ht0.2,rfl⟩ ?_ ?_⟩
    . rintro i σ H' hi ⟨rfl,hi7,t,v,ht1,ht2,rfl⟩; have hi8 : i + 1 <= 7 := by omega
      obtain ⟨c,hc,hc2⟩ := zgK (i := (z + 5 * (0 + (i : Nat))) * 48271 % 1051 % 26) (by omega) (by omega)
      refine ⟨_,rfl,_,rfl,_,rfl,_,_,rfl,rfl,.inl ⟨by decide,by decide⟩,_,_,rfl,rfl,_,_,rfl,rfl,.inr ⟨by decide,by decide⟩,_,_,rfl,rfl,(by show (0 : Int) < _; first | decide | omega),_,_,rfl,rfl,(by show (0 : Int) < _; first | decide | omega),letters,_,c,rfl,rfl,by decide,hc,_,_,rfl,rfl,?_,rfl,hi8,t ++ (⟨#[c]⟩ : Str),_,zgj ht1 hc2,?_,rfl⟩
      . show t.length + 1 <= _; omega
      . rw [Str.length_append]; show t.length + 1 <= _; omega
    . rintro σ H' ⟨rfl,_,t,v,ht1,ht2,rfl⟩; have htl : t.length <= 40 := by omega
      refine ⟨_,rfl,_,rfl,nlb rfl,fun p5 hp5 => ?_⟩; have s5 : Same H' (upd H' p5 (.tup [.str wd,.str t])) := Same.upd hp5; have q5 : (upd H' p5 (.tup [.str wd,.str t])) p5 = some (.tup [.str wd,.str t]) := zab; generalize upd H' p5 (.tup [.str wd,.str t]) = H5 at s5 q5 ⊢; have s05 := s1.trans (s14.trans s5); refine ⟨fun σ' H'' => ∃ (d : Addr) (ms : List Int),σ' = [some (.int z),some (.int 100000000000000000000),some (.ref p),some (.int bg),some (.int (bg + u)),some (.str wd),some (.str t),v,some (.ref d),none] /\ Same H5 H'' /\ H'' d = some (.tup (.str wd :: .str t :: ms.map V.int)) /\ zau wd ms.length = true /\ ∀ m ∈ ms,m ∈ za6 z,?_,?_⟩
      . refine ⟨_,rfl,nlb rfl,fun p6 hp6 => ?_⟩; have s6 : Same H5 (upd H5 p6 (.lst [.str "put",.str "set",.str "add"])) := Same.upd hp6; have q6 : (upd H5 p6 (.lst [.str "put",.str "set",.str "add"])) p6 = some (.lst [.str "put",.str "set",.str "add"]) := zab; generalize upd H5 p6 (.lst [.str "put",.str "set",.str "add"]) = H6 at s6 q6 ⊢; refine ⟨p6,_,rfl,.inl (SqL.of q6),rfl,rfl,_,rfl,?_⟩; simp only [List.mem_cons,List.not_mem_nil,or_false] at hwm
        by_cases h3 : wd = "put" \/ wd = "set" \/ wd = "add"
        . refine zdh (by rcases h3 with e | e | e <;> rw [e] <;> decide) ?_
          obtain ⟨vl,hvm,hvl⟩ := zgc z (i := z * 48271 % 1033 % 6) (by omega) (by omega)
          refine ⟨_,rfl,_,rfl,_,rfl,_,rfl,_,_,rfl,rfl,.inr ⟨by decide,by decide⟩,_,_,rfl,rfl,(by show (0 : Int) < _; first | decide | omega),_,_,rfl,rfl,(by show (0 : Int) < _; first | decide | omega),p,_,_,_,rfl,rfl,SqL.of ((s14.trans (s5.trans s6)) _ _ q1),hvl,nlb rfl,fun p7 hp7 => ?_⟩
          refine ⟨p7,[vl],rfl,s6.trans (Same.upd hp7),zab,?_,fun m hm => ?_⟩
          . show zau wd 1 = true
            rcases h3 with e | e | e <;> rw [e] <;> decide
          . rw [List.mem_singleton.mp hm]; exact hvm
        . refine zcU (by
            rcases hwm with e | e | e | e | e
            . exact absurd (.inl e) h3
            . exact absurd (.inr (.inl e)) h3
            . exact absurd (.inr (.inr e)) h3
            . rw [e]; decide
            . rw [e]; decide) ?_
          refine ⟨p5,[],rfl,s6,s6 _ _ q5,?_,fun m hm => absurd hm (by simp)⟩
          rcases hwm with e | e | e | e | e
          . exact absurd (.inl e) h3
          . exact absurd (.inr (.inl e)) h3
          . exact absurd (.inr (.inr e)) h3
          . rw [e]; decide
          . rw [e]; decide
      . rintro σ' H6 ⟨d,ms,rfl,s6,hd,hkd,hms⟩; obtain ⟨an,han,hat⟩ := zij z (i := z * 48271 % 1039 % 7) (by omega) (by omega)
        refine ⟨nlb rfl,fun p7 hp7 => ?_⟩; have s7 : Same H6 (upd H6 p7 (.lst [.non])) := Same.upd hp7; have q7 : (upd H6 p7 (.lst [.non])) p7 = some (.lst [.non]) := zab; generalize upd H6 p7 (.lst [.non]) = H7 at s7 q7 ⊢; have s17 := s14.trans (s5.trans (s6.trans s7)); refine ⟨_,rfl,p7,p,_,_,rfl,rfl,q7,s17 _ _ q1,by rw [List.length_map]; show 1 + 6 <= _; omega,fun p8 hp8 => ?_⟩
        have s8 := Same.upd (o := .lst ([.non] ++ (za6 z).map V.int)) hp8; have q8 : (upd H7 p8 (.lst ([.non] ++ (za6 z).map V.int))) p8 = some (.lst ([.non] ++ (za6 z).map V.int)) := zab; generalize upd H7 p8 (.lst ([.non] ++ (za6 z).map V.int)) = H8 at s8 q8 ⊢; refine ⟨_,rfl,_,_,rfl,rfl,.inr ⟨by decide,by decide⟩,_,_,rfl,rfl,(by show (0 : Int) < _; first | decide | omega),_,_,rfl,rfl,(by show (0 : Int) < _; first | decide | omega),p8,_,_,_,rfl,rfl,SqL.of q8,hat,?_⟩
        refine ⟨_,rfl,_,rfl,_,rfl,_,rfl,nlb rfl,fun p9 hp9 => ?_⟩; have s9 := Same.upd (o := .tup [.int bg,.int (bg + u),.ref d,anV an]) hp9; refine hq _ p9 ⟨bg,bg + u,wd,t,ms,an⟩ (s1.trans (s17.trans (s8.trans s9))) ⟨d,zab,(s7.trans (s8.trans s9)) _ _ hd⟩ ⟨?_,zdU (hsm _ hbm),zgJ (hsm _ hbm) hu0 hu1,fun v hv => zdU (hsm _ (hms v hv)),fun m hm => zdU (hsm _ (han m hm)),ht1,htl,hkd⟩; show bg < bg + u; omega
def zfD (K : Fg) : Sp := fun vs H Q _ => ∃ (a a' : Addr) (c : Call),vs = [.ref a,.ref a'] /\ IsCall K H a c /\ IsCall K H a' c /\ c.Ok /\ ∀ H',Same H H' -> Q (.bl true) H'
def anD : Option Int -> PyData
  | none => .none
  | some m => .int m
def zbQ (c : Call) : PyData := .tuple [.int c.b,.int c.e,.tuple (.str c.w :: .str c.t :: c.vs.map PyData.int),anD c.an]
theorem zdM {H : Hp} : ∀ ms : List Int,IsAll K H (ms.map PyData.int) (ms.map V.int)
  | [] => by simp [IsAll]
  | m :: r => by
    rw [List.map_cons,List.map_cons]; simp only [IsAll]; exact ⟨_,_,rfl,by simp [Is],zdM r⟩
theorem zfX {H : Hp} {a : Addr} {c : Call} (h : IsCall K H a c) : Is K H (zbQ c) (.ref a) := by
  obtain ⟨d,h1,h2⟩ := h; have ha : Is K H (anD c.an) (anV c.an) := by cases c.an <;> simp [anD,anV,Is]
  unfold zbQ; simp only [Is,IsAll]; exact ⟨a,_,rfl,SqT.of h1,_,_,rfl,rfl,_,_,rfl,rfl,_,_,rfl,⟨d,_,rfl,SqT.of h2,_,_,rfl,rfl,_,_,rfl,rfl,zdM c.vs⟩,_,_,rfl,ha,rfl⟩
theorem zfG {t : Str} (h : zaz t letters = true) (hl : t.length <= 40) : PyData.strOk t = true := by
  unfold PyData.strOk; rw [<- Array.all_toList,List.all_eq_true]; intro c hc; have := let_mem.mp ((only_iff.mp h).2 c hc); exact decide_eq_true (by omega)
theorem zhW {wd : Str} {k : Nat} (h : zau wd k = true) : PyData.strOk wd = true := by
  have := zb9 h; simp only [List.mem_cons,List.not_mem_nil,or_false] at this
  rcases this with e | e | e | e | e <;> rw [e] <;> decide +kernel
theorem zfb {c : Call} (h : c.Ok) : Cmp (zbQ c) := by
  have hf := zb5 h.kd; have h1 := zhW h.kd; have h2 := zfG h.th h.tl
  rcases c with ⟨b,e,wd,t,vs,an⟩
  replace h1 : PyData.strOk wd = true := h1
  replace h2 : PyData.strOk t = true := h2
  replace hf : vs.length <= 1 := hf
  have key : ∀ vs : List Int,vs.length <= 1 -> Cmp (zbQ ⟨b,e,wd,t,vs,an⟩) := fun vs hf => by
    match vs,hf with
    | [],_ => cases an <;> refine ⟨?_,by simp [zbQ,anD,zb1,zc1]⟩ <;> unfold SeqAt.shaped <;> rw [Bool.and_eq_true] <;> exact ⟨by simp [zbQ,anD,PyData.canLay0,PyData.canLayAll0,h1,h2],decide_eq_true (by simp [zbQ,anD,PyData.depth,PyData.depthAll])⟩
    | [v],_ => cases an <;> refine ⟨?_,by simp [zbQ,anD,zb1,zc1]⟩ <;> unfold SeqAt.shaped <;> rw [Bool.and_eq_true] <;> exact ⟨by simp [zbQ,anD,PyData.canLay0,PyData.canLayAll0,h1,h2],decide_eq_true (by simp [zbQ,anD,PyData.depth,PyData.depthAll])⟩
  exact key vs hf
theorem zgW : PySem.W.kitOne K (.type "tuple") (.type "tuple") = some true := by rfl
theorem zez (F : Fun K "_law_same" "_law_same" zbZ f fd) (B : Bl mg) (g__law_whole : FnX P w K mg base "_law_whole" 1 zdn) : FnOk P w K mg base CX0 2 f fd ["_law_found","_law_call"] (zfD K) := by
  refine F.ok sc__law_same (fun vs H Q E h => ?_) (fun cdv A outer s H vs Q E hr h => ?_)
  . obtain ⟨a,a',c,rfl,_⟩ := h; rfl
  . obtain ⟨a,a',c,rfl,hC,hC',hok,hq⟩ := h; have hsz : sizeLine = 16777216 := sizeLine_eq; have hfew := zb5 hok.kd; obtain ⟨d,h1,h2⟩ := id hC; obtain ⟨d',h1',h2'⟩ := id hC'; have hS : SqT K H a _ := SqT.of h1; have hD : SqT K H d _ := SqT.of h2
    refine ⟨_,(zad (zaY (PW.pt (zc5 (zaW (zaQ (zai zaR rfl B.isinstance_ PyProof.Rows.boot_isinstance (zaa (pv 0) (zaa (za1 (v := .ty "tuple") rfl B.tuple_ PyProof.Rows.boot_tuple rfl) zac))))) (zc5 (zaK zc6 (zai zas rfl B.len_ PySem.boot_len (zaa (pv 0) zac)) zae (zaE _)) (zcx (zaW (zaQ (zai zaR rfl B.isinstance_ PyProof.Rows.boot_isinstance (zaa (zat zaJ (pv 0) zae (fun _ _ => rfl)) (zaa (za1 (v := .ty "tuple") rfl B.tuple_ PyProof.Rows.boot_tuple rfl) zac)))))))))
    (zag (zaq zbw)) zaB)
    (zad (zao (i := 2) sc__law_same.nd rfl (by first | exact .inl rfl | exact .inr rfl) (zaj zbf (zaD zbl rfl B.list_ PyProof.Rows.boot_list (zaa (za0 zeV (pv 0) zbx (zbb zae)) zac)) (zaD zbl rfl B.list_ PyProof.Rows.boot_list (zaa (za0 zeV (zat zaJ (pv 0) zae (fun _ _ => rfl)) (zbb zae) zbx) zac))))
    (zad (zeN (zaY (zaK zfP (zat zaJ (pv 0) zae (fun _ _ => rfl)) zcs (zaE _))
    (zag (zdp (zfa PySem.F.plainAttrs_list PySem.F.slot_list_append PySem.F.type_list_append zgE (pv 2) (zaa (zat zaJ (pv 0) zae (fun _ _ => rfl)) zac)))) zaB))
    (zad (zcX PassesOwn.never rfl (zcd (pv 2)) (zbK (i := 3) sc__law_same.nd rfl (by first | exact .inl rfl | exact .inr rfl))
    (zag (zaY (zaW (zaQ (zav g__law_whole za8 hr rfl (zaa (pv 3) zac))))
    (zag (zaq zbw)) zaB)))
    (zag (zaq (zct (zbc zfr (zbc zfv (zat zaJ (pv 0) zae (fun _ _ => rfl)) zcs (zaE _)) (zbc zfv (zat zaJ (pv 1) zae (fun _ _ => rfl)) zcs (zaE _)) (zaE _)) (zbO (zbc (ziT hr.units) (pv 0) (pv 1) (zaE _)))))))))),?_⟩
    refine ⟨_,rfl,_,_,_,true,rfl,TyOf.tup h1,zgW,true,rfl,zbI ?_⟩; refine ⟨_,rfl,a,_,rfl,.inr hS,rfl,_,rfl,zbI ?_⟩; refine ⟨_,rfl,a,_,2,_,rfl,rfl,hS,at2,_,_,_,true,rfl,TyOf.tup h2,zgW,true,rfl,zbI ?_⟩; refine ⟨_,rfl,_,rfl,a,_,rfl,hS,.inr ⟨by rintro ⟨_,h⟩; exact absurd (show (2 : Nat) = 4 from h) (by decide),fun p1 hp1 => ?_⟩⟩
    rw [show zbM [V.int c.b,.int c.e,.ref d,anV c.an] none (some 2) = [.int c.b,.int c.e] from rfl]; have s1 : Same H (upd H p1 (.tup [.int c.b,.int c.e])) := Same.upd hp1; have q1 : (upd H p1 (.tup [.int c.b,.int c.e])) p1 = some (.tup [.int c.b,.int c.e]) := zab; generalize upd H p1 (.tup [.int c.b,.int c.e]) = H1 at s1 q1 ⊢; refine ⟨p1,_,rfl,.inr (SqT.of q1),fun p2 hp2 => ?_⟩; have s2 : Same H1 (upd H1 p2 (.lst [.int c.b,.int c.e])) := Same.upd hp2; have q2 : (upd H1 p2 (.lst [.int c.b,.int c.e])) p2 = some (.lst [.int c.b,.int c.e]) := zab; generalize upd H1 p2 (.lst [.int c.b,.int c.e]) = H2 at s2 q2 ⊢; have s02 := s1.trans s2; refine ⟨_,rfl,a,_,2,_,rfl,rfl,Same.tup s02 hS,at2,_,rfl,d,_,rfl,Same.tup s02 hD,.inr ⟨?_,fun p3 hp3 => ?_⟩⟩
    . rintro ⟨h,_⟩; have h2 := (HT.sIx_nat (V.str c.w :: .str c.t :: c.vs.map V.int).length 0 2).symm.trans h; simp at h2
    rw [zf6]; have s3 : Same H2 (upd H2 p3 (.tup (c.vs.map V.int))) := Same.upd hp3; have q3 : (upd H2 p3 (.tup (c.vs.map V.int))) p3 = some (.tup (c.vs.map V.int)) := zab; generalize upd H2 p3 (.tup (c.vs.map V.int)) = H3 at s3 q3 ⊢; refine ⟨p3,_,rfl,.inr (SqT.of q3),fun p4 hp4 => ?_⟩; have s4 : Same H3 (upd H3 p4 (.lst (c.vs.map V.int))) := Same.upd hp4; have q4 : (upd H3 p4 (.lst (c.vs.map V.int))) p4 = some (.lst (c.vs.map V.int)) := zab; generalize upd H3 p4 (.lst (c.vs.map V.int)) = H4 at s4 q4 ⊢; refine ⟨p2,p4,_,_,rfl,rfl,(s3.trans s4) _ _ q2,q4,by rw [List.length_map]; show 2 + c.vs.length <= _; omega,fun p5 hp5 => ?_⟩
    have s5 := Same.upd (o := .lst ([.int c.b,.int c.e] ++ c.vs.map V.int)) hp5; have q5 : (upd H4 p5 (.lst ([.int c.b,.int c.e] ++ c.vs.map V.int))) p5 = some (.lst ((c.b :: c.e :: c.vs).map V.int)) := zab; have n5 : H4 p5 = none := hp5; generalize upd H4 p5 (.lst ([.int c.b,.int c.e] ++ c.vs.map V.int)) = H5 at s5 q5 ⊢; have s04 := s02.trans (s3.trans s4); have n0 : H p5 = none := s04.free n5; have s05 := s04.trans s5; refine ⟨fun σ' H' => ∃ ms : List Int,σ' = [some (.ref a),some (.ref a'),some (.ref p5),none] /\ Same H H' /\ H' p5 = some (.lst (ms.map V.int)) /\ ms.length <= 10,?_,?_⟩
    . refine ⟨_,rfl,a,_,3,_,rfl,rfl,Same.tup s05 hS,at3,rfl,_,rfl,?_⟩
      cases ha : c.an with
      | none => exact zcU (by decide) ⟨_,rfl,s05,q5,by simp; omega⟩
      | some m =>
        have hS5 := Same.tup s05 hS; rw [ha] at hS5; refine zdh (by rfl) ⟨_,rfl,.inl ⟨rfl,_,SqL.of q5⟩,_,rfl,a,_,3,_,rfl,rfl,hS5,at3,p5,_,_,rfl,rfl,q5,by rw [List.length_map]; simp; omega,(c.b :: c.e :: c.vs) ++ [m],rfl,Same.updN s05 n0,by rw [List.map_append]; exact zab,by simp; omega⟩
    rintro σ' H6 ⟨ms,rfl,s6,q6,hms⟩; refine ⟨_,rfl,p5,rfl,⟨_,SqL.of q6⟩,zfk (K := K) (a := p5) (xs := ms.map V.int) (fun i σ H7 => H7 = H6 /\ ∃ v,σ = [some (.ref a),some (.ref a'),some (.ref p5),v]) ⟨rfl,none,rfl⟩ (fun i σ H7 _ q => by obtain ⟨rfl,_⟩ := q; exact SqL.of q6) ?_ ?_⟩
    . rintro i x σ H7 hx ⟨rfl,v,rfl⟩; rw [List.getElem?_map] at hx; obtain ⟨m,_,rfl⟩ := Option.map_eq_some_iff.mp hx; exact ⟨_,rfl,m,rfl,true,rfl,zbI ⟨rfl,_,rfl⟩⟩
    . rintro σ H7 ⟨rfl,v,rfl⟩; refine ⟨_,rfl,a,_,3,_,rfl,rfl,Same.tup s6 hS,at3,rfl,_,rfl,a',_,3,_,rfl,rfl,Same.tup s6 (SqT.of h1'),at3,rfl,rfl,_,rfl,zdh (by simp) ?_⟩
      refine ⟨_,rfl,_,rfl,zbQ c,zbQ c,zfX (hC.keep s6),zfX (hC'.keep s6),zfb hok,zfb hok,?_⟩; rw [same_self]; exact hq _ s6
def zfT (K : Fg) : Sp := fun vs H Q _ => ∃ (a : Addr) (ns : List Int),vs = [.ref a] /\ SqL K H a (ns.map V.int) /\ ns.length <= 63 /\ ∀ H',Q (.bl true) H'
theorem zf1 {c : Call} (h : c.Ok) : zcQ c.line := by
  refine ⟨Nat.le_trans (zhH h) (by decide),?_,?_,fun hn => ?_⟩
  . rw [zcy h]; exact Nat.le_trans (zb4 h) (by decide)
  . rw [zcy h]; exact fun p hp => Nat.le_trans (zbF h p hp) (by decide)
  . rw [zes h] at hn; cases hn
def zf8 (x : Str) : Bool := decide (x.length <= 10000) && decide ((Txt.split x " ").length <= 8) && (Txt.split x " ").all (fun p => decide (p.length <= 640) && decide ((reprText p).length <= 100000)) && decide ((reprText x).length <= 100000) && decide ((PyData.list ((zbd (Txt.split x " ")).map PyData.str)).shown.length <= 100000)
theorem zgZ : ∀ x ∈ bads,zcQ x := by
  have h : bads.all zf8 = true := by decide +kernel
  intro x hx; have := List.all_eq_true.mp h x hx; unfold zf8 at this; simp only [Bool.and_eq_true,decide_eq_true_eq,List.all_eq_true] at this; obtain ⟨⟨⟨⟨h1,h2⟩,h3⟩,h4⟩,h5⟩ := this; exact ⟨h1,h2,fun p hp => (h3 p hp).1,fun _ => ⟨h4,fun p hp => (h3 p hp).2,h5⟩⟩
def zjm {cdv : Value} {A : Around} {outer : List Env} {s : Shared} {H : Hp} {E : XK} (B : Bl mg) (hr : Room 9 (A.deeper (PyProof.Rows.envOfC "law" (zaf zc8) s.heap.objs.size f cdv))) (g__law_at : FnX P w K mg base "_law_at" 1 (zjd K)) (g__law_drawn_call : FnX P w K mg base "_law_drawn_call" 1 (zeS K)) (g__law_line_of : FnX P w K mg base "_law_line_of" 1 (zdz K)) (g__law_refused : FnX P w K mg base "_law_refused" 8 (zem K)) (g__law_same : FnX P w K mg base "_law_same" 2 (zfD K)) (g__law_under_base : FnX P w K mg base "_law_under_base" 8 (zem K)) (g_read : FnX P w K mg base "read" 7 (zdI K nl)) (g_shown : FnX P w K mg base "shown" 6 (zeO K)) :
    { t : TS // PSs (zdj CX0 P w K mg base zeC "law" (zaf zc8) f cdv A outer s H E).nox (zaS zc8) t } :=
  ⟨_,(zad (zfq (i := 1) (zc2 (sc := zaf zc8) (N0 := zeC) (ns := ["_law_script"]) (idx := [0]) (by decide +kernel)) rfl sc_law.nd rfl (by first | exact .inl rfl | exact .inr rfl) (zgi rfl B.range_ (zaa zae (zaa (zai (zgC rfl) rfl B.min_ PyProof.Rows.boot_min (zaa zae (zaa (zai zas rfl B.len_ PySem.boot_len (zaa (pv 0) zac)) zac))) zac))) (fun _ _ _ _ => zb6) (fun _ _ _ _ => (zav g__law_drawn_call za8 hr rfl (zaa (zaj zeP (zat (zhL K) (pv 1) (pv 0) (fun _ _ => rfl)) (zaj zbg zae (pv 0))) zac))) rfl)
    (zad (zfq (i := 3) (zc2 (sc := zaf zc8) (N0 := zeC) (ns := []) (idx := []) (by decide +kernel)) rfl sc_law.nd rfl (by first | exact .inl rfl | exact .inr rfl) (zcd (pv 1)) (fun _ _ _ _ => zb6) (fun _ _ _ _ => (zav g__law_line_of za8 hr rfl (zaa (pv 0) zac))) rfl)
    (zad (zao (i := 4) sc_law.nd rfl (by first | exact .inl rfl | exact .inr rfl) (zav g_shown za8 hr rfl (zaa (zaD zbl rfl B.list_ PyProof.Rows.boot_list (zaa (pv 1) zac)) zac)))
    (zad (zaY (PW.pt (zc5 (zaW (zaQ (zai zaR rfl B.isinstance_ PyProof.Rows.boot_isinstance (zaa (pv 4) (zaa (za1 (v := .ty "list") rfl B.list_ PyProof.Rows.boot_list rfl) zac))))) (zcx (zaK zc6 (zai zas rfl B.len_ PySem.boot_len (zaa (pv 4) zac)) (zai zas rfl B.len_ PySem.boot_len (zaa (pv 3) zac)) (zaE _)))))
    (zag (zaq zbw)) zaB)
    (zad (zcX PassesOwn.never rfl (zcW rfl B.range_ (zaa (zai zas rfl B.len_ PySem.boot_len (zaa (pv 3) zac)) zac)) (zbK (i := 2) sc_law.nd rfl (by first | exact .inl rfl | exact .inr rfl))
    (zag (zaY (PW.pt (zc5 (zaW (zaQ (zai zaR rfl B.isinstance_ PyProof.Rows.boot_isinstance (zaa (zat zaA (pv 4) (pv 2) (fun _ _ => rfl)) (zaa (za1 (v := .ty "str") rfl B.str_ PyProof.Rows.boot_str rfl) zac))))) (zcx (zaK zc6 (zat zaA (pv 4) (pv 2) (fun _ _ => rfl)) (zat zaA (pv 3) (pv 2) (fun _ _ => rfl)) (zaE _)))))
    (zag (zaq zbw)) zaB)))
    (zad (zao (i := 5) sc_law.nd rfl (by first | exact .inl rfl | exact .inr rfl) (zav g_read za8 hr rfl (zaa (zaD zbl rfl B.list_ PyProof.Rows.boot_list (zaa (pv 3) zac)) zac)))
    (zad (zaY (PW.pt (zc5 (zaW (zaQ (zai zaR rfl B.isinstance_ PyProof.Rows.boot_isinstance (zaa (pv 5) (zaa (za1 (v := .ty "list") rfl B.list_ PyProof.Rows.boot_list rfl) zac))))) (zcx (zaK zc6 (zai zas rfl B.len_ PySem.boot_len (zaa (pv 5) zac)) (zai zas rfl B.len_ PySem.boot_len (zaa (pv 1) zac)) (zaE _)))))
    (zag (zaq zbw)) zaB)
    (zad (zcX PassesOwn.never rfl (zcW rfl B.range_ (zaa (zai zas rfl B.len_ PySem.boot_len (zaa (pv 1) zac)) zac)) (zbK (i := 2) sc_law.nd rfl (by first | exact .inl rfl | exact .inr rfl))
    (zag (zaY (zaW (zaQ (zav g__law_same za8 hr rfl (zaa (zat zaA (pv 5) (pv 2) (fun _ _ => rfl)) (zaa (zat zaA (pv 1) (pv 2) (fun _ _ => rfl)) zac)))))
    (zag (zaq zbw)) zaB)))
    (zad (zao (i := 6) sc_law.nd rfl (by first | exact .inl rfl | exact .inr rfl) (zaO (zaa zah (zaa zah (zaa zah (zaa zah (zaa zah zac)))))))
    (zad (zao (i := 6) sc_law.nd rfl (by first | exact .inl rfl | exact .inr rfl) (zaj zbf (pv 6) (zaO (zaa zah (zaa zah (zaa zah zac))))))
    (zad (zao (i := 6) sc_law.nd rfl (by first | exact .inl rfl | exact .inr rfl) (zaj zbf (pv 6) (zaO (zaa zah (zaa zah (zaa zah zac))))))
    (zad (zao (i := 6) sc_law.nd rfl (by first | exact .inl rfl | exact .inr rfl) (zaj zbf (pv 6) (zaO (zaa zah (zaa zah (zaa zah zac))))))
    (zad (zao (i := 6) sc_law.nd rfl (by first | exact .inl rfl | exact .inr rfl) (zaj zbf (pv 6) (zaO (zaa zah (zaa zah (zaa zah zac))))))
    (zad (zao (i := 6) sc_law.nd rfl (by first | exact .inl rfl | exact .inr rfl) (zaj zbf (pv 6) (zaO (zaa zah (zaa zah (zaa zah zac))))))
    (zad (zao (i := 7) sc_law.nd rfl (by first | exact .inl rfl | exact .inr rfl) (zaj zaH (zaj zaH (zaj zbg (zav g__law_at za8 hr rfl (zaa (pv 0) (zaa zae zac))) zae) zae) (zaj zeP (zai zas rfl B.len_ PySem.boot_len (zaa (pv 3) zac)) zae)))
    (zad (zcX PassesOwn.never rfl (zcd (pv 6)) (zbK (i := 8) sc_law.nd rfl (by first | exact .inl rfl | exact .inr rfl))
    (zad (zaY (zaW (zaQ (zav g__law_refused za8 hr rfl (zaa (zaj zbf (zaj zbf (za0 zcL (pv 3) zbx (zbb (pv 7))) (zaO (zaa (pv 8) zac))) (za0 zcL (pv 3) (zbb (pv 7)) zbx)) zac))))
    (zag (zaq zbw)) zaB)
    (zag (zaY (zaW (zaQ (zav g__law_under_base za8 hr rfl (zaa (zaj zbf (zaO (zaa (pv 8) zac)) (za0 zcL (pv 3) zbx (zbb zae))) zac))))
    (zag (zaq zbw)) zaB))))
    (zag (zaq zbw))))))))))))))))))⟩
theorem CallsAt.at {H : Hp} {as : List Addr} {cs : List Call} {i : Nat} (h : CallsAt K H as cs) (hi : i < cs.length) : ∃ a c,as[i]? = some a /\ cs[i]? = some c /\ IsCall K H a c := by
  have hi2 : i < as.length := by rw [h.1]; exact hi
  exact ⟨_,_,List.getElem?_eq_getElem hi2,List.getElem?_eq_getElem hi,h.2 i _ _ (List.getElem?_eq_getElem hi2) (List.getElem?_eq_getElem hi)⟩
theorem zhp {α : Type} (g : α -> V) (xs : List α) (j : Nat) (h : j <= xs.length) : zbM (xs.map g) none (some (j : Int)) = (xs.take j).map g := by
  unfold zbM; have hl : (xs.map g).length = xs.length := List.length_map ..; have e1 : HT.sIx (xs.map g).length 0 none = 0 := rfl; have e2 : HT.sIx (xs.map g).length (xs.map g).length (some (j : Int)) = j := (HT.sIx_nat _ _ j).trans (by rw [hl]; omega)
  rw [e1,e2,List.drop_zero,Nat.sub_zero,List.map_take]
theorem zha {α : Type} (g : α -> V) (xs : List α) (j : Nat) (h : j <= xs.length) : zbM (xs.map g) (some (j : Int)) none = (xs.drop j).map g := by
  unfold zbM; have hl : (xs.map g).length = xs.length := List.length_map ..; have e1 : HT.sIx (xs.map g).length 0 (some (j : Int)) = j := (HT.sIx_nat _ _ j).trans (by rw [hl]; omega)
  have e2 : HT.sIx (xs.map g).length (xs.map g).length none = xs.length := hl; rw [e1,e2,List.map_drop,List.take_of_length_le]; simp
theorem zhk {α : Type} (g : α -> V) (xs : List α) : zbM (xs.map g) none (some 2) = (xs.take 2).map g := by
  by_cases h : 2 <= xs.length
  . exact zhp g xs 2 h
  . unfold zbM; have hl : (xs.map g).length = xs.length := List.length_map ..; have e1 : HT.sIx (xs.map g).length 0 none = 0 := rfl; have e2 : HT.sIx (xs.map g).length (xs.map g).length (some 2) = xs.length := (HT.sIx_nat _ _ 2).trans (by rw [hl]; omega)
    rw [e1,e2,List.drop_zero,Nat.sub_zero,List.take_of_length_le (by rw [hl]; exact Nat.le_refl _),List.take_of_length_le (by omega)]
theorem ziI (F : Fun K "law" "law" zc8 f fd) (B : Bl mg) (g__law_at : FnX P w K mg base "_law_at" 1 (zjd K)) (g__law_drawn_call : FnX P w K mg base "_law_drawn_call" 1 (zeS K)) (g__law_line_of : FnX P w K mg base "_law_line_of" 1 (zdz K)) (g__law_refused : FnX P w K mg base "_law_refused" 8 (zem K)) (g__law_same : FnX P w K mg base "_law_same" 2 (zfD K)) (g__law_under_base : FnX P w K mg base "_law_under_base" 8 (zem K)) (g_read : FnX P w K mg base "read" 7 (zdI K nl)) (g_shown : FnX P w K mg base "shown" 6 (zeO K)) :
    FnOk P w K mg base CX0 10 f fd ["_law_script"] (zfT K) := by
  refine F.ok sc_law (fun vs H Q E h => ?_) (fun cdv A outer s H vs Q E hr h => ?_)
  . obtain ⟨a,ns,rfl,_⟩ := h; rfl
  . obtain ⟨a,ns,rfl,hS,hlen,k⟩ := h; have hsz : sizeLine = 16777216 := sizeLine_eq; refine ⟨_,(zjm B hr g__law_at g__law_drawn_call g__law_line_of g__law_refused g__law_same g__law_under_base g_read g_shown).2,?_⟩; have hnl : (ns.map V.int).length = ns.length := List.length_map ..; have hmin : (if ((ns.map V.int).length : Int) < 150 then ((ns.map V.int).length : Int) else 150) = (ns.length : Int) := by rw [hnl,if_pos (by omega)]
    refine ⟨_,rfl,a,_,rfl,.inl hS,_,_,rfl,?_⟩; rw [hmin]
    refine ⟨1,ns.length,rfl,⟨by decide,by decide,by omega,by omega⟩,zgH (lo := 1) (n := ((ns.length : Int) - 1).toNat) (fun D i ys H' => Same H H' /\ H' D = some (.lst ys) /\ ∃ (as : List Addr) (cs : List Call),ys = as.map V.ref /\ as.length = i /\ CallsAt K H' as cs /\ ∀ c ∈ cs,c.Ok) (by omega)
      (fun D hD => ⟨Same.upd hD,zab,[],[],rfl,rfl,⟨rfl,fun i a c h1 _ => by simp at h1⟩,fun c hc => absurd hc (by simp)⟩) (fun D i ys H' h => ⟨h.2.1,?_⟩) ?_ ?_⟩
    . obtain ⟨_,_,as,cs,rfl,h3,_⟩ := h; rw [List.length_map,h3]
    . rintro D i ys H' R hD hi ⟨s1,hDy,as,cs,rfl,hal,hC,hok⟩ hR; obtain ⟨v,hv,hv'⟩ := zcT (xs := ns.map V.int) (i := 1 + (i : Nat)) (by omega) (by rw [hnl]; omega)
      rw [List.getElem?_map] at hv'; obtain ⟨z,_,rfl⟩ := Option.map_eq_some_iff.mp hv'; refine ⟨_,rfl,_,rfl,a,_,_,_,rfl,rfl,s1.seq hS,hv,_,rfl,_,_,rfl,rfl,.inl ⟨by decide,by decide⟩,_,_,rfl,rfl,_,rfl,fun H2 t c s2 hc hco => ?_⟩
      refine hR _ _ (s2 _ _ hDy) ⟨Same.updN (s1.trans s2) hD,zab,as ++ [t],cs ++ [c],by rw [List.map_append]; rfl,by rw [List.length_append,hal]; rfl,((hC.keep s2).snoc hc).updL (s2 _ _ hDy),fun x hx => ?_⟩
      rcases List.mem_append.mp hx with hx | hx
      . exact hok x hx
      . rw [List.mem_singleton.mp hx]; exact hco
    rintro cl ys H1 hcl ⟨s1,hcl1,as,cs,rfl,hal,hC,hok⟩; have hcn : cs.length <= 63 := by rw [<- hC.1,hal]; omega
    have han : as.length <= 63 := by rw [hC.1]; exact hcn
    refine ⟨_,rfl,cl,rfl,⟨_,SqL.of hcl1⟩,zcF (xs := as.map V.ref) (fun D i ys H' => Same H1 H' /\ H' D = some (.lst ys) /\ ys = (cs.take i).map (fun c : Call => V.str c.line) /\ i <= cs.length) (by rw [List.length_map]; omega)
      (fun D hD => ⟨Same.upd hD,zab,rfl,Nat.zero_le _⟩) (fun D i ys H' h => ⟨h.2.1,?_,SqL.of (h.1 _ _ hcl1)⟩) ?_ ?_⟩
    . obtain ⟨_,_,rfl,h3⟩ := h; rw [List.length_map,List.length_take]; omega
    . rintro D i v ys H' R hD hx ⟨s2,hDy,rfl,hi⟩ hR; rw [List.getElem?_map] at hx; obtain ⟨t,hx',rfl⟩ := Option.map_eq_some_iff.mp hx; clear hx; have hx := hx'; have hi2 : i < cs.length := by rw [<- hC.1]; exact (List.getElem?_eq_some_iff.mp hx).1
      have hc := List.getElem?_eq_getElem hi2; refine ⟨_,rfl,t,cs[i],rfl,(hC.2 i t _ hx hc).keep s2,hok _ (List.getElem_mem _),hR _ _ hDy ⟨Same.updN s2 hD,zab,?_,hi2⟩⟩; rw [List.take_add_one,hc,List.map_append]
      rfl
    rintro ll ys H2 hll ⟨s2,hll2,rfl,_⟩; rw [List.length_map,hC.1,List.take_length] at hll2; have hcl2 := s2 _ _ hcl1; have hC2 := hC.keep s2; have s02 := s1.trans s2; refine ⟨_,rfl,cl,_,rfl,.inl (SqL.of hcl2),fun l3 hl3 => ?_⟩; have s3 : Same H2 (upd H2 l3 (.lst (as.map V.ref))) := Same.upd hl3; have q3 : (upd H2 l3 (.lst (as.map V.ref))) l3 = some (.lst (as.map V.ref)) := zab; generalize upd H2 l3 (.lst (as.map V.ref)) = H3 at s3 q3 ⊢; refine ⟨l3,as,cs,rfl,SqL.of q3,hC2.keep s3,by omega,hok,fun H4 fl s4 hfl => ?_⟩
    have s24 := s3.trans s4; have hll4 := s24 _ _ hll2; refine ⟨_,rfl,_,_,_,true,rfl,TyOf.lst hfl,zhv,true,rfl,zbI ?_⟩; refine ⟨_,rfl,fl,_,rfl,.inl (SqL.of hfl),_,rfl,ll,_,rfl,.inl (SqL.of hll4),rfl,_,rfl,zcU (by simp) ?_⟩
    have hcl4 := s24 _ _ hcl2; refine ⟨_,rfl,ll,_,rfl,.inl (SqL.of hll4),_,rfl,by omega,by rw [List.length_map]; omega,zcP (lo := 0) (n := ((cs.map fun c : Call => V.str c.line).length : Int).toNat) (fun i σ H' => H' = H4 /\ ∃ v,σ = [some (.ref a),some (.ref cl),v,some (.ref ll),some (.ref fl),none,none,none,none]) ⟨rfl,none,rfl⟩ ?_ ?_⟩
    . rintro i σ H' hi ⟨rfl,v,rfl⟩; have hi2 : i < cs.length := by simpa using hi
      have hat : atI (cs.map fun c : Call => V.str c.line) (0 + (i : Nat)) = some (.str cs[i].line) := by
        rw [Int.zero_add]; refine zbn ?_; rw [List.getElem?_map,List.getElem?_eq_getElem hi2]
        rfl
      refine ⟨_,rfl,_,rfl,fl,_,_,_,rfl,rfl,SqL.of hfl,hat,_,_,_,true,rfl,TyOf.str _,zht,true,rfl,zbI ?_⟩; exact ⟨_,rfl,_,rfl,fl,_,_,_,rfl,rfl,SqL.of hfl,hat,_,rfl,_,rfl,ll,_,_,_,rfl,rfl,SqL.of hll4,hat,rfl,_,rfl,zcU (by simp) ⟨rfl,_,rfl⟩⟩
    rintro σ H' ⟨rfl,v,rfl⟩; refine ⟨_,rfl,ll,_,rfl,.inl (SqL.of hll4),fun l5 hl5 => ?_⟩; have s5 : Same H' (upd H' l5 (.lst (cs.map fun c : Call => V.str c.line))) := Same.upd hl5; have q5 : (upd H' l5 (.lst (cs.map fun c : Call => V.str c.line))) l5 = some (.lst (cs.map fun c : Call => V.str c.line)) := zab; generalize upd H' l5 (.lst (cs.map fun c : Call => V.str c.line)) = H5 at s5 q5 ⊢; have em : (cs.map fun c : Call => V.str c.line) = (cs.map Call.line).map V.str := by rw [List.map_map]; rfl
    refine ⟨l5,cs.map Call.line,rfl,SqL.of (by rw [<- em]; exact q5),by rw [List.length_map]; omega,fun x hx => ?_,.inl ⟨cs,?_,fun H6 bl bs s6 hbl hB => ?_⟩⟩
    . obtain ⟨c,hc,rfl⟩ := List.mem_map.mp hx; exact zf1 (hok c hc)
    . rw [List.map_map]; exact List.map_congr_left fun c hc => zes (hok c hc)
    have s46 := s5.trans s6; have hll6 := s46 _ _ hll4; have hcl6 := s46 _ _ hcl4; have hC6 := hC2.keep (s24.trans s46); refine ⟨_,rfl,_,_,_,true,rfl,TyOf.lst hbl,zhv,true,rfl,zbI ?_⟩; refine ⟨_,rfl,bl,_,rfl,.inl (SqL.of hbl),_,rfl,cl,_,rfl,.inl (SqL.of hcl6),rfl,_,rfl,zcU (by rw [List.length_map,List.length_map,hB.1,hC.1]; simp) ?_⟩
    refine ⟨_,rfl,cl,_,rfl,.inl (SqL.of hcl6),_,rfl,by omega,by rw [List.length_map]; omega,zcP (lo := 0) (n := ((as.map V.ref).length : Int).toNat) (fun i σ H' => Same H6 H' /\ ∃ v,σ = [some (.ref a),some (.ref cl),v,some (.ref ll),some (.ref fl),some (.ref bl),none,none,none]) ⟨Same.refl _,v,rfl⟩ ?_ ?_⟩
    . rintro i σ H7 hi ⟨s7,v,rfl⟩; have hi2 : i < as.length := by simpa using hi
      have hi3 : i < cs.length := by rw [<- hC.1]; exact hi2
      obtain ⟨x,c,hx,hc,hxc⟩ := hB.at hi3; obtain ⟨y,c',hy,hc',hyc⟩ := hC6.at hi3; rw [hc] at hc'; cases hc'
      have hax : atI (bs.map V.ref) (0 + (i : Nat)) = some (.ref x) := by
        rw [Int.zero_add]; exact zbn (by rw [List.getElem?_map,hx]; rfl)
      have hay : atI (as.map V.ref) (0 + (i : Nat)) = some (.ref y) := by
        rw [Int.zero_add]; exact zbn (by rw [List.getElem?_map,hy]; rfl)
      exact ⟨_,rfl,_,rfl,bl,_,_,_,rfl,rfl,SqL.of (s7 _ _ hbl),hax,_,rfl,_,rfl,cl,_,_,_,rfl,rfl,SqL.of (s7 _ _ hcl6),hay,x,y,c,rfl,hxc.keep s7,hyc.keep s7,hok c (List.mem_of_getElem? hc),fun H8 s8 => ⟨true,rfl,zbI ⟨s7.trans s8,_,rfl⟩⟩⟩
    rintro σ H7 ⟨s7,v',rfl⟩; have hll7 := s7 _ _ hll6; have s07 := s02.trans (s24.trans (s46.trans s7)); refine ⟨nlb rfl,fun pa hpa => ?_⟩; have sA : Same H7 (upd H7 pa (.lst [.str "",.str "0 1 take a",.str "0 1 take a gives",.str "0 1 take a gives ",.str "0 1 take a 1 gives 1"])) := Same.upd hpa; have qA : (upd H7 pa (.lst [.str "",.str "0 1 take a",.str "0 1 take a gives",.str "0 1 take a gives ",.str "0 1 take a 1 gives 1"])) pa = some (.lst [.str "",.str "0 1 take a",.str "0 1 take a gives",.str "0 1 take a gives ",.str "0 1 take a 1 gives 1"]) := zab; generalize upd H7 pa (.lst [.str "",.str "0 1 take a",.str "0 1 take a gives",.str "0 1 take a gives ",.str "0 1 take a 1 gives 1"]) = HA at sA qA ⊢; refine ⟨_,rfl,nlb rfl,fun pb hpb => ?_⟩; have tB : Same HA (upd HA pb (.lst [.str "0 1 put a gives none",.str "0 1 pull a gives none",.str "1 1 take a gives none"])) := Same.upd hpb; have rB : (upd HA pb (.lst [.str "0 1 put a gives none",.str "0 1 pull a gives none",.str "1 1 take a gives none"])) pb = some (.lst [.str "0 1 put a gives none",.str "0 1 pull a gives none",.str "1 1 take a gives none"]) := zab; generalize upd HA pb (.lst [.str "0 1 put a gives none",.str "0 1 pull a gives none",.str "1 1 take a gives none"]) = GB at tB rB ⊢; refine ⟨pa,pb,_,_,rfl,rfl,tB _ _ qA,rB,by decide,fun ob hob => ?_⟩
    have uB := Same.upd (o := .lst ([.str "",.str "0 1 take a",.str "0 1 take a gives",.str "0 1 take a gives ",.str "0 1 take a 1 gives 1"] ++ [.str "0 1 put a gives none",.str "0 1 pull a gives none",.str "1 1 take a gives none"])) hob; have qB : (upd GB ob (.lst ([.str "",.str "0 1 take a",.str "0 1 take a gives",.str "0 1 take a gives ",.str "0 1 take a 1 gives 1"] ++ [.str "0 1 put a gives none",.str "0 1 pull a gives none",.str "1 1 take a gives none"]))) ob = some (.lst [.str "",.str "0 1 take a",.str "0 1 take a gives",.str "0 1 take a gives ",.str "0 1 take a 1 gives 1",.str "0 1 put a gives none",.str "0 1 pull a gives none",.str "1 1 take a gives none"]) := zab; generalize upd GB ob (.lst ([.str "",.str "0 1 take a",.str "0 1 take a gives",.str "0 1 take a gives ",.str "0 1 take a 1 gives 1"] ++ [.str "0 1 put a gives none",.str "0 1 pull a gives none",.str "1 1 take a gives none"])) = HB at uB qB ⊢; have sB := sA.trans (tB.trans uB); refine ⟨_,rfl,nlb rfl,fun pc hpc => ?_⟩; have tC : Same HB (upd HB pc (.lst [.str "1 0 take a gives none",.str "00 1 take a gives none",.str "0 01 take a gives none"])) := Same.upd hpc; have rC : (upd HB pc (.lst [.str "1 0 take a gives none",.str "00 1 take a gives none",.str "0 01 take a gives none"])) pc = some (.lst [.str "1 0 take a gives none",.str "00 1 take a gives none",.str "0 01 take a gives none"]) := zab; generalize upd HB pc (.lst [.str "1 0 take a gives none",.str "00 1 take a gives none",.str "0 01 take a gives none"]) = GC at tC rC ⊢; refine ⟨ob,pc,_,_,rfl,rfl,tC _ _ qB,rC,by decide,fun oc hoc => ?_⟩
    have uC := Same.upd (o := .lst ([.str "",.str "0 1 take a",.str "0 1 take a gives",.str "0 1 take a gives ",.str "0 1 take a 1 gives 1",.str "0 1 put a gives none",.str "0 1 pull a gives none",.str "1 1 take a gives none"] ++ [.str "1 0 take a gives none",.str "00 1 take a gives none",.str "0 01 take a gives none"])) hoc; have qC : (upd GC oc (.lst ([.str "",.str "0 1 take a",.str "0 1 take a gives",.str "0 1 take a gives ",.str "0 1 take a 1 gives 1",.str "0 1 put a gives none",.str "0 1 pull a gives none",.str "1 1 take a gives none"] ++ [.str "1 0 take a gives none",.str "00 1 take a gives none",.str "0 01 take a gives none"]))) oc = some (.lst [.str "",.str "0 1 take a",.str "0 1 take a gives",.str "0 1 take a gives ",.str "0 1 take a 1 gives 1",.str "0 1 put a gives none",.str "0 1 pull a gives none",.str "1 1 take a gives none",.str "1 0 take a gives none",.str "00 1 take a gives none",.str "0 01 take a gives none"]) := zab; generalize upd GC oc (.lst ([.str "",.str "0 1 take a",.str "0 1 take a gives",.str "0 1 take a gives ",.str "0 1 take a 1 gives 1",.str "0 1 put a gives none",.str "0 1 pull a gives none",.str "1 1 take a gives none"] ++ [.str "1 0 take a gives none",.str "00 1 take a gives none",.str "0 01 take a gives none"])) = HC at uC qC ⊢; have sC := sB.trans (tC.trans uC); refine ⟨_,rfl,nlb rfl,fun pd hpd => ?_⟩; have tD : Same HC (upd HC pd (.lst [.str "0 1 take A gives none",.str "0 1 take a give none",.str "0 1 take a gives None"])) := Same.upd hpd; have rD : (upd HC pd (.lst [.str "0 1 take A gives none",.str "0 1 take a give none",.str "0 1 take a gives None"])) pd = some (.lst [.str "0 1 take A gives none",.str "0 1 take a give none",.str "0 1 take a gives None"]) := zab; generalize upd HC pd (.lst [.str "0 1 take A gives none",.str "0 1 take a give none",.str "0 1 take a gives None"]) = GD at tD rD ⊢; refine ⟨oc,pd,_,_,rfl,rfl,tD _ _ qC,rD,by decide,fun od hod => ?_⟩
    have uD := Same.upd (o := .lst ([.str "",.str "0 1 take a",.str "0 1 take a gives",.str "0 1 take a gives ",.str "0 1 take a 1 gives 1",.str "0 1 put a gives none",.str "0 1 pull a gives none",.str "1 1 take a gives none",.str "1 0 take a gives none",.str "00 1 take a gives none",.str "0 01 take a gives none"] ++ [.str "0 1 take A gives none",.str "0 1 take a give none",.str "0 1 take a gives None"])) hod; have qD : (upd GD od (.lst ([.str "",.str "0 1 take a",.str "0 1 take a gives",.str "0 1 take a gives ",.str "0 1 take a 1 gives 1",.str "0 1 put a gives none",.str "0 1 pull a gives none",.str "1 1 take a gives none",.str "1 0 take a gives none",.str "00 1 take a gives none",.str "0 01 take a gives none"] ++ [.str "0 1 take A gives none",.str "0 1 take a give none",.str "0 1 take a gives None"]))) od = some (.lst [.str "",.str "0 1 take a",.str "0 1 take a gives",.str "0 1 take a gives ",.str "0 1 take a 1 gives 1",.str "0 1 put a gives none",.str "0 1 pull a gives none",.str "1 1 take a gives none",.str "1 0 take a gives none",.str "00 1 take a gives none",.str "0 01 take a gives none",.str "0 1 take A gives none",.str "0 1 take a give none",.str "0 1 take a gives None"]) := zab; generalize upd GD od (.lst ([.str "",.str "0 1 take a",.str "0 1 take a gives",.str "0 1 take a gives ",.str "0 1 take a 1 gives 1",.str "0 1 put a gives none",.str "0 1 pull a gives none",.str "1 1 take a gives none",.str "1 0 take a gives none",.str "00 1 take a gives none",.str "0 01 take a gives none"] ++ [.str "0 1 take A gives none",.str "0 1 take a give none",.str "0 1 take a gives None"])) = HD at uD qD ⊢; have sD := sC.trans (tD.trans uD); refine ⟨_,rfl,nlb rfl,fun pe hpe => ?_⟩; have tE : Same HD (upd HD pe (.lst [.str "0 1 take a gives 01",.str "0 1 put a -0 gives none",.str " 0 1 take a gives none"])) := Same.upd hpe; have rE : (upd HD pe (.lst [.str "0 1 take a gives 01",.str "0 1 put a -0 gives none",.str " 0 1 take a gives none"])) pe = some (.lst [.str "0 1 take a gives 01",.str "0 1 put a -0 gives none",.str " 0 1 take a gives none"]) := zab; generalize upd HD pe (.lst [.str "0 1 take a gives 01",.str "0 1 put a -0 gives none",.str " 0 1 take a gives none"]) = GE at tE rE ⊢; refine ⟨od,pe,_,_,rfl,rfl,tE _ _ qD,rE,by decide,fun oe hoe => ?_⟩
    have uE := Same.upd (o := .lst ([.str "",.str "0 1 take a",.str "0 1 take a gives",.str "0 1 take a gives ",.str "0 1 take a 1 gives 1",.str "0 1 put a gives none",.str "0 1 pull a gives none",.str "1 1 take a gives none",.str "1 0 take a gives none",.str "00 1 take a gives none",.str "0 01 take a gives none",.str "0 1 take A gives none",.str "0 1 take a give none",.str "0 1 take a gives None"] ++ [.str "0 1 take a gives 01",.str "0 1 put a -0 gives none",.str " 0 1 take a gives none"])) hoe; have qE : (upd GE oe (.lst ([.str "",.str "0 1 take a",.str "0 1 take a gives",.str "0 1 take a gives ",.str "0 1 take a 1 gives 1",.str "0 1 put a gives none",.str "0 1 pull a gives none",.str "1 1 take a gives none",.str "1 0 take a gives none",.str "00 1 take a gives none",.str "0 01 take a gives none",.str "0 1 take A gives none",.str "0 1 take a give none",.str "0 1 take a gives None"] ++ [.str "0 1 take a gives 01",.str "0 1 put a -0 gives none",.str " 0 1 take a gives none"]))) oe = some (.lst [.str "",.str "0 1 take a",.str "0 1 take a gives",.str "0 1 take a gives ",.str "0 1 take a 1 gives 1",.str "0 1 put a gives none",.str "0 1 pull a gives none",.str "1 1 take a gives none",.str "1 0 take a gives none",.str "00 1 take a gives none",.str "0 01 take a gives none",.str "0 1 take A gives none",.str "0 1 take a give none",.str "0 1 take a gives None",.str "0 1 take a gives 01",.str "0 1 put a -0 gives none",.str " 0 1 take a gives none"]) := zab; generalize upd GE oe (.lst ([.str "",.str "0 1 take a",.str "0 1 take a gives",.str "0 1 take a gives ",.str "0 1 take a 1 gives 1",.str "0 1 put a gives none",.str "0 1 pull a gives none",.str "1 1 take a gives none",.str "1 0 take a gives none",.str "00 1 take a gives none",.str "0 01 take a gives none",.str "0 1 take A gives none",.str "0 1 take a give none",.str "0 1 take a gives None"] ++ [.str "0 1 take a gives 01",.str "0 1 put a -0 gives none",.str " 0 1 take a gives none"])) = HE at uE qE ⊢; have sE := sD.trans (tE.trans uE); refine ⟨_,rfl,nlb rfl,fun pf hpf => ?_⟩; have tF : Same HE (upd HE pf (.lst [.str "0 1 take a gives none ",.str "0  1 take a gives none",.str "0 1 put a none gives none"])) := Same.upd hpf; have rF : (upd HE pf (.lst [.str "0 1 take a gives none ",.str "0  1 take a gives none",.str "0 1 put a none gives none"])) pf = some (.lst [.str "0 1 take a gives none ",.str "0  1 take a gives none",.str "0 1 put a none gives none"]) := zab; generalize upd HE pf (.lst [.str "0 1 take a gives none ",.str "0  1 take a gives none",.str "0 1 put a none gives none"]) = GF at tF rF ⊢; refine ⟨oe,pf,_,_,rfl,rfl,tF _ _ qE,rF,by decide,fun of hof => ?_⟩
    have uF := Same.upd (o := .lst ([.str "",.str "0 1 take a",.str "0 1 take a gives",.str "0 1 take a gives ",.str "0 1 take a 1 gives 1",.str "0 1 put a gives none",.str "0 1 pull a gives none",.str "1 1 take a gives none",.str "1 0 take a gives none",.str "00 1 take a gives none",.str "0 01 take a gives none",.str "0 1 take A gives none",.str "0 1 take a give none",.str "0 1 take a gives None",.str "0 1 take a gives 01",.str "0 1 put a -0 gives none",.str " 0 1 take a gives none"] ++ [.str "0 1 take a gives none ",.str "0  1 take a gives none",.str "0 1 put a none gives none"])) hof; have qF : (upd GF of (.lst ([.str "",.str "0 1 take a",.str "0 1 take a gives",.str "0 1 take a gives ",.str "0 1 take a 1 gives 1",.str "0 1 put a gives none",.str "0 1 pull a gives none",.str "1 1 take a gives none",.str "1 0 take a gives none",.str "00 1 take a gives none",.str "0 01 take a gives none",.str "0 1 take A gives none",.str "0 1 take a give none",.str "0 1 take a gives None",.str "0 1 take a gives 01",.str "0 1 put a -0 gives none",.str " 0 1 take a gives none"] ++ [.str "0 1 take a gives none ",.str "0  1 take a gives none",.str "0 1 put a none gives none"]))) of = some (.lst [.str "",.str "0 1 take a",.str "0 1 take a gives",.str "0 1 take a gives ",.str "0 1 take a 1 gives 1",.str "0 1 put a gives none",.str "0 1 pull a gives none",.str "1 1 take a gives none",.str "1 0 take a gives none",.str "00 1 take a gives none",.str "0 01 take a gives none",.str "0 1 take A gives none",.str "0 1 take a give none",.str "0 1 take a gives None",.str "0 1 take a gives 01",.str "0 1 put a -0 gives none",.str " 0 1 take a gives none",.str "0 1 take a gives none ",.str "0  1 take a gives none",.str "0 1 put a none gives none"]) := zab; generalize upd GF of (.lst ([.str "",.str "0 1 take a",.str "0 1 take a gives",.str "0 1 take a gives ",.str "0 1 take a 1 gives 1",.str "0 1 put a gives none",.str "0 1 pull a gives none",.str "1 1 take a gives none",.str "1 0 take a gives none",.str "00 1 take a gives none",.str "0 01 take a gives none",.str "0 1 take A gives none",.str "0 1 take a give none",.str "0 1 take a gives None",.str "0 1 take a gives 01",.str "0 1 put a -0 gives none",.str " 0 1 take a gives none"] ++ [.str "0 1 take a gives none ",.str "0  1 take a gives none",.str "0 1 put a none gives none"])) = HF at uF qF ⊢; have sF := sE.trans (tF.trans uF); have qF : HF of = some (.lst (bads.map V.str)) := qF; have hll8 := sF _ _ hll7; have s08 := s07.trans sF; refine ⟨_,rfl,a,ns,0,rfl,s08.seq hS,by decide,_,_,rfl,rfl,.inr ⟨by decide,by decide⟩,_,_,rfl,rfl,(by show (0 : Int) < _; first | decide | omega),_,rfl,ll,_,rfl,.inl (SqL.of hll8),_,_,rfl,rfl,_,_,rfl,rfl,(by show (0 : Int) < _; first | decide | omega),?_⟩
    obtain ⟨sp,hsp,hSP⟩ : ∃ sp : Nat,sp <= cs.length /\ (ns.getD (0 : Int).toNat 0 * 48271 % 1049 % (((cs.map fun c : Call => V.str c.line).length : Int) + 1)) = (sp : Int) := by
      have h1 : (cs.map fun c : Call => V.str c.line).length = cs.length := List.length_map ..; have h2 : 0 <= (ns.getD (0 : Int).toNat 0 * 48271 % 1049 % (((cs.map fun c : Call => V.str c.line).length : Int) + 1)) /\ (ns.getD (0 : Int).toNat 0 * 48271 % 1049 % (((cs.map fun c : Call => V.str c.line).length : Int) + 1)) < ((cs.map fun c : Call => V.str c.line).length : Int) + 1 := ⟨Int.emod_nonneg _ (by omega),Int.emod_lt_of_pos _ (by omega)⟩
      exact ⟨((ns.getD (0 : Int).toNat 0 * 48271 % 1049 % (((cs.map fun c : Call => V.str c.line).length : Int) + 1))).toNat,by omega,by omega⟩
    dsimp only; rw [hSP]
    have lk : ∀ x ∈ cs.map Call.line,zcQ x := fun x hx => by
      obtain ⟨c,hc,rfl⟩ := List.mem_map.mp hx; exact zf1 (hok c hc)
    refine ⟨_,rfl,of,rfl,⟨_,SqL.of qF⟩,zfk (K := K) (a := of) (xs := bads.map V.str) (fun i σ H' => Same HF H' /\ ∃ v,σ = [some (.ref a),some (.ref cl),v',some (.ref ll),some (.ref fl),some (.ref bl),some (.ref of),some (.int sp),v]) ⟨Same.refl _,none,rfl⟩ (fun i σ H' _ q => SqL.of (q.1 _ _ qF)) ?_ ?_⟩
    . rintro i x σ H9 hx ⟨s9,v,rfl⟩; rw [List.getElem?_map] at hx; obtain ⟨x,hx',rfl⟩ := Option.map_eq_some_iff.mp hx; clear hx; have hx := hx'; have hxm := List.mem_of_getElem? hx; have hll9 := s9 _ _ hll8; refine ⟨_,rfl,_,rfl,_,rfl,ll,_,rfl,SqL.of hll9,fun p1 hp1 => ?_⟩; rw [zhp (fun c : Call => V.str c.line) cs sp hsp]; have a1 : Same H9 (upd H9 p1 (.lst ((cs.take sp).map fun c : Call => V.str c.line))) := Same.upd hp1; have b1 : (upd H9 p1 (.lst ((cs.take sp).map fun c : Call => V.str c.line))) p1 = some (.lst ((cs.take sp).map fun c : Call => V.str c.line)) := zab; generalize upd H9 p1 (.lst ((cs.take sp).map fun c : Call => V.str c.line)) = J1 at a1 b1 ⊢; refine ⟨_,rfl,nlb rfl,fun p2 hp2 => ?_⟩; have a2 : Same J1 (upd J1 p2 (.lst [.str x])) := Same.upd hp2; have b2 : (upd J1 p2 (.lst [.str x])) p2 = some (.lst [.str x]) := zab; generalize upd J1 p2 (.lst [.str x]) = J2 at a2 b2 ⊢; have hl1 : ((cs.take sp).map fun c : Call => V.str c.line).length <= 63 := by rw [List.length_map,List.length_take]; omega
      have hl2 : ((cs.drop sp).map fun c : Call => V.str c.line).length <= 63 := by rw [List.length_map,List.length_drop]; omega
      refine ⟨p1,p2,_,_,rfl,rfl,a2 _ _ b1,b2,by show _ + 1 <= _; omega,fun p3 hp3 => ?_⟩
      have a3 := Same.upd (o := .lst (((cs.take sp).map fun c : Call => V.str c.line) ++ [.str x])) hp3; have b3 : (upd J2 p3 (.lst (((cs.take sp).map fun c : Call => V.str c.line) ++ [.str x]))) p3 = some (.lst (((cs.take sp).map fun c : Call => V.str c.line) ++ [.str x])) := zab; generalize upd J2 p3 (.lst (((cs.take sp).map fun c : Call => V.str c.line) ++ [.str x])) = J3 at a3 b3 ⊢; have a13 := a1.trans (a2.trans a3); refine ⟨_,rfl,_,rfl,_,rfl,ll,_,rfl,SqL.of (a13 _ _ hll9),fun p4 hp4 => ?_⟩; rw [zha (fun c : Call => V.str c.line) cs sp hsp]; have a4 : Same J3 (upd J3 p4 (.lst ((cs.drop sp).map fun c : Call => V.str c.line))) := Same.upd hp4; have b4 : (upd J3 p4 (.lst ((cs.drop sp).map fun c : Call => V.str c.line))) p4 = some (.lst ((cs.drop sp).map fun c : Call => V.str c.line)) := zab; generalize upd J3 p4 (.lst ((cs.drop sp).map fun c : Call => V.str c.line)) = J4 at a4 b4 ⊢; refine ⟨p3,p4,_,_,rfl,rfl,a4 _ _ b3,b4,by rw [List.length_append]; show _ + 1 + _ <= _; omega,fun p5 hp5 => ?_⟩
      have a5 := Same.upd (o := .lst (((cs.take sp).map fun c : Call => V.str c.line) ++ [.str x] ++ ((cs.drop sp).map fun c : Call => V.str c.line))) hp5
      have e5 : ((cs.take sp).map fun c : Call => V.str c.line) ++ [.str x] ++ ((cs.drop sp).map fun c : Call => V.str c.line) = ((cs.take sp).map Call.line ++ [x] ++ (cs.drop sp).map Call.line).map V.str := by
        rw [List.map_append,List.map_append,List.map_map,List.map_map]
        rfl
      have b5 : (upd J4 p5 (.lst (((cs.take sp).map fun c : Call => V.str c.line) ++ [.str x] ++ ((cs.drop sp).map fun c : Call => V.str c.line)))) p5 = some (.lst (((cs.take sp).map Call.line ++ [x] ++ (cs.drop sp).map Call.line).map V.str)) := by rw [<- e5]; exact zab
      generalize upd J4 p5 (.lst (((cs.take sp).map fun c : Call => V.str c.line) ++ [.str x] ++ ((cs.drop sp).map fun c : Call => V.str c.line))) = J5 at a5 b5 ⊢; have a15 := a13.trans (a4.trans a5); refine ⟨p5,(cs.take sp).map Call.line ++ [x] ++ (cs.drop sp).map Call.line,rfl,SqL.of b5,?_,fun y hy => ?_,⟨x,by simp,ze5 x hxm⟩,fun J6 a6 => ⟨true,rfl,zbI ?_⟩⟩
      . simp only [List.length_append,List.length_map,List.length_cons,List.length_nil] at hl1 hl2 ⊢; omega
      . simp only [List.mem_append,List.mem_singleton] at hy
        rcases hy with (hy | rfl) | hy
        . exact lk y (by rw [List.map_take] at hy; exact List.mem_of_mem_take hy)
        . exact zgZ y hxm
        . exact lk y (by rw [List.map_drop] at hy; exact List.mem_of_mem_drop hy)
      have hll10 := (a15.trans a6) _ _ hll9; refine ⟨_,rfl,nlb rfl,fun p6 hp6 => ?_⟩; have c1 : Same J6 (upd J6 p6 (.lst [.str x])) := Same.upd hp6; have d1 : (upd J6 p6 (.lst [.str x])) p6 = some (.lst [.str x]) := zab; generalize upd J6 p6 (.lst [.str x]) = M1 at c1 d1 ⊢; refine ⟨_,rfl,_,rfl,ll,_,rfl,SqL.of (c1 _ _ hll10),fun p7 hp7 => ?_⟩; rw [zhk (fun c : Call => V.str c.line) cs]; have c2 : Same M1 (upd M1 p7 (.lst ((cs.take 2).map fun c : Call => V.str c.line))) := Same.upd hp7; have d2 : (upd M1 p7 (.lst ((cs.take 2).map fun c : Call => V.str c.line))) p7 = some (.lst ((cs.take 2).map fun c : Call => V.str c.line)) := zab; generalize upd M1 p7 (.lst ((cs.take 2).map fun c : Call => V.str c.line)) = M2 at c2 d2 ⊢; have hl3 : ((cs.take 2).map fun c : Call => V.str c.line).length <= 2 := by rw [List.length_map,List.length_take]; omega
      refine ⟨p6,p7,_,_,rfl,rfl,c2 _ _ d1,d2,by show 1 + _ <= _; omega,fun p8 hp8 => ?_⟩
      have c3 := Same.upd (o := .lst ([.str x] ++ ((cs.take 2).map fun c : Call => V.str c.line))) hp8
      have e6 : [V.str x] ++ ((cs.take 2).map fun c : Call => V.str c.line) = ([x] ++ (cs.take 2).map Call.line).map V.str := by
        rw [List.map_append,List.map_map]
        rfl
      have d3 : (upd M2 p8 (.lst ([.str x] ++ ((cs.take 2).map fun c : Call => V.str c.line)))) p8 = some (.lst (([x] ++ (cs.take 2).map Call.line).map V.str)) := by rw [<- e6]; exact zab
      generalize upd M2 p8 (.lst ([.str x] ++ ((cs.take 2).map fun c : Call => V.str c.line))) = M3 at c3 d3 ⊢; refine ⟨p8,[x] ++ (cs.take 2).map Call.line,rfl,SqL.of d3,?_,fun y hy => ?_,⟨x,by simp,ze5 x hxm⟩,fun M4 c4 => ⟨true,rfl,zbI ?_⟩⟩
      . simp only [List.length_append,List.length_map,List.length_cons,List.length_nil] at hl3 ⊢; omega
      . simp only [List.mem_append,List.mem_singleton] at hy
        rcases hy with rfl | hy
        . exact zgZ y hxm
        . exact lk y (by rw [List.map_take] at hy; exact List.mem_of_mem_take hy)
      exact ⟨s9.trans (a15.trans (a6.trans (c1.trans (c2.trans (c3.trans c4))))),_,rfl⟩
    . rintro σ H9 ⟨s9,v,rfl⟩; exact k _
end
theorem tp_mk {P : Program} {w : World} {K : Fg} {h : Heap} {mg : Str -> Option Value} (X : K.In h) (G : h.Ns mainGlobals mg) {st pt r nl oe n th b : Addr} {t1 t2 t3 ne tl tf : Nat} {its : List ((Str × Nat) × (Str × Nat) × Addr × Value)} {np : Nat}
    (aS : PySem.W.nsIn K mainGlobals "STARTS" = some (some (.ref st))) (aP : PySem.W.nsIn K mainGlobals "PARTS" = some (some (.ref pt))) (aLt : PySem.W.nsIn K mainGlobals "LETTERS" = some (some (.str letters tl))) (aFg : PySem.W.nsIn K mainGlobals "FIGURES" = some (some (.str figures tf)))
    (aL : PySem.W.nsIn K mainGlobals "NoLine" = some (some (.ref nl))) (aO : PySem.W.nsIn K mainGlobals "OrderError" = some (some (.ref oe))) (aN : PySem.W.nsIn K mainGlobals "NoKind" = some (some (.ref n))) (aT : PySem.W.nsIn K mainGlobals "NoThing" = some (some (.ref th))) (aB : PySem.W.nsIn K mainGlobals "BadCall" = some (some (.ref b))) (aV : PySem.W.nsIn K mainGlobals "ValueError" = some none)
    (lS : K.lookup st = some ⟨.type "dict",none,.dict #[⟨PyData.keyHash w.params "row",.str "row" t1,.ref r⟩,⟨PyData.keyHash w.params "number",.str "number" t2,.int 0 t3⟩] ne,#[]⟩)
    (hS : (st == sysModules) = false) (hP : (pt == sysModules) = false)
    (lP : K.lookup pt = some ⟨.type "dict",none,.dict (its.map fun x => (⟨reduceHash (Builtin.Tuple.tupleHashOf [PyData.keyHash w.params x.1.1,PyData.keyHash w.params x.2.1.1]),.ref x.2.2.1,x.2.2.2⟩ : DictEntry)).toArray np,#[]⟩)
    (hit : ∀ x ∈ its,K.lookup x.2.2.1 = some ⟨.type "tuple",none,.seq #[.str x.1.1 x.1.2,.str x.2.1.1 x.2.1.2] 0,#[]⟩)
    (hk : Paired (fun (p : List Key × V) (q : List Key × Addr × Value) => p.1 = q.1 /\ RelV p.2 q.2.2) zcu (its.map fun x => ([(Sum.inr x.1.1 : Key),Sum.inr x.2.1.1],x.2.2.1,x.2.2.2))) (nd : (its.map fun x => (x.1.1,x.2.1.1)).Nodup)
    (xL : PySem.W.excIn K nl [.type "ValueError",.type "Exception",.type "BaseException",.type "object"] "ValueError.__new__" = true)
    (e1 : PySem.W.exmOne K (.ref nl) (.ref nl) = some true) (e2 : PySem.W.exmOne K (.ref nl) (.ref oe) = some true) (xl : HT.excCls K nl = true)
    (k1 : PySem.W.kitOne K (.ref nl) (.ref n) = some false) (k2 : PySem.W.kitOne K (.ref nl) (.ref th) = some false) (k3 : PySem.W.kitOne K (.ref nl) (.ref b) = some false) (k4 : PySem.W.kitOne K (.ref nl) (.ref nl) = some true) (k5 : PySem.W.kitOne K (.ref nl) (.type "ValueError") = some true) : Tp P w K mg st pt nl oe n th b where
  mST := PySem.W.mg_of X G aS
  mPT := PySem.W.mg_of X G aP
  tST := ⟨hS,by decide,_,_,_,lS,⟨rfl,rfl,rfl⟩,rfl,rfl,fun i k hk => by
    match i,hk with
    | 0,hk => exact ⟨_,rfl,by cases (Option.some.inj hk); exact ⟨_,rfl⟩⟩
    | 1,hk => exact ⟨_,rfl,by cases (Option.some.inj hk); exact ⟨_,rfl⟩⟩⟩
  tPT := zfM lP hit hP hk nd
  mLT := ⟨_,PySem.W.mg_of X G aLt⟩
  mFG := ⟨_,PySem.W.mg_of X G aFg⟩
  kL := ⟨PySem.W.mg_of X G aL,xL⟩
  mO := PySem.W.mg_of X G aO
  mN := PySem.W.mg_of X G aN
  mT := PySem.W.mg_of X G aT
  mB := PySem.W.mg_of X G aB
  mV := PySem.W.mg_none_of X G aV
  e1 := e1
  e2 := e2
  xl := xl
  k1 := k1
  k2 := k2
  k3 := k3
  k4 := k4
  k5 := k5
theorem all_mk {l : PySem.W.OpenLaw} {w : World} {K : Fg} {h : Heap} {mg : Str -> Option Value} {fa : Addr} (X : K.In h) (G : h.Ns mainGlobals mg) (hfa : mg "law" = some (.ref fa)) {st pt nl oe n th b : Addr} (T : Tp l.prog w K mg st pt nl oe n th b)
    {f0 f1 f2 f3 f4 f5 f6 f7 f8 f9 f10 f11 f12 f13 f14 f15 f16 f17 f18 f19 f20 f21 f22 : Addr} {d0 d1 d2 d3 d4 d5 d6 d7 d8 d9 d10 d11 d12 d13 d14 d15 d16 d17 d18 d19 d20 d21 d22 : FuncData}
    (a0 : FnAt K "is_whole_number" za7 f0 d0)
    (a1 : FnAt K "has_parts" zb2 f1 d1)
    (a2 : FnAt K "can_do" zdw f2 d2)
    (a3 : FnAt K "some_kind_can_do" zaL f3 d3)
    (a4 : FnAt K "check_times" zbB f4 d4)
    (a5 : FnAt K "has_only" zbN f5 d5)
    (a6 : FnAt K "is_written_thing" zaV f6 d6)
    (a7 : FnAt K "is_written_number" zaP f7 d7)
    (a8 : FnAt K "read_number" zbC f8 d8)
    (a9 : FnAt K "read_deed" zbt f9 d9)
    (a10 : FnAt K "read_answer" zbA f10 d10)
    (a11 : FnAt K "read_line" zbX f11 d11)
    (a12 : FnAt K "read" zeB f12 d12)
    (a13 : FnAt K "shown_call" zbm f13 d13)
    (a14 : FnAt K "shown" zdm f14 d14)
    (a15 : FnAt K "_law_whole" zbL f15 d15)
    (a16 : FnAt K "_law_at" zcV f16 d16)
    (a17 : FnAt K "_law_refused" zbo f17 d17)
    (a18 : FnAt K "_law_under_base" za3 f18 d18)
    (a19 : FnAt K "_law_drawn_call" za4 f19 d19)
    (a20 : FnAt K "_law_line_of" zbq f20 d20)
    (a21 : FnAt K "_law_same" zbZ f21 d21)
    (a22 : FnAt K "law" zc8 f22 d22)
    (z_all : PySem.W.nsIn K mainGlobals "all" = some none)
    (z_any : PySem.W.nsIn K mainGlobals "any" = some none)
    (z_bool : PySem.W.nsIn K mainGlobals "bool" = some none)
    (z_int : PySem.W.nsIn K mainGlobals "int" = some none)
    (z_isinstance : PySem.W.nsIn K mainGlobals "isinstance" = some none)
    (z_len : PySem.W.nsIn K mainGlobals "len" = some none)
    (z_list : PySem.W.nsIn K mainGlobals "list" = some none)
    (z_min : PySem.W.nsIn K mainGlobals "min" = some none)
    (z_range : PySem.W.nsIn K mainGlobals "range" = some none)
    (z_str : PySem.W.nsIn K mainGlobals "str" = some none)
    (z_tuple : PySem.W.nsIn K mainGlobals "tuple" = some none)
    : ∃ fd : FuncData,(∀ (s : Shared) (v : Value),BindsTo s fd ⟨[v],[]⟩ [("_law_script",v)]) /\ ∀ base : Heap,K.In base -> base.Ns mainGlobals mg -> FnOk l.prog w K mg base CX0 40 fa fd ["_law_script"] (zfT K) := by
  have e := hfa.symm.trans (PySem.W.mg_of X G a22.ns); cases e; have B : Bl mg := ⟨PySem.W.mg_none_of X G z_all,PySem.W.mg_none_of X G z_any,PySem.W.mg_none_of X G z_bool,PySem.W.mg_none_of X G z_int,PySem.W.mg_none_of X G z_isinstance,PySem.W.mg_none_of X G z_len,PySem.W.mg_none_of X G z_list,PySem.W.mg_none_of X G z_min,PySem.W.mg_none_of X G z_range,PySem.W.mg_none_of X G z_str,PySem.W.mg_none_of X G z_tuple⟩; obtain ⟨oc2,od2,kV2,doc2,pm2,an2,cdv2,ct2,osl2,e2,lk2,hcd2⟩ := a22.fn.ex; refine ⟨d22,fun s v => by subst e2; exact .of_eq rfl,fun base _ _ => ?_⟩
  have g_is_whole_number := a0.g X G (zcr (P := l.prog) (w := w) (base := base) a0.fn B ) (bt1 fun _ _ _ _ _ _ _ => rfl); have g_has_parts := a1.g X G (zeQ (P := l.prog) (w := w) (base := base) a1.fn B g_is_whole_number) (bt2 fun _ _ _ _ _ _ _ _ => rfl); have g_can_do := a2.g X G (zgl (P := l.prog) (w := w) (base := base) a2.fn B T g_has_parts) (bt2 fun _ _ _ _ _ _ _ _ => rfl); have g_some_kind_can_do := a3.g X G (zci (P := l.prog) (w := w) (base := base) a3.fn B T g_can_do) (bt1 fun _ _ _ _ _ _ _ => rfl); have g_check_times := a4.g X G (zdQ (P := l.prog) (w := w) (base := base) a4.fn B ) (bt1 fun _ _ _ _ _ _ _ => rfl); have g_has_only := a5.g X G (ze9 (P := l.prog) (w := w) (base := base) a5.fn B ) (bt2 fun _ _ _ _ _ _ _ _ => rfl); have g_is_written_thing := a6.g X G (zcf (P := l.prog) (w := w) (base := base) a6.fn B T g_has_only) (bt1 fun _ _ _ _ _ _ _ => rfl); have g_is_written_number := a7.g X G (zbU (P := l.prog) (w := w) (base := base) a7.fn B T g_has_only) (bt1 fun _ _ _ _ _ _ _ => rfl); have g_read_number := a8.gX X G (zdO (P := l.prog) (w := w) (base := base) a8.fn B T g_is_written_number) (bt1 fun _ _ _ _ _ _ _ => rfl); have g_read_deed := a9.gX X G (zeD (P := l.prog) (w := w) (base := base) a9.fn B T g_is_written_thing g_read_number g_some_kind_can_do) (bt1 fun _ _ _ _ _ _ _ => rfl); have g_read_answer := a10.gX X G (zdK (P := l.prog) (w := w) (base := base) a10.fn B g_read_number) (bt1 fun _ _ _ _ _ _ _ => rfl); have g_read_line := a11.gX X G (zeZ (P := l.prog) (w := w) (base := base) a11.fn B T g_read_answer g_read_deed g_read_number) (bt1 fun _ _ _ _ _ _ _ => rfl); have g_read := a12.gX X G (zh1 (P := l.prog) (w := w) (base := base) a12.fn B g_read_line) (bt1 fun _ _ _ _ _ _ _ => rfl); have g_shown_call := a13.g X G (zd6 (P := l.prog) (w := w) (base := base) a13.fn B g_check_times g_is_written_thing g_some_kind_can_do) (bt1 fun _ _ _ _ _ _ _ => rfl); have g_shown := a14.g X G (zhz (P := l.prog) (w := w) (base := base) a14.fn B g_shown_call) (bt1 fun _ _ _ _ _ _ _ => rfl); have g__law_whole := a15.g X G (zd1 (P := l.prog) (w := w) (base := base) a15.fn B ) (bt1 fun _ _ _ _ _ _ _ => rfl); have g__law_at := a16.g X G (zft (P := l.prog) (w := w) (base := base) a16.fn B ) (bt2 fun _ _ _ _ _ _ _ _ => rfl); have g__law_refused := a17.g X G (zdg (P := l.prog) (w := w) (base := base) a17.fn B T g_read) (bt1 fun _ _ _ _ _ _ _ => rfl); have g__law_under_base := a18.g X G (zcv (P := l.prog) (w := w) (base := base) a18.fn B T g_read) (bt1 fun _ _ _ _ _ _ _ => rfl); have g__law_drawn_call := a19.g X G (zcq (P := l.prog) (w := w) (base := base) a19.fn B ) (bt1 fun _ _ _ _ _ _ _ => rfl); have g__law_line_of := a20.g X G (zdi (P := l.prog) (w := w) (base := base) a20.fn B ) (bt1 fun _ _ _ _ _ _ _ => rfl)
  have g__law_same := a21.g X G (zez (P := l.prog) (w := w) (base := base) a21.fn B g__law_whole) (bt2 fun _ _ _ _ _ _ _ _ => rfl); exact (ziI a22.fn B g__law_at g__law_drawn_call g__law_line_of g__law_refused g__law_same g__law_under_base g_read g_shown).mono (by decide)
theorem walk {l : PySem.W.OpenLaw} {q : Program} {loose : List Str} {XP : (Str -> Option Value) -> Heap -> Prop} {YP : World -> Heap -> Prop} {d : DefRec} {K : Params -> PySem.W.Frag} (hn : l.most = some 63) (hdf : d.params.defaults = [])
    (hY : ∀ (w : World) (h : Heap),YP w h -> (K w.params).In h)
    (F : ∀ (w : World) (mg : Str -> Option Value) (fa : Addr) (h : Heap),(K w.params).In h -> h.Ns mainGlobals mg -> mg d.name = some (.ref fa) →
      ∃ fd : FuncData,(∀ (s : Shared) (u : Value),BindsTo s fd ⟨[u],[]⟩ [("_law_script",u)]) /\ ∀ base : Heap,(K w.params).In base -> base.Ns mainGlobals mg -> FnOk l.prog w (K w.params) mg base CX0 40 fa fd ["_law_script"] (zfT (K w.params))) :
    PySem.W.WalkO q loose XP YP l.row.toRowW d [] (fun f vs => PySem.call f vs) :=
  L2.walk_of (n := 63) (k := 40) (x := "_law_script") (CX := fun _ => CX0) (sp := fun w => zfT (K w.params)) hn (by decide) hdf ⟨rfl,by decide,by decide,rfl⟩ hY F (fun _ _ a ns hl _ hS => ⟨a,ns,rfl,hS,hl,fun _ => rfl⟩) fun _ _ _ _ _ z => z
end My
open PySem PySem.W PyProof.Rows
set_option maxRecDepth 100000 in
set_option maxHeartbeats 0 in
theorem PySem.Challenge.cw_callorder_k12_calls_on_lines_holds : PySem.Challenge.rw_callorder_k12_calls_on_lines.Holds := by
  w_on; o_law
  refine holds_open (q := HD.q0) (loose := HD.loose0) (Xt := HD.Xt0) (XP := XL HD.q0 []) (Yf := Hook.obs HD.hk) (Ya := Hook.val HD.hk) (YP := Hook.says HD.hk) HD.left0 (Hook.of HD.hk) (Hook.keeps HD.hk) (fun s e => xl_of s (Bool.and_eq_true_iff.mp e).1) XL.keeps (by rfl) (by rfl) (by rfl) (fun s e => recFacts_of (Bool.and_eq_true_iff.mp e).2) (by rfl) (by first | assumption | decide +kernel) (by decide +kernel) ⟨rfl,rfl,rfl,rfl,rfl,by decide +kernel⟩ ?hw ?hc
  (case hw => w_witness2)
  k_fill
  refine My.walk (l := PySem.Challenge.rw_callorder_k12_calls_on_lines) rfl rfl (fun w h Y => PySem.W.kIn_of Y) ?F
  case F =>
    intro w mg fa h KX G hmg
    have T := My.tp_mk (P := PySem.Challenge.rw_callorder_k12_calls_on_lines.prog) (w := w) KX G (st := 76) (pt := 78) (r := 77) (its := [(("row",279),("put",280),79,.int 3 281),(("row",282),("take",283),80,.int 2 284),(("row",285),("look",286),81,.int 2 287),(("number",288),("set",289),82,.int 3 290),(("number",291),("add",292),83,.int 3 293),(("number",294),("look",295),84,.int 2 296)])
      rfl rfl rfl rfl rfl rfl rfl rfl rfl rfl rfl (by decide) (by decide) rfl
      (fun x hx => by
        simp only [List.mem_cons,List.not_mem_nil,or_false] at hx
        rcases hx with rfl | rfl | rfl | rfl | rfl | rfl <;> rfl)
      (.cons ⟨rfl,_,rfl⟩ (.cons ⟨rfl,_,rfl⟩ (.cons ⟨rfl,_,rfl⟩ (.cons ⟨rfl,_,rfl⟩ (.cons ⟨rfl,_,rfl⟩ (.cons ⟨rfl,_,rfl⟩ .nil)))))) (by decide) (by kernel_rfl) (by kernel_rfl) (by kernel_rfl) (by kernel_rfl) (by kernel_rfl) (by kernel_rfl) (by kernel_rfl) (by kernel_rfl) (by kernel_rfl)
    refine' My.all_mk KX G hmg T ?a0 ?a1 ?a2 ?a3 ?a4 ?a5 ?a6 ?a7 ?a8 ?a9 ?a10 ?a11 ?a12 ?a13 ?a14 ?a15 ?a16 ?a17 ?a18 ?a19 ?a20 ?a21 ?a22 ?z_all ?z_any ?z_bool ?z_int ?z_isinstance ?z_len ?z_list ?z_min ?z_range ?z_str ?z_tuple
    (case a0 => exact L2.fnAt rfl rfl rfl rfl)
    (case a1 => exact L2.fnAt rfl rfl rfl rfl)
    (case a2 => exact L2.fnAt rfl rfl rfl rfl)
    (case a3 => exact L2.fnAt rfl rfl rfl rfl)
    (case a4 => exact L2.fnAt rfl rfl rfl rfl)
    (case a5 => exact L2.fnAt rfl rfl rfl rfl)
    (case a6 => exact L2.fnAt rfl rfl rfl rfl)
    (case a7 => exact L2.fnAt rfl rfl rfl rfl)
    (case a8 => exact L2.fnAt rfl rfl rfl rfl)
    (case a9 => exact L2.fnAt rfl rfl rfl rfl)
    (case a10 => exact L2.fnAt rfl rfl rfl rfl)
    (case a11 => exact L2.fnAt rfl rfl rfl rfl)
    (case a12 => exact L2.fnAt rfl rfl rfl rfl)
    (case a13 => exact L2.fnAt rfl rfl rfl rfl)
    (case a14 => exact L2.fnAt rfl rfl rfl rfl)
    (case a15 => exact L2.fnAt rfl rfl rfl rfl)
    (case a16 => exact L2.fnAt rfl rfl rfl rfl)
    (case a17 => exact L2.fnAt rfl rfl rfl rfl)
    (case a18 => exact L2.fnAt rfl rfl rfl rfl)
    (case a19 => exact L2.fnAt rfl rfl rfl rfl)
    (case a20 => exact L2.fnAt rfl rfl rfl rfl)
    (case a21 => exact L2.fnAt rfl rfl rfl rfl)
    (case a22 => exact L2.fnAt rfl rfl rfl rfl)
    (case z_all => exact rfl)
    (case z_any => exact rfl)
    (case z_bool => exact rfl)
    (case z_int => exact rfl)
    (case z_isinstance => exact rfl)
    (case z_len => exact rfl)
    (case z_list => exact rfl)
    (case z_min => exact rfl)
    (case z_range => exact rfl)
    (case z_str => exact rfl)
    (case z_tuple => exact rfl)
