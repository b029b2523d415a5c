import PyProof.Rows.All
import Wide.All
import OpenK.AllK
import Wide.FinOn
import PyProof.EqAt
import PyProof.EqKinds
import PyProof.TupleCall
import KE.BitLaws
import Open.SpecLaws
import KE.OsHead
import KE.OsGo
import KE.SpHead
import KE.OsShapes
import KwcSpec
import PyKwc
import KE.KLam
import PySem.Challenge.RW_weathercode_s04_first
section
set_option Elab.async false
set_option linter.all false
set_option maxRecDepth 100000
namespace L2
open PySem PySem.Spec PyProof.Rows
abbrev Key := Sum Int Str
def keyIs : Key -> Value -> Bool
 | .inl k, v => Value.isInt k v
 | .inr x, v => Value.isStrOf x v
def keyH (w : World) : Key -> Int
 | .inl k => hashInt k
 | .inr x => hashStr w x
theorem keyIs_shape : ∀ {k : Key} {v : Value}, keyIs k v = true -> (∃ i t, k = Sum.inl i /\ v = Value.int i t) \/ (∃ x t, k = Sum.inr x /\ v = Value.str x t)
 | .inl i, v, h => by
  obtain ⟨t, e⟩ := Value.isInt_shape (k := i) (v := v) h
  exact .inl ⟨i, t, rfl, e⟩
 | .inr x, v, h => by
  obtain ⟨t, e⟩ := Value.isStrOf_shape (x := x) (v := v) h
  exact .inr ⟨x, t, rfl, e⟩
theorem keyIs_int (i : Int) (t : Tok) : keyIs (.inl i) (.int i t) = true := by simp [keyIs, Value.isInt]
theorem keyIs_str (x : Str) (t : Tok) : keyIs (.inr x) (.str x t) = true := by simp [keyIs, Value.isStrOf]
theorem key_ll (a b : Int) : decide ((Sum.inl a : Key) = Sum.inl b) = (a == b) := by
 by_cases e : a = b
 ·subst e; simp
 ·have h : ¬ (Sum.inl a : Key) = Sum.inl b := fun q => e (Sum.inl.inj q)
  rw [decide_eq_false h]
  exact (beq_eq_false_iff_ne.mpr e).symm
theorem key_rr (a b : Str) : decide ((Sum.inr a : Key) = Sum.inr b) = decide (a = b) := by
 by_cases e : a = b
 ·subst e; simp
 ·have h : ¬ (Sum.inr a : Key) = Sum.inr b := fun q => e (Sum.inr.inj q)
  rw [decide_eq_false h, decide_eq_false e]
theorem key_lr (a : Int) (b : Str) : decide ((Sum.inl a : Key) = Sum.inr b) = false := decide_eq_false (fun q => nomatch q)
theorem key_rl (a : Str) (b : Int) : decide ((Sum.inr a : Key) = Sum.inl b) = false := decide_eq_false (fun q => nomatch q)
def mixKind (prog : Program) (w : World) : PySem.KeyKind prog w Key where
 is := keyIs
 hash := keyH w
 inj := fun v a b ha hb => by
  rcases keyIs_shape ha with ⟨i, t, rfl, rfl⟩ | ⟨x, t, rfl, rfl⟩
  ·rcases keyIs_shape hb with ⟨j, u, rfl, e⟩ | ⟨y, u, rfl, e⟩
   ·injection e with e1 _; rw [e1]
   ·exact nomatch e
  ·rcases keyIs_shape hb with ⟨j, u, rfl, e⟩ | ⟨y, u, rfl, e⟩
   ·exact nomatch e
   ·injection e with e1 _; rw [e1]
 byValue := fun k v h => by
  rcases keyIs_shape h with ⟨i, t, rfl, rfl⟩ | ⟨x, t, rfl, rfl⟩ <;> rfl
 pyHash := fun hv h => by
  rcases keyIs_shape hv with ⟨i, t, rfl, rfl⟩ | ⟨x, t, rfl, rfl⟩
  ·exact wpAny_pyHash_int h
  ·exact wpAny_pyHash_str h
 eqBool := fun hu hv h => by
  rcases keyIs_shape hu with ⟨i, t, rfl, rfl⟩ | ⟨x, t, rfl, rfl⟩
  ·rcases keyIs_shape hv with ⟨j, u, rfl, rfl⟩ | ⟨y, u, rfl, rfl⟩
   ·rw [key_ll] at h; exact wpAny_eqBool_int h
   ·rw [key_lr] at h; exact SeqAt.EqAt.int_str i t y u _ _ _ _ h
  ·rcases keyIs_shape hv with ⟨j, u, rfl, rfl⟩ | ⟨y, u, rfl, rfl⟩
   ·rw [key_rl] at h; exact SeqAt.EqAt.str_int x t j u _ _ _ _ h
   ·rw [key_rr] at h; exact wpAny_eqBool_str h
 «strs» := fun k x t v h => by
  rcases keyIs_shape h with ⟨i, u, rfl, e⟩ | ⟨y, u, rfl, e⟩
  ·exact nomatch e
  ·injection e with e1 _
   subst e1
   cases v <;> rfl
theorem mixKind_int (prog : Program) (w : World) (i : Int) (t : Tok) : (mixKind prog w).is (.inl i) (.int i t) = true := keyIs_int i t
theorem mixKind_str (prog : Program) (w : World) (x : Str) (t : Tok) : (mixKind prog w).is (.inr x) (.str x t) = true := keyIs_str x t
end L2
namespace L2
open PySem PySem.Spec PyProof.Rows
inductive V where
 | non | bl (b : Bool) | int (i : Int) | str (x : Str) | byt (b : Array UInt8) | flt (b : UInt64) | ref (a : Addr) | ty (n : String)
 deriving DecidableEq
def RelV : V -> Value -> Prop
 | .non, u => u = Value.none
 | .bl b, u => u = Value.bool b
 | .int i, u => ∃ t, u = Value.int i t
 | .str x, u => ∃ t, u = Value.str x t
 | .byt b, u => ∃ t, u = Value.bytes b t
 | .flt b, u => ∃ t, u = Value.float b t
 | .ref a, u => u = Value.ref a
 | .ty n, u => u = Value.type n
abbrev Vals : List V -> List Value -> Prop := Paired RelV
theorem Vals.length {xs : List V} {us : List Value} (r : Vals xs us) : xs.length = us.length := Paired.length r
theorem Vals.get : ∀ {xs : List V} {us : List Value} {i : Nat} {x : V}, Vals xs us -> xs[i]? = some x -> ∃ u, us[i]? = some u /\ RelV x u
 | _, _, _, _, .nil, e => by simp at e
 | _, _, 0, _, .cons r _, e => by simp at e; subst e; exact ⟨_, rfl, r⟩
 | _, _, i + 1, x, .cons _ t, e => by
  obtain ⟨u, h1, h2⟩ := Vals.get (i := i) (x := x) t (by simpa using e)
  exact ⟨u, by simpa using h1, h2⟩
theorem Vals.append : ∀ {xs ys : List V} {us ws : List Value}, Vals xs us -> Vals ys ws -> Vals (xs ++ ys) (us ++ ws)
 | _, _, _, _, .nil, s => s
 | _, _, _, _, .cons r t, s => .cons r (Vals.append t s)
def RelO : Option V -> Option Value -> Prop
 | some v, some u => RelV v u
 | none, none => True
 | _, _ => False
def KV {κ : Type} : List (κ × V) -> List (κ × Value) -> Prop := Paired fun (p : κ × V) (q : κ × Value) => p.1 = q.1 /\ RelV p.2 q.2
def kV : Key -> V
 | .inl i => .int i
 | .inr x => .str x
inductive HO where
 /-- a list -/
 | lst (xs : List V)
 /-- a tuple (never changes) -/
 | tup (xs : List V)
 /-- a dict whose keys are ints and texts; one whose keys are tuples of ints and texts (the empty one is both) -/
 | dK (kvs : List (Key × V)) | dT (kvs : List (List Key × V))
 /-- a set of ints: its members, its size -/
 | set (S : Int -> Bool) (n : Nat)
 /-- an instance of the class at C, its dict at dx, its attributes -/
 | ins (C dx : Addr) (fs : List (Str × V))
 /-- the dict of the instance at x -/
 | own (x : Addr)
 /-- the dict of an exception -/
 | xd (fs : List (Str × V))
 /-- a bound method, f of x -/
 | met (f x : Addr)
 /-- a range object lo, lo + 1, .. below hi -/
 | rng (lo hi : Int)
 /-- a thing that is known to the object (the script; a dict while a loop walks it): read, never written while it is so -/
 | frz (o : Obj) (u : HO)
 /-- a code object's table -/
 | tbl (ps : Array Value)
 /-- any other thing, by what is true of its one object (a def of one's own: SetO a S n := HO.ext fun h => ..) -/
 | ext (φ : Heap -> Prop)
abbrev Hp := Addr -> Option HO
def upd (H : Hp) (a : Addr) (o : HO) : Hp := fun b => if b = a then some o else H b
theorem upd_same {H : Hp} {a : Addr} {o : HO} : upd H a o a = some o := by unfold upd; rw [if_pos rfl]
theorem upd_ne {H : Hp} {a b : Addr} {o : HO} (h : b ≠ a) : upd H a o b = H b := by unfold upd; rw [if_neg h]
theorem upd_upd {H : Hp} {a : Addr} {o u : HO} : upd (upd H a o) a u = upd H a u := by
 funext b; unfold upd; split <;> rfl
theorem ne_of {H : Hp} {a b : Addr} {o u : HO} (h : H a = some o) (h' : H b = some u) (d : o ≠ u) : a ≠ b := by
 intro e; subst e; rw [h] at h'; exact d (Option.some.inj h')
theorem ne_of_none {H : Hp} {a b : Addr} {o : HO} (h : H a = some o) (h' : H b = none) : a ≠ b := by
 intro e; subst e; rw [h] at h'; cases h'
section
variable (P : Program) (w : World)
def ObjOk (H : Hp) (h : Heap) (a : Addr) : HO -> Prop
 | .lst xs => xs.length ≤ sizeLine /\ ∃ (its : List Value) (n : Nat), Vals xs its /\ h.get? a = some { cls := .type "list", data := .seq its.toArray n }
 | .tup xs => xs.length ≤ sizeLine /\ ∃ its : List Value, Vals xs its /\ IsTup h a its.toArray
 | .dK kvs => kvs.length ≤ sizeLine /\ (a == sysModules) = false /\ ∃ vs, KV kvs vs /\ h.DictOf (mixKind P w) a vs
 | .dT kvs => kvs.length ≤ sizeLine /\ (a == sysModules) = false /\ ∃ xs : List (List Key × Addr × Value),
   Paired (fun (p : List Key × V) (q : List Key × Addr × Value) => p.1 = q.1 /\ H q.2.1 = some (.tup (p.1.map kV)) /\ RelV p.2 q.2.2) kvs xs /\
   ∃ o es ep, h.get? a = some o /\ o.ExactDict /\ o.data = .dict es ep /\ es.toList = xs.map (entryOfKey (tupleKind (mixKind P w))) /\ (xs.map (·.1)).Nodup
 | .set S n => h.SetOf (intKind P w) a S n
 | .ins C dx fs => H dx = some (.own a) /\ fs.length ≤ 1000 /\ dx ≠ a /\ h.get? a = some (PySem.W.instObj C dx) /\
   ∃ mA, h.Ns1 dx mA /\ (∀ f, RelO (fs.lookup f) (mA f)) /\ PySem.Within mA (fs.map (·.1))
 | .own _ => ∃ o, h.get? a = some o
 | .xd fs => ∃ mA, h.Ns1 a mA /\ ∀ f, RelO (fs.lookup f) (mA f)
 | .rng lo hi => ∃ t u v, h.get? a = some { cls := .type "range", data := .fields #[.int lo t, .int hi u, .int 1 v] }
 | .frz o u => h.get? a = some o /\ ObjOk H h a u
 | .tbl ps => h.get? a = some { cls := .none, data := .fields ps }
 | .met f x => h.get? a = some (PySem.W.methodObj (.ref f) (.ref x))
 | .ext φ => φ h /\ (∃ o, h.get? a = some o) /\ ∀ h1 h2 : Heap, φ h1 -> (∀ o, h1.get? a = some o -> h2.get? a = some o) -> φ h2
def HOk (H : Hp) (h : Heap) : Prop := ∀ a o, H a = some o -> ObjOk P w H h a o
end
section
variable {P : Program} {w : World} {H H' : Hp} {h h' : Heap} {a : Addr} {o : HO}
theorem ObjOk.lt (x : ObjOk P w H h a o) : a < h.objs.size := by
 cases o with
 | lst xs => obtain ⟨_, _, _, _, e⟩ := x; exact Heap.lt_size e
 | tup xs => obtain ⟨_, _, _, p⟩ := x; exact p.lt
 | dK kvs => obtain ⟨_, _, _, _, o, _, _, e, _⟩ := x; exact Heap.lt_size e
 | dT kvs => obtain ⟨_, _, _, _, o, _, _, e, _⟩ := x; exact Heap.lt_size e
 | set S n => obtain ⟨o, _, _, _, e, _⟩ := x; exact Heap.lt_size e
 | ins C dx fs => obtain ⟨_, _, _, e, _⟩ := x; exact Heap.lt_size e
 | own y => obtain ⟨_, e⟩ := x; exact Heap.lt_size e
 | xd fs => obtain ⟨_, ⟨_, _, _, e, _⟩, _⟩ := x; exact Heap.lt_size e
 | rng lo hi => obtain ⟨_, _, _, e⟩ := x; exact Heap.lt_size e
 | frz ob u => obtain ⟨e, _⟩ := x; exact Heap.lt_size e
 | tbl ps => exact Heap.lt_size (show h.get? a = some _ from x)
 | met f y => exact Heap.lt_size (show h.get? a = some _ from x)
 | ext φ => obtain ⟨_, ⟨_, e⟩, _⟩ := x; exact Heap.lt_size e
theorem Paired.mapP {α β : Type} {F G : α -> β -> Prop} : ∀ {l₁ : List α} {l₂ : List β}, Paired F l₁ l₂ -> (∀ a b, F a b -> G a b) -> Paired G l₁ l₂
 | _, _, .nil, _ => .nil
 | _, _, .cons r t, f => .cons (f _ _ r) (Paired.mapP t f)
theorem ObjOk.stay (x : ObjOk P w H h a o) (k : ∀ b u, (b = a \/ H b = some (.own a)) -> h.get? b = some u -> h'.get? b = some u)
  (ho : ∀ b, H b = some (.own a) -> H' b = some (.own a)) (ht : ∀ b xs, H b = some (.tup xs) -> H' b = some (.tup xs)) : ObjOk P w H' h' a o := by
 induction o with
 | lst xs => obtain ⟨z, its, n, r, e⟩ := x; exact ⟨z, its, n, r, k _ _ (.inl rfl) e⟩
 | tup xs => obtain ⟨z, its, r, ob, e, c⟩ := x; exact ⟨z, its, r, ob, k _ _ (.inl rfl) e, c⟩
 | dK kvs => obtain ⟨z, y, vs, r, ob, es, ep, e, c⟩ := x; exact ⟨z, y, vs, r, ob, es, ep, k _ _ (.inl rfl) e, c⟩
 | dT kvs =>
  obtain ⟨z, y, xs, r, ob, es, ep, e, c⟩ := x
  exact ⟨z, y, xs, Paired.mapP r fun p q z => ⟨z.1, ht _ _ z.2.1, z.2.2⟩, ob, es, ep, k _ _ (.inl rfl) e, c⟩
 | set S n => obtain ⟨ob, es, ep, t, e, c⟩ := x; exact ⟨ob, es, ep, t, k _ _ (.inl rfl) e, c⟩
 | ins C dx fs =>
  obtain ⟨d, z, ne, e, mA, ⟨od, es, ep, e2, c⟩, r⟩ := x
  exact ⟨ho _ d, z, ne, k _ _ (.inl rfl) e, mA, ⟨od, es, ep, k _ _ (.inr d) e2, c⟩, r⟩
 | own y => obtain ⟨ob, e⟩ := x; exact ⟨ob, k _ _ (.inl rfl) e⟩
 | xd fs => obtain ⟨mA, ⟨od, es, ep, e, c⟩, r⟩ := x; exact ⟨mA, ⟨od, es, ep, k _ _ (.inl rfl) e, c⟩, r⟩
 | rng lo hi => obtain ⟨t, u, v, e⟩ := x; exact ⟨t, u, v, k _ _ (.inl rfl) e⟩
 | frz ob u ih => obtain ⟨e, q⟩ := x; exact ⟨k _ _ (.inl rfl) e, ih q⟩
 | tbl ps =>
  have e : h.get? a = some { cls := .none, data := .fields ps } := x
  show h'.get? a = some { cls := .none, data := .fields ps }
  exact k a _ (.inl rfl) e
 | met f y =>
  have e : h.get? a = some (PySem.W.methodObj (.ref f) (.ref y)) := x
  show h'.get? a = some (PySem.W.methodObj (.ref f) (.ref y))
  exact k a _ (.inl rfl) e
 | ext φ => obtain ⟨p, ⟨o, e⟩, st⟩ := x; exact ⟨st _ _ p fun o q => k _ _ (.inl rfl) q, ⟨o, k _ _ (.inl rfl) e⟩, st⟩
theorem HOk.lt (x : HOk P w H h) (e : H a = some o) : a < h.objs.size := (x a o e).lt
theorem HOk.fresh (x : HOk P w H h) (e : h.objs.size ≤ a) : H a = none := by
 cases q : H a with
 | none => rfl
 | some u => exact absurd (Nat.lt_of_lt_of_le (x.lt q) e) (Nat.lt_irrefl _)
theorem HOk.kept (x : HOk P w H h) (k : ∀ b u, h.get? b = some u -> h'.get? b = some u) : HOk P w H h' := fun a o e =>
 (x a o e).stay (fun b u _ q => k b u q) (fun _ q => q) fun _ _ q => q
theorem HOk.laid (x : HOk P w H h) (k : ∀ b u, h.get? b = some u -> h'.get? b = some u) (hp : h.objs.size ≤ a) (new : ObjOk P w (upd H a o) h' a o) : HOk P w (upd H a o) h' := fun b u e => by
 have hn := x.fresh hp
 by_cases hb : b = a
 ·subst hb; rw [upd_same] at e; cases e; exact new
 ·rw [upd_ne hb] at e
  exact (x b u e).stay (fun c v _ q => k c v q) (fun c q => by rw [upd_ne (ne_of_none q hn)]; exact q) fun c xs q => by rw [upd_ne (ne_of_none q hn)]; exact q
end
def Rd (H : Hp) (a : Addr) (u : HO) : Prop := H a = some u \/ ∃ o, H a = some (.frz o u)
theorem Rd.of {H : Hp} {a : Addr} {u : HO} (h : H a = some u) : Rd H a u := .inl h
theorem Rd.ok {P : Program} {w : World} {H : Hp} {h : Heap} {a : Addr} {u : HO} (r : Rd H a u) (x : HOk P w H h) : ObjOk P w H h a u := by
 rcases r with r | ⟨o, r⟩
 ·exact x a u r
 ·obtain ⟨_, q⟩ := x a _ r
  exact q
def Mut : Option HO -> Prop
 | some (.lst _) => True
 | some (.dK _) => True
 | some (.dT _) => True
 | some (.set _ _) => True
 | some (.ins _ _ _) => True
 | some (.ext _) => True
 | _ => False
section
variable {P : Program} {w : World} {H : Hp} {h h' : Heap} {x e : Addr} {o' : HO}
theorem HOk.write (ok : HOk P w H h) (mu : Mut (H x)) (he : e = x \/ H e = some (.own x)) (k : ∀ b u, b ≠ e -> h.get? b = some u -> h'.get? b = some u) (heo : ∃ u, h'.get? e = some u)
  (new : ObjOk P w (upd H x o') h' x o') : HOk P w (upd H x o') h' := fun b u q => by
 have nown : ∀ c y, H c = some (.own y) -> c ≠ x := fun c y r z => by subst z; rw [r] at mu; exact mu
 have ntup : ∀ c xs, H c = some (.tup xs) -> c ≠ x := fun c xs r z => by subst z; rw [r] at mu; exact mu
 by_cases hb : b = x
 ·subst hb; rw [upd_same] at q; cases q; exact new
 ·rw [upd_ne hb] at q
  by_cases hbe : b = e
  ·have q' : H b = some (.own x) := by
    rcases he with z | z
    ·exact absurd (hbe.trans z) hb
    ·rw [hbe]; exact z
   rw [q] at q'; cases q'
   obtain ⟨v, hv⟩ := heo
   exact ⟨v, by rw [hbe]; exact hv⟩
  ·refine (ok b u q).stay (fun c v hc r => k c v ?_ r) (fun c r => by rw [upd_ne (nown c b r)]; exact r) fun c xs r => by rw [upd_ne (ntup c xs r)]; exact r
   rcases hc with rfl | hc
   ·exact hbe
   ·rintro rfl
    rcases he with z | z
    ·exact nown c b hc z
    ·rw [hc] at z; cases z; exact hb rfl
end
structure Un (fs ex : List Addr) (H H' : Hp) (h h' : Heap) : Prop where
 keep : ∀ b o, h.get? b = some o -> H b = none -> b ∉ fs -> b ∉ ex -> h'.get? b = some o
 slot : ∀ b o, h.get? b = some o -> H b = none -> b ∈ fs -> b ∉ ex -> ∃ sl, h'.get? b = some { o with slots := sl }
 free : ∀ b o, h.get? b = some o -> H b = none -> b ∉ ex -> H' b = none
 there : ∀ b o, h.get? b = some o -> b ∉ ex -> ∃ o', h'.get? b = some o'
 tups : ∀ b xs, H b = some (.tup xs) -> H' b = some (.tup xs)
 frzs : ∀ b o u, H b = some (.frz o u) -> H' b = some (.frz o u)
 tbls : ∀ b ps, H b = some (.tbl ps) -> ∃ more, H' b = some (.tbl (ps ++ more))
section
variable {fs fs' ex ex' : List Addr} {H H1 H2 : Hp} {h h1 h2 h' : Heap} {a x e : Addr} {o : HO}
theorem Un.any (u : Un fs ex H H1 h h1) {b : Addr} {ob : Obj} (q : h.get? b = some ob) (n : H b = none) (hx : b ∉ ex) : ∃ sl, h1.get? b = some { ob with slots := sl } := by
 by_cases hb : b ∈ fs
 ·exact u.slot b ob q n hb hx
 ·exact ⟨ob.slots, u.keep b ob q n hb hx⟩
theorem Un.kept (k : ∀ b u, h.get? b = some u -> h'.get? b = some u) : Un fs ex H H h h' :=
 ⟨fun b ob q _ _ _ => k b ob q, fun b ob q _ _ _ => ⟨ob.slots, k b ob q⟩, fun _ _ _ n _ => n, fun b ob q _ => ⟨ob, k b ob q⟩, fun _ _ q => q, fun _ _ _ q => q, fun _ ps q => ⟨#[], by rw [q]; simp⟩⟩
theorem Un.refl : Un fs ex H H h h := Un.kept fun _ _ q => q
theorem Un.laid (k : ∀ b u, h.get? b = some u -> h'.get? b = some u) (hp : h.objs.size ≤ a) (hn : H a = none) : Un fs ex H (upd H a o) h h' where
 keep := fun b u q _ _ _ => k b u q
 slot := fun b u q _ _ _ => ⟨u.slots, k b u q⟩
 free := fun b u q n _ => by rw [upd_ne (Nat.ne_of_lt (Nat.lt_of_lt_of_le (Heap.lt_size q) hp))]; exact n
 there := fun b u q _ => ⟨u, k b u q⟩
 tups := fun b xs q => by rw [upd_ne (ne_of_none q hn)]; exact q
 frzs := fun b u xs q => by rw [upd_ne (ne_of_none q hn)]; exact q
 tbls := fun b ps q => ⟨#[], by rw [upd_ne (ne_of_none q hn), q]; simp⟩
theorem Un.write (mu : Mut (H x)) (he : e = x \/ H e = some (.own x)) (k : ∀ b u, b ≠ e -> h.get? b = some u -> h'.get? b = some u) (heo : ∃ u, h'.get? e = some u) : Un fs ex H (upd H x o) h h' := by
 have hx : ∀ b, H b = none -> b ≠ x := fun b n z => by subst z; rw [n] at mu; exact mu
 have hb : ∀ b, H b = none -> b ≠ e := fun b n z => by
  subst z
  rcases he with r | r
  ·exact hx b n r
  ·rw [n] at r; cases r
 have hm : ∀ b u, H b = some u -> ¬ Mut (some u) -> b ≠ x := fun b u q nm z => by subst z; rw [q] at mu; exact nm mu
 refine ⟨fun b u q n _ _ => k b u (hb b n) q, fun b u q n _ _ => ⟨u.slots, k b u (hb b n) q⟩, fun b u q n _ => by rw [upd_ne (hx b n)]; exact n, fun b u q _ => ?_,
  fun b xs q => by rw [upd_ne (hm b _ q fun z => z)]; exact q, fun b u xs q => by rw [upd_ne (hm b _ q fun z => z)]; exact q, fun b ps q => ⟨#[], by rw [upd_ne (hm b _ q fun z => z), q]; simp⟩⟩
 by_cases hbe : b = e
 ·subst hbe; exact heo
 ·exact ⟨u, k b u hbe q⟩
end
def trk (h : Heap) (H : Hp) : List Addr := (List.range h.objs.size).filter fun a => (H a).isSome
def hidT (h : Heap) (H : Hp) : Heap := PySem.W.hideAll h (trk h H)
theorem hidT_size (h : Heap) (H : Hp) : (hidT h H).objs.size = h.objs.size := PySem.W.hideAll_size _ _
theorem hidT_get {h : Heap} {H : Hp} {b : Addr} {o : Obj} (e : h.get? b = some o) (n : H b = none) : (hidT h H).get? b = some o :=
 PySem.W.hideAll_get _ e fun hm => by
  have q : (H b).isSome = true := (List.mem_filter.mp hm).2
  rw [n] at q; simp at q
theorem of_hidT {h : Heap} {H : Hp} {b : Addr} {o : Obj} (e : (hidT h H).get? b = some o) : h.get? b = some o /\ H b = none := by
 have e' : h.get? b = some o := PySem.W.of_hideAll (trk h H) e
 refine ⟨e', ?_⟩
 cases q : H b with
 | none => rfl
 | some x =>
  have hm : b ∈ trk h H := List.mem_filter.mpr ⟨List.mem_range.mpr (Heap.lt_size e'), by simp [q]⟩
  have z : (hidT h H).get? b = none := PySem.W.hideAll_none (trk h H) hm
  rw [z] at e; cases e
end L2
namespace L2
open PySem PySem.Spec PyProof.Rows
structure Mod (K : PySem.W.Frag) (mg : Str -> Option Value) (base : Heap) : Prop where
 kin : K.In base
 glob : base.Ns mainGlobals mg
 blt : ∃ mb, base.Ns builtinsNs mb /\ ∀ x : Str, x ≠ "__name__" -> mb x = bootBuiltins x
 nolimit : base.NoLimit
structure Cx where
 prog : Program
 w : World
 K : PySem.W.Frag
 mg : Str -> Option Value
 base : Heap
 A : Around
 N : List Str
 s_0 : Shared
 H_0 : Hp
 env : Env
 outer : List Env
 stack : List Env
 ex : List Addr
 fn : Str -> Bool
 calm : Bool
 pn : List (Addr × Obj)
 xe : Value -> Shared -> Prop
def frs (l : List Env) : List Addr := l.filterMap (·.frame)
abbrev Cx.fs (X : Cx) : List Addr := frs X.outer
def Vis (sc : Scope) (x : Str) : Prop := sc.names.lookup x = some .local \/ sc.names.lookup x = some .cell \/ sc.names.lookup x = some .free
def Loc (sc : Scope) (x : Str) : Prop := sc.names.lookup x = some .local \/ sc.names.lookup x = some .cell
def Look (env : Env) (h : Heap) (m : Str -> Option Value) (x : Str) (u : Value) : Prop :=
 (env.kindOf x = some .local /\ m x = some u) \/ ((env.kindOf x = some .cell \/ env.kindOf x = some .free) /\ ∃ c, env.cells.lookup x = some c /\ h.IsCell c (some u))
structure Cx.Ok (X : Cx) : Prop where
 mod : Mod X.K X.mg X.base
 kind : X.env.scope.kind = .function
 glob : X.env.globals = mainGlobals
 blt : X.env.builtins = builtinsNs
 above : X.s_0.heap.objs.size ≤ X.env.locals
 inj : ∀ x y c, X.env.cells.lookup x = some c -> X.env.cells.lookup y = some c -> x = y
 has : ∀ x, (X.env.kindOf x = some .cell \/ X.env.kindOf x = some .free) -> ∃ c, X.env.cells.lookup x = some c
 cab : ∀ x c, X.fn x = true -> X.env.cells.lookup x = some c -> X.s_0.heap.objs.size ≤ c
 hd : X.calm = true -> X.A.handled = none
 frames : X.A.frames = some X.stack
 stk : X.stack = X.outer \/ (X.stack = X.env :: X.outer /\ X.env.frame = some X.env.locals)
 exf : ∀ b ∈ X.ex, b ≠ X.env.locals /\ ∀ x c, X.env.cells.lookup x = some c -> c ≠ b
 bs : ∀ b o, X.base.get? b = some o -> X.s_0.heap.get? b = some o /\ X.H_0 b = none
 bsz : X.base.objs.size ≤ X.s_0.heap.objs.size
 noex : ∀ b o, X.base.get? b = some o -> b ∉ X.ex
 exfs : ∀ b ∈ X.ex, b ∉ X.fs
 funs : X.s_0.heap.FunFrames X.base X.outer
 frf : ∀ b ∈ X.fs, X.H_0 b = none
structure Inv (X : Cx) (pins : List (Addr × Obj)) (σ : List (Option V)) (H : Hp) (s : Shared) : Prop where
 ok : X.Ok
 os : s.os = X.s_0.os
 bare : AllBare s.gens
 base : Un X.fs X.ex X.H_0 H X.s_0.heap s.heap
 loc : ∃ m, s.heap.Ns X.env.locals m /\ ∀ (i : Nat) (x : Str) (v : V), X.N[i]? = some x -> σ[i]? = some (some v) -> Vis X.env.scope x -> ∃ u, RelV v u /\ Look X.env s.heap m x u
 cell : ∀ x c, X.env.cells.lookup x = some c -> ∃ v, s.heap.IsCell c v
 free : H X.env.locals = none
 freeC : ∀ x c, X.env.cells.lookup x = some c -> H c = none
 pin : ∀ p ∈ X.pn ++ pins, s.heap.get? p.1 = some p.2 /\ H p.1 = none /\ p.1 ≠ X.env.locals /\ p.1 ∉ X.fs /\ ∀ v, p.2.data ≠ .cell v
 hok : HOk X.prog X.w H s.heap
 len : σ.length = X.N.length
section
variable {X : Cx} {pins : List (Addr × Obj)} {σ : List (Option V)} {H H' : Hp} {s : Shared} {h' : Heap}
theorem Cx.Ok.nofr (ok : X.Ok) {b : Addr} {o : Obj} (e : X.base.get? b = some o) : b ∉ X.fs := fun hb => by
 have := (ok.funs.mem hb).1
 rw [e] at this; cases this
theorem Inv.bs (I : Inv X pins σ H s) : ∀ b o, X.base.get? b = some o -> s.heap.get? b = some o /\ H b = none := fun b o e =>
 ⟨I.base.keep b o (I.ok.bs b o e).1 (I.ok.bs b o e).2 (I.ok.nofr e) (I.ok.noex b o e), I.base.free b o (I.ok.bs b o e).1 (I.ok.bs b o e).2 (I.ok.noex b o e)⟩
theorem Inv.bk (I : Inv X pins σ H s) : ∀ b o, X.base.get? b = some o -> s.heap.get? b = some o := fun b o e => (I.bs b o e).1
theorem Inv.mod (I : Inv X pins σ H s) : Mod X.K X.mg X.base := I.ok.mod
theorem Inv.kIn (I : Inv X pins σ H s) : X.K.In s.heap := I.ok.mod.kin.keeps I.bk
theorem Inv.lt (I : Inv X pins σ H s) : X.env.locals < s.heap.objs.size := let ⟨_, hn, _⟩ := I.loc; hn.lt
theorem Inv.sz (I : Inv X pins σ H s) : X.s_0.heap.objs.size ≤ s.heap.objs.size := Nat.le_trans I.ok.above (Nat.le_of_lt I.lt)
theorem Inv.nofs (I : Inv X pins σ H s) {a : Addr} (h : s.heap.objs.size ≤ a) : a ∉ X.fs := fun hb => by
 obtain ⟨_, o, ho, _⟩ := I.ok.funs.mem hb
 exact absurd (Nat.lt_of_lt_of_le (Heap.lt_size ho) (Nat.le_trans I.sz h)) (Nat.lt_irrefl _)
theorem Inv.cne (I : Inv X pins σ H s) : ∀ x c, X.env.cells.lookup x = some c -> c ≠ X.env.locals := fun x c e z => by
 obtain ⟨v, o, ho, hd⟩ := I.cell x c e
 obtain ⟨m, ⟨o', es, ep, ho', hd', _⟩, _⟩ := I.loc
 rw [z, ho'] at ho; cases ho; rw [hd'] at hd; cases hd
theorem Inv.funs (I : Inv X pins σ H s) : s.heap.FunFrames X.base X.outer := by
 have all : ∀ (l : List Env), (∀ b ∈ frs l, b ∈ X.fs) -> X.s_0.heap.FunFrames X.base l -> s.heap.FunFrames X.base l := by
  intro l
  induction l with
  | nil => intro _ _; trivial
  | cons env r ih =>
   intro hs hl
   obtain ⟨hk, ⟨L, o, hf, hn, ho, hd⟩, hr⟩ := hl
   have hL : L ∈ X.fs := hs L (by unfold frs; rw [List.filterMap_cons, hf]; exact List.mem_cons_self)
   obtain ⟨sl, e⟩ := I.base.slot L o ho (I.ok.frf L hL) hL fun z => I.ok.exfs L z hL
   exact ⟨hk, ⟨L, _, hf, hn, e, hd⟩, ih (fun b hb => hs b (by unfold frs; rw [List.filterMap_cons, hf]; exact List.mem_cons_of_mem _ hb)) hr⟩
 exact all X.outer (fun _ hb => hb) I.ok.funs
theorem Inv.stack (I : Inv X pins σ H s) : s.heap.FunFrames X.base X.stack := by
 rcases I.ok.stk with e | ⟨e, hf⟩
 ·rw [e]; exact I.funs
 ·rw [e]
  obtain ⟨m, hn, _⟩ := I.loc
  refine .cons (by rw [I.ok.kind]; decide) hf hn ?_ I.funs
  exact Heap.get?_none_of_le (Nat.le_trans I.ok.bsz I.ok.above)
theorem Inv.stkSub (I : Inv X pins σ H s) : ∀ b ∈ frs X.stack, b ∈ X.env.locals :: X.fs := fun b hb => by
 rcases I.ok.stk with e | ⟨e, hf⟩
 ·rw [e] at hb; exact List.mem_cons_of_mem _ hb
 ·rw [e] at hb
  unfold frs at hb
  rw [List.filterMap_cons, hf] at hb
  exact hb
theorem Inv.stkFree (I : Inv X pins σ H s) : ∀ b ∈ frs X.stack, H b = none := fun b hb => by
 rcases List.mem_cons.mp (I.stkSub b hb) with e | hb
 ·rw [e]; exact I.free
 ·obtain ⟨_, o, ho, _⟩ := I.ok.funs.mem hb
  exact I.base.free b o ho (I.ok.frf b hb) fun z => I.ok.exfs b z hb
theorem Inv.step {g' : Array GenState} {t' : Nat} {d' : Drawn} {ch : List Addr} (I : Inv X pins σ H s)
  (hch : ∀ b ∈ ch, (b ∈ X.ex \/ X.s_0.heap.objs.size ≤ b) /\ b ≠ X.env.locals /\ (∀ x c, X.env.cells.lookup x = some c -> c ≠ b) /\ ∀ p ∈ X.pn ++ pins, p.1 ≠ b)
  (keep : ∀ b o, b ≠ X.env.locals -> b ∉ X.fs -> b ∉ ch -> s.heap.get? b = some o -> H b = none -> h'.get? b = some o)
  (slot : ∀ b o, b ≠ X.env.locals -> b ∈ X.fs -> b ∉ ch -> s.heap.get? b = some o -> H b = none -> ∃ sl, h'.get? b = some { o with slots := sl }) (free : ∀ b o, b ∉ ch -> s.heap.get? b = some o -> H b = none -> H' b = none)
  (there : ∀ b o, b ∉ ch -> s.heap.get? b = some o -> ∃ o', h'.get? b = some o')
  (tups : ∀ b xs, H b = some (.tup xs) -> H' b = some (.tup xs)) (frzs : ∀ b o u, H b = some (.frz o u) -> H' b = some (.frz o u)) (tbls : ∀ b ps, H b = some (.tbl ps) -> ∃ more, H' b = some (.tbl (ps ++ more)))
  (ns : ∀ m, s.heap.Ns X.env.locals m -> h'.Ns X.env.locals m) (hok : HOk X.prog X.w H' h') (hg : AllBare g') :
  Inv X pins σ H' { s with heap := h', gens := g', drawn := d', toks := t' } := by
 have neL : ∀ b o, X.s_0.heap.get? b = some o -> b ≠ X.env.locals := fun b o e => Nat.ne_of_lt (Nat.lt_of_lt_of_le (Heap.lt_size e) I.ok.above)
 have neC : ∀ b o, X.s_0.heap.get? b = some o -> b ∉ X.ex -> b ∉ ch := fun b o e hx hb => by
  rcases (hch b hb).1 with z | z
  ·exact hx z
  ·exact absurd (Nat.lt_of_lt_of_le (Heap.lt_size e) z) (Nat.lt_irrefl _)
 have cellK : ∀ x c, X.env.cells.lookup x = some c -> ∀ v, s.heap.IsCell c v -> h'.IsCell c v := fun x c e v ⟨o, ho, hd⟩ => by
  have nch : c ∉ ch := fun z => (hch c z).2.2.1 x c e rfl
  by_cases hc : c ∈ X.fs
  ·obtain ⟨sl, q⟩ := slot c o (I.cne x c e) hc nch ho (I.freeC x c e)
   exact ⟨_, q, hd⟩
  ·exact ⟨o, keep c o (I.cne x c e) hc nch ho (I.freeC x c e), hd⟩
 refine ⟨I.ok, I.os, hg, ⟨fun b o e n hb hx => ?_, fun b o e n hb hx => ?_, fun b o e n hx => ?_, fun b o e hx => ?_, fun b xs e => tups b xs (I.base.tups b xs e), fun b o xs e => frzs b o xs (I.base.frzs b o xs e), fun b ps e => ?_⟩, ?_, fun x c e => ?_, ?_, fun x c e => ?_, fun p hp => ?_, hok, I.len⟩
 ·exact keep b o (neL b o e) hb (neC b o e hx) (I.base.keep b o e n hb hx) (I.base.free b o e n hx)
 ·obtain ⟨sl, e1⟩ := I.base.slot b o e n hb hx
  obtain ⟨sl', e2⟩ := slot b _ (neL b o e) hb (neC b o e hx) e1 (I.base.free b o e n hx)
  exact ⟨sl', e2⟩
 ·obtain ⟨o', e1⟩ := I.base.there b o e hx
  exact free b o' (neC b o e hx) e1 (I.base.free b o e n hx)
 ·obtain ⟨o', e1⟩ := I.base.there b o e hx
  exact there b o' (neC b o e hx) e1
 ·obtain ⟨m1, e1⟩ := I.base.tbls b ps e
  obtain ⟨m2, e2⟩ := tbls b _ e1
  exact ⟨m1 ++ m2, by rw [e2, Array.append_assoc]⟩
 ·obtain ⟨m, hn, hl⟩ := I.loc
  refine ⟨m, ns m hn, fun i x v e1 e2 e3 => ?_⟩
  obtain ⟨u, r, l⟩ := hl i x v e1 e2 e3
  refine ⟨u, r, ?_⟩
  rcases l with l | ⟨k, c, e, z⟩
  ·exact .inl l
  ·exact .inr ⟨k, c, e, cellK x c e _ z⟩
 ·obtain ⟨v, z⟩ := I.cell x c e
  exact ⟨v, cellK x c e v z⟩
 ·obtain ⟨m, ⟨o, _, _, ho, _⟩, _⟩ := I.loc
  exact free _ o (fun z => (hch _ z).2.1 rfl) ho I.free
 ·obtain ⟨v, o, ho, hd⟩ := I.cell x c e
  exact free c o (fun z => (hch c z).2.2.1 x c e rfl) ho (I.freeC x c e)
 ·obtain ⟨e, n, ne, nf, d⟩ := I.pin p hp
  have nch : p.1 ∉ ch := fun z => (hch p.1 z).2.2.2 p hp rfl
  exact ⟨keep p.1 p.2 ne nf nch e n, free p.1 p.2 nch e n, ne, nf, d⟩
theorem Inv.un {t' : Nat} (I : Inv X pins σ H s) (u : Un X.fs [] H H' s.heap h') (hok : HOk X.prog X.w H' h') : Inv X pins σ H' { s with heap := h', toks := t' } := by
 obtain ⟨m, ⟨o, es, ep, ho, r⟩, _⟩ := id I.loc
 obtain ⟨sl, hL⟩ := u.any ho I.free (by simp)
 exact I.step (g' := s.gens) (d' := s.drawn) (ch := []) (fun _ z => nomatch z) (fun b o _ hb _ e n => u.keep b o e n hb (by simp)) (fun b o _ hb _ e n => u.slot b o e n hb (by simp)) (fun b o _ e n => u.free b o e n (by simp)) (fun b o _ e => u.there b o e (by simp)) u.tups u.frzs u.tbls (fun m' hm => by
  obtain ⟨o', es', ep', ho', r'⟩ := hm
  rw [ho] at ho'; cases ho'
  exact ⟨_, es', ep', hL, r'⟩) hok I.bare
theorem Inv.call {g' : Array GenState} {t' : Nat} {d' : Drawn} {ch : List Addr} (I : Inv X pins σ H s) (u : Un (frs X.stack) ch H H' s.heap h') (hok : HOk X.prog X.w H' h') (hg : AllBare g')
  (hch : ∀ b ∈ ch, (b ∈ X.ex \/ X.s_0.heap.objs.size ≤ b) /\ b ≠ X.env.locals /\ (∀ x c, X.env.cells.lookup x = some c -> c ≠ b) /\ ∀ p ∈ X.pn ++ pins, p.1 ≠ b) :
  Inv X pins σ H' { s with heap := h', gens := g', drawn := d', toks := t' } := by
 obtain ⟨m, ⟨o, es, ep, ho, r⟩, _⟩ := id I.loc
 obtain ⟨sl, hL⟩ := u.any ho I.free fun z => (hch _ z).2.1 rfl
 exact I.step (ch := ch) hch (fun b o hL hb hc e n => u.keep b o e n (fun z => (List.mem_cons.mp (I.stkSub b z)).elim hL hb) hc) (fun b o _ _ hc e n => u.any e n hc) (fun b o hc e n => u.free b o e n hc) (fun b o hc e => u.there b o e hc) u.tups u.frzs u.tbls (fun m' hm => by
  obtain ⟨o', es', ep', ho', r'⟩ := hm
  rw [ho] at ho'; cases ho'
  exact ⟨_, es', ep', hL, r'⟩) hok hg
theorem Inv.turned {t' : Nat} {it : Addr} (I : Inv X pins σ H s) (k : ∀ b o, b ≠ it -> s.heap.get? b = some o -> h'.get? b = some o) (hn : H it = none) (hL : it ≠ X.env.locals)
  (h1 : it ∈ X.ex \/ X.s_0.heap.objs.size ≤ it) (h2 : ∀ x c, X.env.cells.lookup x = some c -> c ≠ it) (h3 : ∀ p ∈ X.pn ++ pins, p.1 ≠ it) : Inv X pins σ H { s with heap := h', toks := t' } := by
 have nit : ∀ b u, H b = some u -> b ≠ it := fun b u e z => by rw [z, hn] at e; cases e
 refine I.step (g' := s.gens) (d' := s.drawn) (ch := [it]) (fun b hb => ?_) (fun b o _ _ hc e _ => k b o (fun z => hc (by simp [z])) e) (fun b o _ _ hc e _ => ⟨o.slots, k b o (fun z => hc (by simp [z])) e⟩) (fun _ _ _ _ n => n)
  (fun b o hc e => ⟨o, k b o (fun z => hc (by simp [z])) e⟩) (fun _ _ e => e) (fun _ _ _ e => e) (fun b ps e => ⟨#[], by rw [e]; simp⟩) (fun m hm => ?_) (fun b u e => ?_) I.bare
 ·have e : b = it := by simpa using hb
  subst e
  exact ⟨h1, hL, h2, h3⟩
 ·obtain ⟨o, es, ep, ho, r⟩ := hm
  exact ⟨o, es, ep, k _ o (Ne.symm hL) ho, r⟩
 ·refine (I.hok b u e).stay (fun c v hc q => k c v ?_ q) (fun _ q => q) fun _ _ q => q
  rcases hc with z | z
  ·rw [z]; exact nit b u e
  ·exact nit c _ z
theorem Inv.tok (I : Inv X pins σ H s) (t : Nat) : Inv X pins σ H { s with toks := t } := I.un (h' := s.heap) (t' := t) Un.refl I.hok
theorem Inv.kept {t' : Nat} (I : Inv X pins σ H s) (k : ∀ b u, s.heap.get? b = some u -> h'.get? b = some u) : Inv X pins σ H { s with heap := h', toks := t' } := I.un (Un.kept k) (I.hok.kept k)
theorem Inv.laid {a : Addr} {o : HO} {t' : Nat} (I : Inv X pins σ H s) (k : ∀ b u, s.heap.get? b = some u -> h'.get? b = some u) (hp : s.heap.objs.size ≤ a) (new : ObjOk X.prog X.w (upd H a o) h' a o) :
  Inv X pins σ (upd H a o) { s with heap := h', toks := t' } := I.un (Un.laid k hp (I.hok.fresh hp)) (I.hok.laid k hp new)
theorem Inv.write {x e : Addr} {o : HO} {t' : Nat} (I : Inv X pins σ H s) (mu : Mut (H x)) (he : e = x \/ H e = some (.own x)) (k : ∀ b u, b ≠ e -> s.heap.get? b = some u -> h'.get? b = some u) (heo : ∃ u, h'.get? e = some u)
  (new : ObjOk X.prog X.w (upd H x o) h' x o) : Inv X pins σ (upd H x o) { s with heap := h', toks := t' } := I.un (Un.write mu he k heo) (I.hok.write mu he k heo new)
theorem Inv.weak {σ' : List (Option V)} (I : Inv X pins σ H s) (hl : σ'.length = σ.length) (w : ∀ (i : Nat) v, σ'[i]? = some (some v) -> σ[i]? = some (some v)) : Inv X pins σ' H s :=
 ⟨I.ok, I.os, I.bare, I.base, let ⟨m, hn, hl'⟩ := I.loc; ⟨m, hn, fun i x v e1 e2 e3 => hl' i x v e1 (w i v e2) e3⟩, I.cell, I.free, I.freeC, I.pin, I.hok, hl.trans I.len⟩
theorem Inv.pins_of {pins' : List (Addr × Obj)} (I : Inv X pins σ H s) (h : ∀ p ∈ pins', s.heap.get? p.1 = some p.2 /\ H p.1 = none /\ p.1 ≠ X.env.locals /\ p.1 ∉ X.fs /\ ∀ v, p.2.data ≠ .cell v) : Inv X pins' σ H s :=
 ⟨I.ok, I.os, I.bare, I.base, I.loc, I.cell, I.free, I.freeC, fun p hp => (List.mem_append.mp hp).elim (fun z => I.pin p (List.mem_append_left _ z)) (h p), I.hok, I.len⟩
theorem nodup_ix {N : List Str} (hN : N.Nodup) {i j : Nat} {x : Str} (a : N[i]? = some x) (b : N[j]? = some x) : i = j := by
 obtain ⟨h1, e1⟩ := List.getElem?_eq_some_iff.mp a
 obtain ⟨h2, e2⟩ := List.getElem?_eq_some_iff.mp b
 exact (List.getElem_inj hN).mp (e1.trans e2.symm)
theorem store_ok2 {M : Model} {A : Around} {E : Value -> Shared -> Prop} {i : Nat} {x : Str} {v : V} {u : Value} {Q : Unit -> Shared -> Prop} (I : Inv X pins σ H s) (hN : X.N.Nodup) (hi : X.N[i]? = some x) (hx : Loc X.env.scope x) (r : RelV v u)
  (h : ∀ s', Inv X pins (σ.set i (some v)) H s' -> (∃ a, Heap.SameBut a s.heap s'.heap /\ (a = X.env.locals \/ X.env.cells.lookup x = some a)) -> Q () s') (hf : X.fn x = true \/ X.env.scope.names.lookup x = some .local := by first | exact .inl rfl | exact .inr rfl | assumption) : wpAny M A (storeName X.env x u) Q E s := by
 obtain ⟨m, hn, hl⟩ := id I.loc
 have hcls : (X.env.scope.kind == .class || (X.env.scope.kind == .module && X.env.locals != X.env.globals)) = false := by rw [I.ok.kind]; rfl
 have hiσ : i < σ.length := by rw [I.len]; exact (List.getElem?_eq_some_iff.mp hi).1
 have cne := I.cne
 have tracked : ∀ {a : Addr} {h' : Heap}, (∃ o, s.heap.get? a = some o /\ H a = none) -> Heap.SameBut a s.heap h' -> HOk X.prog X.w H h' := fun {a h'} ha hs b ob e => by
  obtain ⟨_, _, hfree⟩ := ha
  refine (I.hok b ob e).stay (fun c w' hc q => (hs.2 c ?_).trans q) (fun _ q => q) fun _ _ q => q
  rintro rfl
  rcases hc with rfl | hc
  ·rw [hfree] at e; cases e
  ·rw [hfree] at hc; cases hc
 rcases hx with hk | hk
 ·refine wpAny_storeName_local hk hn (fun h' hn' hs => ?_) hcls
  obtain ⟨oL, _, _, hoL, _⟩ := id hn
  refine h _ ⟨I.ok, I.os, I.bare, ⟨fun b o e n hb hx => ?_, fun b o e n hb hx => ?_, I.base.free, fun b o e hx => ?_, I.base.tups, I.base.frzs, I.base.tbls⟩, ⟨_, hn', fun j y v' e1 e2 e3 => ?_⟩, fun y c e => ?_, I.free, I.freeC, fun p hp => ?_, tracked ⟨oL, hoL, I.free⟩ hs, by simpa using I.len⟩ ⟨_, hs, .inl rfl⟩
  ·exact (hs.2 b (Nat.ne_of_lt (Nat.lt_of_lt_of_le (Heap.lt_size e) I.ok.above))).trans (I.base.keep b o e n hb hx)
  ·obtain ⟨sl, e1⟩ := I.base.slot b o e n hb hx
   exact ⟨sl, (hs.2 b (Nat.ne_of_lt (Nat.lt_of_lt_of_le (Heap.lt_size e) I.ok.above))).trans e1⟩
  ·obtain ⟨o', e1⟩ := I.base.there b o e hx
   exact ⟨o', (hs.2 b (Nat.ne_of_lt (Nat.lt_of_lt_of_le (Heap.lt_size e) I.ok.above))).trans e1⟩
  ·by_cases hj : j = i
   ·subst hj
    rw [hi] at e1; cases e1
    rw [List.getElem?_set_self hiσ] at e2
    cases e2
    exact ⟨u, r, .inl ⟨hk, by simp⟩⟩
   ·rw [List.getElem?_set_ne (Ne.symm hj)] at e2
    obtain ⟨u', r', q⟩ := hl j y v' e1 e2 e3
    refine ⟨u', r', ?_⟩
    rcases q with ⟨k, e⟩ | ⟨k, c, e, z⟩
    ·refine .inl ⟨k, ?_⟩
     have : y ≠ x := fun e => hj (nodup_ix hN e1 (e ▸ hi))
     simp [this, e]
    ·exact .inr ⟨k, c, e, z.sameBut hs (cne y c e)⟩
  ·obtain ⟨w', z⟩ := I.cell y c e
   exact ⟨w', z.sameBut hs (cne y c e)⟩
  ·obtain ⟨e, n, ne, nf, d⟩ := I.pin p hp
   exact ⟨(hs.2 p.1 ne).trans e, n, ne, nf, d⟩
 ·have hfn : X.fn x = true := by
   rcases hf with z | z
   ·exact z
   ·rw [z] at hk; cases hk
  obtain ⟨c, hc⟩ := I.ok.has x (.inl hk)
  obtain ⟨w', z⟩ := I.cell x c hc
  refine wpAny_storeName_cell I.ok.kind hk hc z (fun h' hc' hs => ?_)
  obtain ⟨oc, hoc, hocd⟩ := id z
  refine h { s with heap := h' } ⟨I.ok, I.os, I.bare, ⟨fun b o e n hb hx => ?_, fun b o e n hb hx => ?_, I.base.free, fun b o e hx => ?_, I.base.tups, I.base.frzs, I.base.tbls⟩, ⟨m, hn.sameBut hs (Ne.symm (cne x c hc)), fun j y v' e1 e2 e3 => ?_⟩, fun y c' e => ?_, I.free, I.freeC, fun p hp => ?_, tracked ⟨oc, hoc, I.freeC x c hc⟩ hs, by simpa using I.len⟩ ⟨c, hs, .inr hc⟩
  ·exact (hs.2 b (Nat.ne_of_lt (Nat.lt_of_lt_of_le (Heap.lt_size e) (I.ok.cab x c hfn hc)))).trans (I.base.keep b o e n hb hx)
  ·obtain ⟨sl, e1⟩ := I.base.slot b o e n hb hx
   exact ⟨sl, (hs.2 b (Nat.ne_of_lt (Nat.lt_of_lt_of_le (Heap.lt_size e) (I.ok.cab x c hfn hc)))).trans e1⟩
  ·obtain ⟨o', e1⟩ := I.base.there b o e hx
   exact ⟨o', (hs.2 b (Nat.ne_of_lt (Nat.lt_of_lt_of_le (Heap.lt_size e) (I.ok.cab x c hfn hc)))).trans e1⟩
  ·by_cases hj : j = i
   ·subst hj
    rw [hi] at e1; cases e1
    rw [List.getElem?_set_self hiσ] at e2
    cases e2
    exact ⟨u, r, .inr ⟨.inl hk, c, hc, hc'⟩⟩
   ·rw [List.getElem?_set_ne (Ne.symm hj)] at e2
    obtain ⟨u', r', q⟩ := hl j y v' e1 e2 e3
    refine ⟨u', r', ?_⟩
    rcases q with q | ⟨k, c', e, z'⟩
    ·exact .inl q
    ·refine .inr ⟨k, c', e, z'.sameBut hs ?_⟩
     rintro rfl
     exact hj (nodup_ix hN e1 (I.ok.inj _ _ _ e hc ▸ hi))
  ·by_cases hcc : c' = c
   ·subst hcc; exact ⟨_, hc'⟩
   ·obtain ⟨w2, z2⟩ := I.cell y c' e
    exact ⟨w2, z2.sameBut hs hcc⟩
  ·obtain ⟨e, n, ne, nf, d⟩ := I.pin p hp
   refine ⟨(hs.2 p.1 ?_).trans e, n, ne, nf, d⟩
   intro q
   rw [q, hoc] at e
   have q' : oc = p.2 := Option.some.inj e
   exact d w' (by rw [<- q']; exact hocd)
theorem store_ok {M : Model} {A : Around} {E : Value -> Shared -> Prop} {i : Nat} {x : Str} {v : V} {u : Value} {Q : Unit -> Shared -> Prop} (I : Inv X pins σ H s) (hN : X.N.Nodup) (hi : X.N[i]? = some x) (hx : Loc X.env.scope x) (r : RelV v u)
  (h : ∀ s', Inv X pins (σ.set i (some v)) H s' -> Q () s') (hf : X.fn x = true \/ X.env.scope.names.lookup x = some .local := by first | exact .inl rfl | exact .inr rfl | assumption) : wpAny M A (storeName X.env x u) Q E s :=
 store_ok2 I hN hi hx r (fun s' I' _ => h s' I') hf
theorem Inv.call' {s' : Shared} {ch : List Addr} (I : Inv X pins σ H s) (ho : s'.os = s.os) (u : Un (frs X.stack) ch H H' s.heap s'.heap) (hok : HOk X.prog X.w H' s'.heap) (hg : AllBare s'.gens)
  (hch : ∀ b ∈ ch, (b ∈ X.ex \/ X.s_0.heap.objs.size ≤ b) /\ b ≠ X.env.locals /\ (∀ x c, X.env.cells.lookup x = some c -> c ≠ b) /\ ∀ p ∈ X.pn ++ pins, p.1 ≠ b) : Inv X pins σ H' s' := by
 obtain ⟨h', g', d', t', o'⟩ := s'
 have e : o' = s.os := ho
 subst e
 exact I.call (g' := g') (t' := t') (d' := d') u hok hg hch
end
abbrev XK := Value -> Option Addr -> Hp -> Prop
abbrev St := List (Option V)
abbrev VK := V -> Hp -> Prop
abbrev TE := St -> Hp -> VK -> Prop
abbrev TT := St -> Hp -> (Bool -> Hp -> Prop) -> Prop
abbrev TA := St -> Hp -> (List V -> Hp -> Prop) -> Prop
structure Ends where
 nx : St -> Hp -> Prop
 rt : VK
 bk : St -> Hp -> Prop := fun _ _ => False
 ct : St -> Hp -> Prop := fun _ _ => False
abbrev TS := Ends -> St -> Hp -> Prop
def EP (X : Cx) (pins : List (Addr × Obj)) (σ : St) (Q : VK) (u : Value) (s' : Shared) : Prop := ∃ v H', Inv X pins σ H' s' /\ RelV v u /\ Q v H'
def TP (X : Cx) (pins : List (Addr × Obj)) (σ : St) (Q : Bool -> Hp -> Prop) (b : Bool) (s' : Shared) : Prop := ∃ H', Inv X pins σ H' s' /\ Q b H'
def AP (X : Cx) (pins : List (Addr × Obj)) (σ : St) (Q : List V -> Hp -> Prop) (us : List Value) (s' : Shared) : Prop := ∃ vs H', Inv X pins σ H' s' /\ Vals vs us /\ Q vs H'
def SP (X : Cx) (pins : List (Addr × Obj)) (D : Ends) (f : Flow) (s' : Shared) : Prop :=
 match f with
 | .next => ∃ σ' H', Inv X pins σ' H' s' /\ D.nx σ' H'
 | .brk => ∃ σ' H', Inv X pins σ' H' s' /\ D.bk σ' H'
 | .cont => ∃ σ' H', Inv X pins σ' H' s' /\ D.ct σ' H'
 | .ret u => ∃ v σ' H', Inv X pins σ' H' s' /\ RelV v u /\ D.rt v H'
def PE (X : Cx) (e : Expr) (t : TE) : Prop :=
 ∀ (pins : List (Addr × Obj)) (s : Shared) (σ : St) (H : Hp) (Q : VK), Inv X pins σ H s -> t σ H Q -> wpAny (model X.prog X.w) X.A (eval e X.env) (EP X pins σ Q) X.xe s
def PT (X : Cx) (e : Expr) (t : TT) : Prop :=
 ∀ (pins : List (Addr × Obj)) (s : Shared) (σ : St) (H : Hp) (Q : Bool -> Hp -> Prop), Inv X pins σ H s -> t σ H Q -> wpAny (model X.prog X.w) X.A (isTrue e X.env (eval e X.env)) (TP X pins σ Q) X.xe s
def PW (X : Cx) (e : Expr) (t : TT) : Prop :=
 ∀ (whole : Sem Value) (pins : List (Addr × Obj)) (s : Shared) (σ : St) (H : Hp) (Q : Bool -> Hp -> Prop), Inv X pins σ H s -> t σ H Q -> wpAny (model X.prog X.w) X.A (isTrue e X.env whole) (TP X pins σ Q) X.xe s
theorem PW.pt {X : Cx} {e : Expr} {t : TT} (h : PW X e t) : PT X e t := h _
def PA (X : Cx) (es : List Expr) (t : TA) : Prop :=
 ∀ (pos : Pos) (pins : List (Addr × Obj)) (s : Shared) (σ : St) (H : Hp) (Q : List V -> Hp -> Prop), Inv X pins σ H s -> t σ H Q -> wpAny (model X.prog X.w) X.A (spliced (backTo pos (starEach es X.env))) (AP X pins σ Q) X.xe s
def PS (X : Cx) (st : Stmt) (t : TS) : Prop :=
 ∀ (pins : List (Addr × Obj)) (s : Shared) (σ : St) (H : Hp) (D : Ends), Inv X pins σ H s -> t D σ H -> wpAny (model X.prog X.w) X.A (exec st X.env) (SP X pins D) X.xe s
def PSs (X : Cx) (st : List Stmt) (t : TS) : Prop :=
 ∀ (pins : List (Addr × Obj)) (s : Shared) (σ : St) (H : Hp) (D : Ends), Inv X pins σ H s -> t D σ H -> wpAny (model X.prog X.w) X.A (execs st X.env) (SP X pins D) X.xe s
theorem thn {α : Type} {t : Sem α} {Q Q' : α -> Shared -> Prop} {M : Model} {A : Around} {E : Value -> Shared -> Prop} {s : Shared} (h : wpAny M A t Q E s) (hQ : ∀ a s, Q a s -> Q' a s) : wpAny M A t Q' E s := wpAny_mono h hQ fun _ _ x => x
end L2
namespace L2
open PySem PySem.Spec PyProof.Rows
section
variable {X : Cx}
def tVar (i : Nat) : TE := fun σ H Q => ∃ v, σ[i]? = some (some v) /\ Q v H
def tC (v : V) : TE := fun _ H Q => Q v H
theorem pe_var {i : Nat} {x : Str} {pos : Pos} (hN : X.N[i]? = some x) (hv : Vis X.env.scope x) (hd : (x == ("__debug__" : Str)) = false := by decide) (hcd : (x == ("__classdict__" : Str)) = false := by decide) : PE X (.Name x pos) (tVar i) := by
 intro pins s σ H Q I h
 obtain ⟨v, e, h⟩ := h
 obtain ⟨m, hn, hl⟩ := I.loc
 obtain ⟨u, r, l⟩ := hl i x v hN e hv
 have fin : EP X pins σ Q u s := ⟨v, H, I, r, h⟩
 rcases l with ⟨hk, hm⟩ | ⟨hk, c, hc, hcell⟩
 ·exact wpAny_Name (wpAny_loadName_local I.ok.kind hk hn hm fin) hd
 ·rcases hk with hk | hk
  ·exact wpAny_Name (wpAny_loadName_cell I.ok.kind hk hc hcell fin) hd
  ·exact wpAny_Name (wpAny_loadName_free I.ok.kind hk hc hcell fin hcd) hd
theorem pe_int {i j pos} : PE X (.Constant (.int i) j pos) (tC (.int i)) := fun _ _ _ H _ I h => wpAny_Constant_int ⟨.int i, H, I.tok _, ⟨_, rfl⟩, h⟩
theorem pe_bl {b j pos} : PE X (.Constant (.bool b) j pos) (tC (.bl b)) := fun _ _ _ H _ I h => Constant_bool ⟨.bl b, H, I, rfl, h⟩
theorem pe_non {j pos} : PE X (.Constant .none j pos) (tC .non) := fun _ _ _ H _ I h => Constant_none ⟨.non, H, I, rfl, h⟩
theorem pe_str {x j pos} : PE X (.Constant (.str x) j pos) (tC (.str x)) := fun _ _ _ H _ I h => Calls.Constant_str ⟨.str x, H, I.tok _, ⟨_, rfl⟩, h⟩
def Gl (X : Cx) (x : Str) : Prop := X.env.kindOf x = some .globalImplicit
theorem ld_glob {E : Value -> Shared -> Prop} {pins : List (Addr × Obj)} {s : Shared} {σ : St} {H : Hp} {x : Str} {u : Value} {pos : Pos} {Q : Value -> Shared -> Prop} (I : Inv X pins σ H s) (hg : Gl X x) (hm : X.mg x = some u) (h : Q u s)
  (hd : (x == ("__debug__" : Str)) = false := by decide) : wpAny (model X.prog X.w) X.A (eval (.Name x pos) X.env) Q E s :=
 Calls.Name_function_global I.ok.kind hg (Calls.loadGlobal_global (by rw [I.ok.glob]; exact I.mod.glob.keeps I.bk) hm h) hd
theorem ld_blt {E : Value -> Shared -> Prop} {pins : List (Addr × Obj)} {s : Shared} {σ : St} {H : Hp} {x : Str} {u : Value} {pos : Pos} {Q : Value -> Shared -> Prop} (I : Inv X pins σ H s) (hg : Gl X x) (hm : X.mg x = none) (hv : bootBuiltins x = some u) (h : Q u s)
  (hn : x ≠ "__name__" := by decide) (hd : (x == ("__debug__" : Str)) = false := by decide) : wpAny (model X.prog X.w) X.A (eval (.Name x pos) X.env) Q E s := by
 obtain ⟨mb, h1, h2⟩ := I.mod.blt
 exact Calls.Name_function_global I.ok.kind hg (Calls.loadGlobal_builtin (by rw [I.ok.glob]; exact I.mod.glob.keeps I.bk) hm (by rw [I.ok.blt]; exact h1.keeps I.bk) ((h2 x hn).trans hv) h) hd
theorem pe_glob {x : Str} {v : V} {u : Value} {pos : Pos} (hg : Gl X x) (hm : X.mg x = some u) (r : RelV v u) (hd : (x == ("__debug__" : Str)) = false := by decide) : PE X (.Name x pos) (tC v) :=
 fun _ _ _ H _ I h => ld_glob I hg hm ⟨v, H, I, r, h⟩ hd
variable {a b : Expr} {ta tb : TE} {pos : Pos}
def PC (X : Cx) (op : CmpOp) (a b : Expr) (t : TE) : Prop :=
 ∀ (pins : List (Addr × Obj)) (s : Shared) (σ : St) (H : Hp) (Q : VK), Inv X pins σ H s -> t σ H Q ->
  wpAny (model X.prog X.w) X.A (eval a X.env) (fun v s₁ => wpAny (model X.prog X.w) X.A (eval b X.env) (fun u s₂ => wpAny (model X.prog X.w) X.A (compareOp op v u) (EP X pins σ Q) X.xe s₂) X.xe s₁) X.xe s
theorem nobehind (b : Expr) {op : CmpOp} (h : op ≠ .In) (h2 : op ≠ .NotIn) : behindInMarks op b = false := by
 have e1 : (op == CmpOp.In) = false := by cases op <;> first | rfl | exact absurd rfl h
 have e2 : (op == CmpOp.NotIn) = false := by cases op <;> first | rfl | exact absurd rfl h2
 cases b <;> simp [behindInMarks, e1, e2]
def tIsN (ta : TE) : TE := fun σ H Q => ta σ H fun x H1 => Q (.bl (decide (x = .non))) H1
def tNotN (ta : TE) : TE := fun σ H Q => ta σ H fun x H1 => Q (.bl (!decide (x = .non))) H1
theorem RelV.none_iff {x : V} {v : Value} (r : RelV x v) : (v == Value.none) = decide (x = .non) := by
 cases x with
 | non => cases r; rfl
 | bl _ => cases r; rfl
 | int _ => obtain ⟨t, rfl⟩ := r; rfl
 | str _ => obtain ⟨t, rfl⟩ := r; rfl
 | byt _ => obtain ⟨t, rfl⟩ := r; rfl
 | flt _ => obtain ⟨t, rfl⟩ := r; rfl
 | ref _ => cases r; rfl
 | ty _ => cases r; rfl
theorem pc_isN {j pos'} (ha : PE X a ta) : PC X .Is a (.Constant .none j pos') (tIsN ta) := by
 intro pins s σ H Q I h
 refine thn (ha pins s σ H _ I h) fun v s1 ⟨x, H1, I1, r1, q1⟩ => ?_
 exact Constant_none (is_none_gen ⟨.bl _, H1, I1, by rw [r1.none_iff]; rfl, q1⟩)
theorem pc_notN {j pos'} (ha : PE X a ta) : PC X .IsNot a (.Constant .none j pos') (tNotN ta) := by
 intro pins s σ H Q I h
 refine thn (ha pins s σ H _ I h) fun v s1 ⟨x, H1, I1, r1, q1⟩ => ?_
 exact Constant_none (isnot_none_gen ⟨.bl _, H1, I1, by rw [r1.none_iff]; rfl, q1⟩)
def tB (t : TE) : TT := fun σ H Q => t σ H fun x H1 => ∃ c, x = .bl c /\ Q c H1
theorem pe_cmp {op : CmpOp} {t : TE} (h : PC X op a b t) (h1 : behindInMarks op b = false := by first | exact nobehind _ (by decide) (by decide) | rfl) : PE X (.Compare a [op] [b] pos) t := fun pins s σ H Q I hw => wpAny_Compare1 (h pins s σ H Q I hw) h1
theorem pt_cmp {op : CmpOp} {t : TE} (h : PC X op a b t) (h1 : behindInMarks op b = false := by first | exact nobehind _ (by decide) (by decide) | rfl) : PT X (.Compare a [op] [b] pos) (tB t) := by
 intro pins s σ H Q I hw
 refine wpAny_isTrue_Compare1 (thn (h pins s σ H _ I hw) fun v s1 h1 => thn h1 fun u s2 h2 => thn h2 fun c s3 ⟨x, H1, I1, r1, q1⟩ => ?_) h1
 obtain ⟨d, rfl, q⟩ := q1
 cases r1
 exact wpAny_truthy_bool ⟨H1, I1, q⟩
theorem pt_val {e : Expr} {t : TE} (h : PE X e t) (he : ∀ whole, isTrue e X.env whole = (do let v <- whole; standAt e.pos; holding [v] (truthy v)) := by intro _; rfl) : PT X e (tB t) := by
 intro pins s σ H Q I hw
 refine isTrue_plain (thn (h pins s σ H _ I hw) fun v s1 ⟨x, H1, I1, r1, q1⟩ => ?_) (he _)
 obtain ⟨d, rfl, q⟩ := q1
 cases r1
 exact wpAny_truthy_bool ⟨H1, I1, q⟩
variable {tA tB' : TT} {rest : List Expr}
def tAnd (t u : TT) : TT := fun σ H Q => t σ H fun c H1 => if c = true then u σ H1 Q else Q false H1
def tOr (t u : TT) : TT := fun σ H Q => t σ H fun c H1 => if c = true then Q true H1 else u σ H1 Q
def tNot (t : TT) : TT := fun σ H Q => t σ H fun c H1 => Q (!c) H1
theorem pw_and1 (ha : PT X a tA) : PW X (.BoolOp .And [a] pos) tA := by
 intro wh pins s σ H Q I h
 refine isTrue_and (thn (ha pins s σ H Q I h) fun c s1 e => ?_)
 cases c with
 | true => exact isTrue_and_nil e
 | false => exact e
theorem pw_or1 (ha : PT X a tA) : PW X (.BoolOp .Or [a] pos) tA := by
 intro wh pins s σ H Q I h
 refine isTrue_or (thn (ha pins s σ H Q I h) fun c s1 e => ?_)
 cases c with
 | false => exact isTrue_or_nil e
 | true => exact e
theorem pw_and (ha : PT X a tA) (hb : PW X (.BoolOp .And (b :: rest) pos) tB') : PW X (.BoolOp .And (a :: b :: rest) pos) (tAnd tA tB') := by
 intro wh pins s σ H Q I h
 refine isTrue_and (thn (ha pins s σ H _ I h) fun c s1 ⟨H1, I1, q1⟩ => ?_)
 cases c with
 | true => exact hb wh pins s1 σ H1 Q I1 q1
 | false => exact ⟨H1, I1, q1⟩
theorem pw_or (ha : PT X a tA) (hb : PW X (.BoolOp .Or (b :: rest) pos) tB') : PW X (.BoolOp .Or (a :: b :: rest) pos) (tOr tA tB') := by
 intro wh pins s σ H Q I h
 refine isTrue_or (thn (ha pins s σ H _ I h) fun c s1 ⟨H1, I1, q1⟩ => ?_)
 cases c with
 | true => exact ⟨H1, I1, q1⟩
 | false => exact hb wh pins s1 σ H1 Q I1 q1
theorem pt_not (ha : PT X a tA) : PT X (.UnaryOp .Not a pos) (tNot tA) := by
 intro pins s σ H Q I h
 exact isTrue_not (ha pins s σ H (fun c H1 => Q (!c) H1) I h)
def tAndV (ta tb : TE) : TE := fun σ H Q => ta σ H fun x H1 => ∃ c, x = .bl c /\ if c = true then tb σ H1 Q else Q (.bl false) H1
def tOrV (ta tb : TE) : TE := fun σ H Q => ta σ H fun x H1 => ∃ c, x = .bl c /\ if c = true then Q (.bl true) H1 else tb σ H1 Q
theorem pe_one {op} {t : TE} (h : PE X a t) : PE X (.BoolOp op [a] pos) t := fun pins s σ H Q I hw => BoolOp_one (h pins s σ H Q I hw)
theorem pe_and (ha : PE X a ta) (hb : PE X (.BoolOp .And (b :: rest) pos) tb) : PE X (.BoolOp .And (a :: b :: rest) pos) (tAndV ta tb) := by
 intro pins s σ H Q I h
 refine BoolOp_and (thn (ha pins s σ H _ I h) fun v s1 ⟨x, H1, I1, r1, q1⟩ => ?_)
 obtain ⟨c, rfl, q1⟩ := q1
 cases r1
 refine wpAny_truthy_bool ?_
 cases c with
 | true => exact hb pins s1 σ H1 Q I1 q1
 | false => exact ⟨.bl false, H1, I1, rfl, q1⟩
theorem pe_or (ha : PE X a ta) (hb : PE X (.BoolOp .Or (b :: rest) pos) tb) : PE X (.BoolOp .Or (a :: b :: rest) pos) (tOrV ta tb) := by
 intro pins s σ H Q I h
 refine BoolOp_or (thn (ha pins s σ H _ I h) fun v s1 ⟨x, H1, I1, r1, q1⟩ => ?_)
 obtain ⟨c, rfl, q1⟩ := q1
 cases r1
 refine wpAny_truthy_bool ?_
 cases c with
 | false => exact hb pins s1 σ H1 Q I1 q1
 | true => exact ⟨.bl true, H1, I1, rfl, q1⟩
def tIf (t : TT) (ta tb : TE) : TE := fun σ H Q => t σ H fun c H1 => if c = true then ta σ H1 Q else tb σ H1 Q
theorem pe_ifExp {c : Expr} (hc : PT X c tA) (ha : PE X a ta) (hb : PE X b tb) : PE X (.IfExp c a b pos) (tIf tA ta tb) := by
 intro pins s σ H Q I h
 refine wpAny_IfExp (thn (hc pins s σ H _ I h) fun d s1 ⟨H1, I1, q1⟩ => ?_)
 cases d with
 | true => exact ha pins s1 σ H1 Q I1 q1
 | false => exact hb pins s1 σ H1 Q I1 q1
end
end L2
namespace L2
open PySem PySem.Spec PyProof.Rows
def SqL (K : PySem.W.Frag) (H : Hp) (a : Addr) (xs : List V) : Prop :=
 Rd H a (.lst xs) \/
  ∃ (o : Obj) (its : Array Value) (n : Nat), K.lookup a = some o /\ o.cls = .type "list" /\ o.dict = none /\ o.data = .seq its n /\ its.size ≤ sizeLine /\ Vals xs its.toList
def SqT (K : PySem.W.Frag) (H : Hp) (a : Addr) (xs : List V) : Prop :=
 Rd H a (.tup xs) \/
  ∃ (o : Obj) (its : Array Value) (n : Nat), K.lookup a = some o /\ o.cls = .type "tuple" /\ o.data = .seq its n /\ its.size ≤ sizeLine /\ Vals xs its.toList
def absV : Value -> Option V
 | .none => some .non
 | .bool b => some (.bl b)
 | .int i _ => some (.int i)
 | .str x _ => some (.str x)
 | .bytes b _ => some (.byt b)
 | .float b _ => some (.flt b)
 | .ref a => some (.ref a)
 | .type n => some (.ty n)
 | _ => none
theorem RelV.abs {x : V} {u : Value} (r : RelV x u) : absV u = some x := by
 cases x with
 | non => cases r; rfl
 | bl _ => cases r; rfl
 | int _ => obtain ⟨t, rfl⟩ := r; rfl
 | str _ => obtain ⟨t, rfl⟩ := r; rfl
 | byt _ => obtain ⟨t, rfl⟩ := r; rfl
 | flt _ => obtain ⟨t, rfl⟩ := r; rfl
 | ref _ => cases r; rfl
 | ty _ => cases r; rfl
theorem RelV.inj {x y : V} {u : Value} (r : RelV x u) (q : RelV y u) : x = y := Option.some.inj (r.abs.symm.trans q.abs)
theorem Vals.inj : ∀ {xs ys : List V} {us : List Value}, Vals xs us -> Vals ys us -> xs = ys
 | _, _, _, .nil, .nil => rfl
 | _, _, _, .cons r t, .cons r' t' => by rw [r.inj r', Vals.inj t t']
section
variable {X : Cx} {pins : List (Addr × Obj)} {σ : St} {H : Hp} {s : Shared} {a : Addr} {xs ys : List V}
theorem SqL.of {K : PySem.W.Frag} (h : H a = some (.lst xs)) : SqL K H a xs := .inl (.inl h)
theorem SqT.of {K : PySem.W.Frag} (h : H a = some (.tup xs)) : SqT K H a xs := .inl (.inl h)
theorem Inv.list (I : Inv X pins σ H s) (h : SqL X.K H a xs) : ∃ its : List Value, Vals xs its /\ PlainL s.heap a its.toArray /\ xs.length ≤ sizeLine := by
 rcases h with h | ⟨o, its, n, hk, hc, hd, hs, hz, r⟩
 ·obtain ⟨z, its, n, r, e⟩ := h.ok I.hok
  exact ⟨its, r, ⟨_, n, e, rfl, rfl, rfl⟩, z⟩
 ·refine ⟨its.toList, r, ⟨o, n, I.kIn a o hk, hc, hd, by simpa using hs⟩, ?_⟩
  have e := r.length
  simp only [Array.length_toList] at e
  omega
theorem Inv.tuple (I : Inv X pins σ H s) (h : SqT X.K H a xs) : ∃ its : List Value, Vals xs its /\ IsTup s.heap a its.toArray /\ xs.length ≤ sizeLine := by
 rcases h with h | ⟨o, its, n, hk, hc, hs, hz, r⟩
 ·obtain ⟨z, its, r, p⟩ := h.ok I.hok
  exact ⟨its, r, p, z⟩
 ·refine ⟨its.toList, r, ⟨o, I.kIn a o hk, hc, n, by simpa using hs⟩, ?_⟩
  have e := r.length
  simp only [Array.length_toList] at e
  omega
theorem Inv.list_inj (I : Inv X pins σ H s) (h : SqL X.K H a xs) (h' : SqL X.K H a ys) : xs = ys := by
 obtain ⟨its, r, ⟨o, n, e, _, _, d⟩, _⟩ := I.list h
 obtain ⟨its', r', ⟨o', n', e', _, _, d'⟩, _⟩ := I.list h'
 rw [e] at e'; cases e'
 rw [d] at d'
 injection d' with d1 _
 have : its = its' := by simpa using congrArg Array.toList d1
 subst this
 exact r.inj r'
end
abbrev Cx.wish (X : Cx) (E : Value -> Shared -> Prop) : Cx := { X with xe := E }
abbrev Cx.nox (X : Cx) : Cx := X.wish fun _ _ => False
theorem Cx.Ok.wish {X : Cx} (ok : X.Ok) (E : Value -> Shared -> Prop) : (X.wish E).Ok :=
 ⟨ok.mod, ok.kind, ok.glob, ok.blt, ok.above, ok.inj, ok.has, ok.cab, ok.hd, ok.frames, ok.stk, ok.exf, ok.bs, ok.bsz, ok.noex, ok.exfs, ok.funs, ok.frf⟩
theorem Cx.Ok.unwish {X : Cx} {E : Value -> Shared -> Prop} (ok : (X.wish E).Ok) : X.Ok :=
 ⟨ok.mod, ok.kind, ok.glob, ok.blt, ok.above, ok.inj, ok.has, ok.cab, ok.hd, ok.frames, ok.stk, ok.exf, ok.bs, ok.bsz, ok.noex, ok.exfs, ok.funs, ok.frf⟩
section
variable {X : Cx} {pins : List (Addr × Obj)} {σ : St} {H : Hp} {s : Shared} {E : Value -> Shared -> Prop}
theorem Inv.wish (I : Inv X pins σ H s) (E : Value -> Shared -> Prop) : Inv (X.wish E) pins σ H s := ⟨I.ok.wish E, I.os, I.bare, I.base, I.loc, I.cell, I.free, I.freeC, I.pin, I.hok, I.len⟩
theorem Inv.unwish (I : Inv (X.wish E) pins σ H s) : Inv X pins σ H s := ⟨I.ok.unwish, I.os, I.bare, I.base, I.loc, I.cell, I.free, I.freeC, I.pin, I.hok, I.len⟩
theorem SP.unwish {D : Ends} {f : Flow} {s' : Shared} (h : SP (X.wish E) pins D f s') : SP X pins D f s' := by
 cases f with
 | next => obtain ⟨σ', H', I, q⟩ := h; exact ⟨σ', H', I.unwish, q⟩
 | brk => obtain ⟨σ', H', I, q⟩ := h; exact ⟨σ', H', I.unwish, q⟩
 | cont => obtain ⟨σ', H', I, q⟩ := h; exact ⟨σ', H', I.unwish, q⟩
 | ret u => obtain ⟨v, σ', H', I, r, q⟩ := h; exact ⟨v, σ', H', I.unwish, r, q⟩
theorem PSs.nox {st : List Stmt} {t : TS} (h : PSs X.nox st t) : PSs X st t := fun pins s σ H D I hw =>
 wpAny_mono (h pins s σ H D (I.wish _) hw) (fun _ _ q => q.unwish) fun _ _ z => False.elim z
end
section
variable {X : Cx} {st : Stmt} {rest : List Stmt} {t u : TS} {e : Expr} {te : TE} {pos : Pos}
def tNext : TS := fun D σ H => D.nx σ H
def tSeq (t u : TS) : TS := fun D σ H => t { D with nx := u D } σ H
theorem pss_nil : PSs X [] tNext := fun _ _ σ H _ I h => wpAny_execs_nil ⟨σ, H, I, h⟩
theorem pss_cons (h1 : PS X st t) (h2 : PSs X rest u) : PSs X (st :: rest) (tSeq t u) := by
 intro pins s σ H D I h
 refine wpAny_execs_cons (thn (h1 pins s σ H { D with nx := u D } I h) fun f s1 q => ?_)
 cases f with
 | next =>
  obtain ⟨σ', H', I', q⟩ := q
  exact h2 pins s1 σ' H' D I' q
 | ret v => exact q
 | brk => exact q
 | cont => exact q
theorem pss_one (h1 : PS X st t) : PSs X [st] t := by
 intro pins s σ H D I h
 refine wpAny_execs_cons (thn (h1 pins s σ H D I h) fun f s1 q => ?_)
 cases f with
 | next => exact wpAny_execs_nil q
 | ret v => exact q
 | brk => exact q
 | cont => exact q
def tCont : TS := fun D σ H => D.ct σ H
theorem ps_continue : PS X (.Continue pos) tCont := fun _ _ σ H _ I h => wpAny_Continue ⟨σ, H, I, h⟩
theorem Inv.quiet {pins : List (Addr × Obj)} {σ : St} {H : Hp} {s : Shared} (I : Inv X pins σ H s) : interactive X.env = false := by simp [interactive, I.ok.kind]
def tDrop (te : TE) : TS := fun D σ H => te σ H fun _ H1 => D.nx σ H1
theorem ps_expr (he : PE X e te) (hs : swapsWith e none pos.line X.env = pure false := by rfl) : PS X (.Expr e pos) (tDrop te) := by
 intro pins s σ H D I h
 exact wpAny_Expr_any (thn (he pins s σ H _ I h) fun v s1 ⟨x, H1, I1, r1, q1⟩ => ⟨σ, H1, I1, q1⟩) I.quiet hs
def tRet (te : TE) : TS := fun D σ H => te σ H D.rt
theorem ps_ret (he : PE X e te) : PS X (.Return (some e) pos) (tRet te) := by
 intro pins s σ H D I h
 exact wpAny_Return_some (thn (he pins s σ H _ I h) fun v s1 ⟨x, H1, I1, r1, q1⟩ => ⟨x, σ, H1, I1, r1, q1⟩)
def tIfS (c : TT) (t u : TS) : TS := fun D σ H => c σ H fun b H1 => if b = true then t D σ H1 else u D σ H1
theorem ps_if {c : Expr} {a b : List Stmt} {tc : TT} (hc : PT X c tc) (ha : PSs X a t) (hb : PSs X b u) : PS X (.If c a b pos) (tIfS tc t u) := by
 intro pins s σ H D I h
 refine wpAny_If (thn (hc pins s σ H _ I h) fun d s1 ⟨H1, I1, q1⟩ => ?_)
 cases d with
 | true => exact ha pins s1 σ H1 D I1 q1
 | false => exact hb pins s1 σ H1 D I1 q1
end
abbrev TG := V -> St -> Hp -> (St -> Hp -> Prop) -> Prop
def PG (X : Cx) (target : Expr) (t : TG) : Prop :=
 ∀ (pins : List (Addr × Obj)) (s : Shared) (σ : St) (H : Hp) (v : V) (u : Value) (Q : St -> Hp -> Prop), Inv X pins σ H s -> RelV v u -> t v σ H Q ->
  wpAny (model X.prog X.w) X.A (assign target X.env u) (fun _ s' => ∃ σ' H', Inv X pins σ' H' s' /\ Q σ' H') X.xe s
abbrev TIp := V -> V -> Hp -> VK -> Prop
def PIp (X : Cx) (op : Operator) (t : TIp) : Prop :=
 ∀ (pins : List (Addr × Obj)) (s : Shared) (σ : St) (H : Hp) (x y : V) (v u : Value) (Q : VK), Inv X pins σ H s -> RelV x v -> RelV y u -> t x y H Q ->
  wpAny (model X.prog X.w) X.A (inplaceOp op v u) (EP X pins σ Q) X.xe s
section
variable {X : Cx} {pos : Pos}
def gName (i : Nat) : TG := fun v σ H Q => Q (σ.set i (some v)) H
theorem pg_name {i : Nat} {x : Str} (hN : X.N.Nodup) (hi : X.N[i]? = some x) (hx : Loc X.env.scope x) (hf : X.fn x = true \/ X.env.scope.names.lookup x = some .local := by first | exact .inl rfl | exact .inr rfl | assumption) : PG X (.Name x pos) (gName i) := by
 intro pins s σ H v u Q I r h
 exact wpAny_assign_Name (store_ok I hN hi hx r (fun s' I' => ⟨_, H, I', h⟩) hf)
def tAsg (te : TE) (g : TG) : TS := fun D σ H => te σ H fun x H1 => g x σ H1 D.nx
theorem ps_set {i : Nat} {x : Str} {e : Expr} {te : TE} {pos' : Pos} (hN : X.N.Nodup) (hi : X.N[i]? = some x) (hx : Loc X.env.scope x) (he : PE X e te) (hs : swapsWith e (some (.Name x pos')) pos.line X.env = pure false := by rfl) (hf : X.fn x = true \/ X.env.scope.names.lookup x = some .local := by first | exact .inl rfl | exact .inr rfl | assumption) :
  PS X (.Assign [.Name x pos'] e pos) (tAsg te (gName i)) := by
 intro pins s σ H D I h
 refine wpAny_Assign_Name (thn (he pins s σ H _ I h) fun v s1 ⟨y, H1, I1, r1, q1⟩ => ?_) hs
 exact store_ok I1 hN hi hx r1 (fun s2 I2 => ⟨_, H1, I2, q1⟩) hf
def tAug (i : Nat) (te : TE) (ti : TIp) : TS := fun D σ H => ∃ x, σ[i]? = some (some x) /\ te σ H fun y H1 => ti x y H1 fun z H2 => D.nx (σ.set i (some z)) H2
theorem ps_aug {i : Nat} {x : Str} {e : Expr} {te : TE} {op : Operator} {ti : TIp} {pos' : Pos} (hN : X.N.Nodup) (hi : X.N[i]? = some x) (hx : Loc X.env.scope x) (he : PE X e te) (ho : PIp X op ti) (hf : X.fn x = true \/ X.env.scope.names.lookup x = some .local := by first | exact .inl rfl | exact .inr rfl | assumption) :
  PS X (.AugAssign (.Name x pos') op e pos) (tAug i te ti) := by
 intro pins s σ H D I h
 obtain ⟨v, e1, h⟩ := h
 obtain ⟨m, hn, hl⟩ := I.loc
 have vis : Vis X.env.scope x := by rcases hx with k | k; exact .inl k; exact .inr (.inl k)
 obtain ⟨u, r, l⟩ := hl i x v hi e1 vis
 refine wpAny_AugAssign_Name ?_
 have go : wpAny (model X.prog X.w) X.A (eval e X.env) (fun w s₂ => wpAny (model X.prog X.w) X.A (inplaceOp op u w) (fun r s₃ => wpAny (model X.prog X.w) X.A (storeName X.env x r) (fun _ => SP X pins D .next) X.xe s₃) X.xe s₂) X.xe s := by
  refine thn (he pins s σ H _ I h) fun w s1 ⟨y, H1, I1, r1, q1⟩ => ?_
  refine thn (ho pins s1 σ H1 v y u w _ I1 r r1 q1) fun z s2 ⟨zv, H2, I2, r2, q2⟩ => ?_
  exact store_ok I2 hN hi hx r2 (fun s3 I3 => ⟨_, H2, I3, q2⟩) hf
 rcases l with ⟨hk, hm⟩ | ⟨hk, c, hc, hcell⟩
 ·exact wpAny_loadName_local I.ok.kind hk hn hm go
 ·rcases hk with hk | hk
  ·exact wpAny_loadName_cell I.ok.kind hk hc hcell go
  ·rcases hx with k | k
   ·have : X.env.scope.names.lookup x = some .free := hk
    rw [k] at this; cases this
   ·have : X.env.scope.names.lookup x = some .free := hk
    rw [k] at this; cases this
def ipI (f : Int -> Int -> Int) : TIp := fun x y H Q => ∃ i j, x = .int i /\ y = .int j /\ Q (.int (f i j)) H
theorem ip_add : PIp X .Add (ipI fun i j => i + j) := by
 intro pins s σ H x y v u Q I r1 r2 h
 obtain ⟨i, j, e1, e2, q⟩ := h
 subst e1; subst e2
 obtain ⟨t, rfl⟩ := r1
 obtain ⟨t', rfl⟩ := r2
 exact iadd_int ⟨.int _, H, I.tok _, ⟨_, rfl⟩, q⟩
end
section
variable {X : Cx} {pos : Pos}
def tWhile (c : TT) (tb : TS) : TS := fun D σ H => ∃ W : Nat -> St -> Hp -> Prop, (∃ m, W m σ H) /\ ∀ m σ H, W m σ H ->
 c σ H fun b H1 => if b = true then ∃ N : St -> Hp -> Prop, (∀ σ' H', N σ' H' -> ∃ m', m' < m /\ W m' σ' H') /\ tb { D with nx := N, ct := N, bk := D.nx } σ H1 else D.nx σ H1
theorem ps_while {c : Expr} {body : List Stmt} {tc : TT} {tb : TS} (hp : PassesOwn (model X.prog X.w) X.A X.env X.xe) (hc : PT X c tc) (hb : PSs X body tb) : PS X (.While c body [] pos) (tWhile tc tb) := by
 intro pins s σ H D I h
 obtain ⟨W, ⟨m0, w0⟩, turn⟩ := h
 refine wpAny_While (codeAny_whileLoop (fun n s' => ∃ σ' H', Inv X pins σ' H' s' /\ W n σ' H') ?_ m0 ⟨σ, H, I, w0⟩)
 rintro n s1 ⟨σ1, H1, I1, w1⟩
 refine wpAny_passesOwn hp (thn (hc pins s1 σ1 H1 _ I1 (turn n σ1 H1 w1)) fun b s2 ⟨H2, I2, q2⟩ => ?_)
 cases b with
 | true =>
  obtain ⟨N, hN, q2⟩ := q2
  rw [if_pos rfl]
  refine wpAny_passesOwn hp (thn (hb pins s2 σ1 H2 _ I2 q2) fun f s3 q3 => ?_)
  cases f with
  | next =>
   obtain ⟨σ3, H3, I3, n3⟩ := q3
   obtain ⟨m', hm, w3⟩ := hN σ3 H3 n3
   exact ⟨m', hm, σ3, H3, I3, w3⟩
  | cont =>
   obtain ⟨σ3, H3, I3, n3⟩ := q3
   obtain ⟨m', hm, w3⟩ := hN σ3 H3 n3
   exact ⟨m', hm, σ3, H3, I3, w3⟩
  | brk => exact q3
  | ret v => exact q3
 | false =>
  rw [if_neg Bool.false_ne_true]
  exact wpAny_execs_nil ⟨σ1, H2, I2, q2⟩
end
structure It where
 go : Nat -> Hp -> Prop
 yld : Nat -> Hp -> V -> Hp -> Prop
 stop : Nat -> Hp -> Prop
def FpOk (X : Cx) (pins : List (Addr × Obj)) (H : Hp) (b : Addr) : Prop :=
 H b = none /\ b ≠ X.env.locals /\ b ∉ X.fs /\ (b ∈ X.ex \/ X.s_0.heap.objs.size ≤ b) /\ (∀ x c, X.env.cells.lookup x = some c -> c ≠ b) /\ ∀ p ∈ X.pn ++ pins, p.1 ≠ b
theorem Inv.fpOk {X : Cx} {pins : List (Addr × Obj)} {σ : St} {H H' : Hp} {s : Shared} {b : Addr} (I : Inv X pins σ H s) (hb : s.heap.objs.size ≤ b) (hn : H' b = none) : FpOk X pins H' b := by
 refine ⟨hn, Nat.ne_of_gt (Nat.lt_of_lt_of_le I.lt hb), I.nofs hb, .inr (Nat.le_trans I.sz hb), fun x c e z => ?_, fun p hp z => ?_⟩
 ·obtain ⟨v, q⟩ := I.cell x c e
  exact absurd (Nat.lt_of_lt_of_le q.lt (by rw [z]; exact hb)) (Nat.lt_irrefl _)
 ·exact absurd (Nat.lt_of_lt_of_le (Heap.lt_size (I.pin p hp).1) (by rw [z]; exact hb)) (Nat.lt_irrefl _)
structure Turn (P : Program) (w : World) (K : PySem.W.Frag) (tg : Expr) (J : It) (fp : List Addr) (it : Addr) (tn : Nat -> Heap -> Prop) : Prop where
 mem : it ∈ fp
 obj : ∀ i h, tn i h -> ∀ b ∈ fp, ∃ o, h.get? b = some o /\ ∀ v, o.data ≠ .cell v
 keep : ∀ i h h', tn i h -> (∀ b ∈ fp, ∀ o, h.get? b = some o -> h'.get? b = some o) -> tn i h'
 item : ∀ (X : Cx), X.prog = P -> X.w = w -> X.K = K -> X.calm = true -> ∀ (i : Nat) (pins : List (Addr × Obj)) (s : Shared) (σ : St) (H : Hp) (E : Value -> Shared -> Prop), Inv X pins σ H s -> (∀ b ∈ fp, FpOk X pins H b) -> tn i s.heap -> J.go i H ->
  wpAny (model P w) X.A (pyNext (.ref it)) (fun r s1 => ∃ u, r = some u /\
   wpAny (model P w) X.A (letOwnedTupleGo tg (.ref it) u) (fun _ s2 => ∃ x H', Inv X pins σ H' s2 /\ RelV x u /\ J.yld i H x H' /\ tn (i + 1) s2.heap /\ ∀ b ∈ fp, H' b = none) E s1) E s
 done : ∀ (X : Cx), X.prog = P -> X.w = w -> X.K = K -> X.calm = true -> ∀ (i : Nat) (pins : List (Addr × Obj)) (s : Shared) (σ : St) (H : Hp) (E : Value -> Shared -> Prop), Inv X pins σ H s -> (∀ b ∈ fp, FpOk X pins H b) -> tn i s.heap -> J.stop i H ->
  wpAny (model P w) X.A (pyNext (.ref it)) (fun r s1 => r = none /\ Inv X pins σ H s1) E s
 self : ∀ (A : Around) (i : Nat) (s : Shared) (Q : Value -> Shared -> Prop) (E : Value -> Shared -> Prop), tn i s.heap -> Q (.ref it) s -> wpAny (model P w) A (pyIter (.ref it)) Q E s
abbrev TI := St -> Hp -> (It -> Hp -> Prop) -> Prop
def PIE (X : Cx) (pins : List (Addr × Obj)) (σ : St) (tg : Expr) (R : It -> Hp -> Prop) (itv : Value) (s2 : Shared) : Prop :=
 ∃ (it : Addr) (fp : List Addr) (tn : Nat -> Heap -> Prop) (J : It) (H' : Hp), itv = .ref it /\ Inv X pins σ H' s2 /\ Turn X.prog X.w X.K tg J fp it tn /\ tn 0 s2.heap /\ (∀ b ∈ fp, FpOk X pins H' b) /\ R J H'
def PI (X : Cx) (tg iter : Expr) (wi : TI) : Prop :=
 ∀ (pins : List (Addr × Obj)) (s : Shared) (σ : St) (H : Hp) (R : It -> Hp -> Prop), Inv X pins σ H s -> wi σ H R ->
  wpAny (model X.prog X.w) X.A (eval iter X.env) (fun v s1 => wpAny (model X.prog X.w) X.A (pyIter v) (PIE X pins σ tg R) X.xe s1) X.xe s
theorem go_of {M : Model} {A : Around} {E : Value -> Shared -> Prop} {s : Shared} {tg : Expr} {it : Addr} {u : Value} {o : Obj} {n : String} {vs : Array Value} {Q : Unit -> Shared -> Prop} (ho : s.heap.get? it = some o) (hc : o.cls = .type n) (hd : o.data = .fields vs)
    (hn : ["enumerate", "zip", "dict_itemiterator", "dict_reverseitemiterator", "odict_iterator", "itertools.zip_longest", "itertools.pairwise"].contains n = false) (hQ : Q () s) : wpAny M A (letOwnedTupleGo tg (.ref it) u) Q E s := by
  unfold letOwnedTupleGo
  cases tg <;> first
    | exact wpAny_pure hQ
    | (cases u <;> first
        | exact wpAny_pure hQ
        | (refine wpAny_bind (wpAny_load ho ?_)
           rw [hc, hd]
           show wpAny M A (if (["enumerate", "zip", "dict_itemiterator", "dict_reverseitemiterator", "odict_iterator", "itertools.zip_longest", "itertools.pairwise"].contains n && vs[0]? == some (rawInt _)) = true then _ else _) Q E s
           rw [if_neg (by intro h; rw [hn, Bool.false_and] at h; cases h)]
           exact wpAny_pure hQ))
def Itl (K : PySem.W.Frag) (a : Addr) : It :=
 ⟨fun i H => ∃ xs x, SqL K H a xs /\ xs[i]? = some x, fun i H x H' => H' = H /\ ∀ xs, SqL K H a xs -> xs[i]? = some x, fun i H => ∃ xs, SqL K H a xs /\ xs.length ≤ i⟩
def Itr (lo : Int) (n : Nat) : It := ⟨fun i _ => i < n, fun i H x H' => H' = H /\ x = .int (lo + i), fun i _ => n ≤ i⟩
theorem turn_list {P : Program} {w : World} {K : PySem.W.Frag} {tg : Expr} (a it : Addr) : Turn P w K tg (Itl K a) [it] it (fun i h => h.IsListIter it a i) where
 mem := by simp
 obj := fun i h st b hb => by
  have e : b = it := by simpa using hb
  subst e
  obtain ⟨o, e, c, d⟩ := st
  exact ⟨o, e, fun v z => by rw [d] at z; cases z⟩
 keep := fun i h h' st k => st.at fun o e => k it (by simp) o e
 item := by
  intro X hP hw hK hc i pins s σ H E I hf st hg
  subst hP hw hK
  obtain ⟨xs, x, hq, hx⟩ := hg
  obtain ⟨its, rv, p, hz⟩ := I.list hq
  obtain ⟨u, hu, ru⟩ := rv.get hx
  obtain ⟨f0, f1, f2, f3, f4, f5⟩ := hf it (by simp)
  refine wpAny_pyNext_list_item st p.isList (x := u) (by simpa using hu) fun h' st' sb => ?_
  have I1 : Inv X pins σ H { s with heap := h' } := I.turned (t' := s.toks) (fun b o hb e => (sb.2 b hb).trans e) f0 f1 f3 f4 f5
  obtain ⟨o, e, c, d⟩ := id st'
  exact ⟨u, rfl, go_of (s := { s with heap := h' }) e c d (by decide) ⟨x, H, I1, ru, ⟨rfl, fun ys hy => by rw [I.list_inj hy hq]; exact hx⟩, st', fun b hb => (hf b hb).1⟩⟩
 done := by
  intro X hP hw hK hc i pins s σ H E I hf st hg
  subst hP hw hK
  obtain ⟨xs, hq, hx⟩ := hg
  obtain ⟨its, rv, p, hz⟩ := I.list hq
  obtain ⟨f0, f1, f2, f3, f4, f5⟩ := hf it (by simp)
  have hl := rv.length
  exact wpAny_pyNext_list_end (I.ok.hd hc) st p.isList (by simp; omega) fun h' eb => ⟨rfl, I.turned (t' := s.toks) (fun b o hb e => eb b o hb e) f0 f1 f3 f4 f5⟩
 self := fun _ _ _ _ _ st h => wpAny_pyIter_listiter st h
theorem turn_range {P : Program} {w : World} {K : PySem.W.Frag} {tg : Expr} (it : Addr) (lo : Int) (n : Nat) : Turn P w K tg (Itr lo n) [it] it (fun i h => IsRangeIter h it (lo + (i : Nat) * 1) ((n : Int) - (i : Nat)) 1) where
 mem := by simp
 obj := fun i h st b hb => by
  have e : b = it := by simpa using hb
  subst e
  exact ⟨_, st, fun v z => by
   have z' : Data.fields _ = Data.cell v := z
   cases z'⟩
 keep := fun i h h' st k => k it (by simp) _ st
 item := by
  intro X hP hw hK hc i pins s σ H E I hf st hg
  subst hP hw hK
  obtain ⟨f0, f1, f2, f3, f4, f5⟩ := hf it (by simp)
  have W := Walks.range (prog := X.prog) (w := X.w) (I.ok.hd hc) it lo 1 n
  refine W.item i s _ _ hg st fun v h' tk hv st' kk => ?_
  obtain ⟨t, rfl⟩ := hv
  have I1 : Inv X pins σ H { s with heap := h', toks := tk } := I.turned (fun b o hb e => kk b o (by simpa using hb) e) f0 f1 f3 f4 f5
  refine ⟨_, rfl, go_of (s := { s with heap := h', toks := tk }) (n := "range_iterator") st' rfl rfl (by decide) ⟨.int (lo + i), H, I1, ⟨t, ?_⟩, ⟨rfl, rfl⟩, st', fun b hb => (hf b hb).1⟩⟩
  rw [Int.mul_one]
 done := by
  intro X hP hw hK hc i pins s σ H E I hf st hg
  subst hP hw hK
  obtain ⟨f0, f1, f2, f3, f4, f5⟩ := hf it (by simp)
  exact wpAny_pyNext_range_end (I.ok.hd hc) st (by have : n ≤ i := hg; omega) fun h' eb => ⟨rfl, I.turned (t' := s.toks) (fun b o hb e => eb b o hb e) f0 f1 f3 f4 f5⟩
 self := fun _ _ _ _ _ st h => wpAny_pyIter_rangeiter st h
end L2
namespace L2
open PySem PySem.Spec PyProof.Rows
section
variable {X : Cx} {tg : Expr}
def iList (K : PySem.W.Frag) (tl : TE) : TI := fun σ H R => tl σ H fun x H1 => ∃ a, x = .ref a /\ (∃ xs, SqL K H1 a xs) /\ R (Itl K a) H1
theorem pi_list {l : Expr} {tl : TE} (hl : PE X l tl) : PI X tg l (iList X.K tl) := by
 intro pins s σ H R I h
 refine thn (hl pins s σ H _ I h) fun v s1 ⟨x, H1, I1, r1, q1⟩ => ?_
 obtain ⟨a, e, ⟨xs, hq⟩, q⟩ := q1
 subst e
 cases r1
 obtain ⟨its, rv, p, hz⟩ := I1.list hq
 refine wpAny_pyIter_list p.isList ?_
 refine ⟨s1.heap.objs.size, [s1.heap.objs.size], _, _, H1, rfl, I1.kept (t' := s1.toks) fun b o e => Heap.get?_push_of_some _ e, turn_list a _, ⟨_, Heap.get?_push_size _ rfl, rfl, rfl⟩, fun b hb => ?_, q⟩
 have e : b = s1.heap.objs.size := by simpa using hb
 subst e
 exact I1.fpOk (Nat.le_refl _) (I1.hok.fresh (Nat.le_refl _))
theorem range_it {pins : List (Addr × Obj)} {σ : St} {H : Hp} {s : Shared} {R : It -> Hp -> Prop} {E : Value -> Shared -> Prop} {lo hi : Int} {t u v : Tok} {tk : Nat} (I : Inv X pins σ H s) (h1 : -(2 ^ 62) ≤ lo) (h2 : lo < 2 ^ 62) (h3 : -(2 ^ 62) ≤ hi) (h4 : hi < 2 ^ 62)
  (q : R (Itr lo (hi - lo).toNat) H) : wpAny (model X.prog X.w) X.A (pyIter (.ref s.heap.objs.size)) (PIE X pins σ tg R) E { s with heap := s.heap.push { cls := .type "range", data := .fields #[.int lo t, .int hi u, .int 1 v] }, toks := tk } := by
 refine wpAny_pyIter_range (IsRange.new ..) (small_one h1 h2 h3 h4) ?_
 have I1 : Inv X pins σ H { s with heap := s.heap.push { cls := .type "range", data := .fields #[.int lo t, .int hi u, .int 1 v] }, toks := tk } := I.kept fun b o e => Heap.get?_push_of_some _ e
 refine ⟨(s.heap.push { cls := .type "range", data := .fields #[.int lo t, .int hi u, .int 1 v] }).objs.size, [(s.heap.push { cls := .type "range", data := .fields #[.int lo t, .int hi u, .int 1 v] }).objs.size], _, _, H, rfl,
  I1.kept (t' := tk) fun b o e => Heap.get?_push_of_some _ e, turn_range _ lo (hi - lo).toNat, ?_, fun b hb => ?_, q⟩
 ·have e1 : lo + ((0 : Nat) : Int) * 1 = lo := by simp
  have e2 : (((hi - lo).toNat : Nat) : Int) - ((0 : Nat) : Int) = Builtin.Range.rangeSize lo hi 1 := by rw [rangeSize_one]; split <;> omega
  show IsRangeIter _ _ (lo + ((0 : Nat) : Int) * 1) ((((hi - lo).toNat : Nat) : Int) - ((0 : Nat) : Int)) 1
  rw [e1, e2]
  exact Heap.get?_push_size _ rfl
 ·have e : b = (s.heap.push { cls := .type "range", data := .fields #[.int lo t, .int hi u, .int 1 v] }).objs.size := by simpa using hb
  subst e
  exact I1.fpOk (Nat.le_refl _) (I1.hok.fresh (Nat.le_refl _))
def iRng1 (ta : TA) : TI := fun σ H R => ta σ H fun vs H1 => ∃ j : Int, vs = [.int j] /\ -(2 ^ 62) ≤ j /\ j < 2 ^ 62 /\ R (Itr 0 j.toNat) H1
theorem pi_range1 {a : Expr} {ta : TA} {p pos : Pos} (hg : Gl X "range") (hm : X.mg "range" = none) (ha : PA X [a] ta) (hs : starEach [a] X.env = [(false, eval a X.env)] := by rfl) : PI X tg (.Call (.Name "range" p) [a] [] pos) (iRng1 ta) := by
 intro pins s σ H R I h
 refine Call_ (ld_blt I hg hm boot_range (PyProof.Rows.callWith_type1 (thn (ha pos pins s σ H _ I h) fun us s1 ⟨vs, H1, I1, r1, q1⟩ => ?_) hs rfl))
 obtain ⟨j, e, q1, q2, q⟩ := q1
 subst e
 cases r1 with
 | cons r rr =>
  cases rr
  obtain ⟨t, rfl⟩ := r
  exact call_range_1 (range_it I1 (by omega) (by omega) q1 q2 (by simpa using q))
def tFor (wi : TI) (g : TG) (tb : TS) : TS := fun D σ H => wi σ H fun J H1 => ∃ W : Nat -> Nat -> St -> Hp -> Prop, (∃ m, W 0 m σ H1) /\ ∀ i m σ H, W i m σ H ->
 (J.stop i H /\ D.nx σ H) \/ (J.go i H /\ ∃ N : St -> Hp -> Prop, (∀ σ' H', N σ' H' -> ∃ m', m' < m /\ W (i + 1) m' σ' H') /\ ∀ x H', J.yld i H x H' -> g x σ H' fun σ2 H2 => tb { D with nx := N, ct := N, bk := D.nx } σ2 H2)
def pinsAt (fp : List Addr) (h : Heap) : List (Addr × Obj) := fp.filterMap fun b => (h.get? b).map fun o => (b, o)
theorem mem_pinsAt {fp : List Addr} {h : Heap} {b : Addr} {o : Obj} (hb : b ∈ fp) (e : h.get? b = some o) : (b, o) ∈ pinsAt fp h := List.mem_filterMap.mpr ⟨b, hb, by rw [e]; rfl⟩
theorem of_pinsAt {fp : List Addr} {h : Heap} {p : Addr × Obj} (hp : p ∈ pinsAt fp h) : p.1 ∈ fp /\ h.get? p.1 = some p.2 := by
 obtain ⟨b, hb, e⟩ := List.mem_filterMap.mp hp
 cases q : h.get? b with
 | none => rw [q] at e; cases e
 | some o =>
  rw [q] at e
  have e' : (b, o) = p := Option.some.inj e
  subst e'
  exact ⟨hb, q⟩
theorem Inv.pinned {pins : List (Addr × Obj)} {σ : St} {H : Hp} {s : Shared} {fp : List Addr} (I : Inv X pins σ H s) (hf : ∀ b ∈ fp, FpOk X pins H b) (ho : ∀ b ∈ fp, ∃ o, s.heap.get? b = some o /\ ∀ v, o.data ≠ .cell v) : Inv X (pins ++ pinsAt fp s.heap) σ H s :=
 I.pins_of fun p hp => (List.mem_append.mp hp).elim (fun z => I.pin p (List.mem_append_right _ z)) fun z => by
  obtain ⟨hb, e⟩ := of_pinsAt z
  obtain ⟨f0, f1, f2, _⟩ := hf p.1 hb
  obtain ⟨o, e', d⟩ := ho p.1 hb
  rw [e] at e'; cases e'
  exact ⟨e, f0, f1, f2, d⟩
theorem Inv.unpinned {pins pl : List (Addr × Obj)} {σ : St} {H : Hp} {s : Shared} (I : Inv X (pins ++ pl) σ H s) : Inv X pins σ H s := I.pins_of fun p hp => I.pin p (List.mem_append_right _ (List.mem_append_left _ hp))
theorem ps_for {iter : Expr} {body : List Stmt} {wi : TI} {g : TG} {tb : TS} {pos : Pos} (hp : PassesOwn (model X.prog X.w) X.A X.env X.xe) (hc : X.calm = true) (hi : PI X tg iter wi) (hg : PG X tg g) (hb : PSs X body tb)
  (hs : ∀ x, foldedSetIterable iter X.env x = pure x := by intro _; rfl) : PS X (.For tg iter body [] pos) (tFor wi g tb) := by
 intro pins s σ H D I h
 refine wpAny_For (thn (hi pins s σ H _ I h) fun v s1 h1 => thn h1 fun itv s2 h2 => ?_) hs
 obtain ⟨it, fp, tn, J, H2, e, I2, T, st2, f2, W, ⟨m0, w0⟩, turn⟩ := h2
 subst e
 have stat : ∀ {H' : Hp}, (∀ b ∈ fp, H' b = none) -> ∀ b ∈ fp, FpOk X pins H' b := fun hn b hb => ⟨hn b hb, (f2 b hb).2⟩
 refine codeAny_forLoop_any (fun n s' => ∃ i σ' H', Inv X pins σ' H' s' /\ tn i s'.heap /\ (∀ b ∈ fp, H' b = none) /\ W i n σ' H') ?_ m0 ⟨0, σ, H2, I2, st2, fun b hb => (f2 b hb).1, w0⟩
 rintro n s3 ⟨i, σ3, H3, I3, st3, fr3, w3⟩
 rcases turn i n σ3 H3 w3 with ⟨stop, qn⟩ | ⟨go, N, hN, step⟩
 ·refine wpAny_passesOwn hp (thn (T.done X rfl rfl rfl hc i pins s3 σ3 H3 X.xe I3 (stat fr3) st3 stop) fun r s4 ⟨hr, I4⟩ => ?_)
  subst hr
  exact wpAny_execs_nil ⟨σ3, H3, I4, qn⟩
 ·refine wpAny_passesOwn hp (thn (T.item X rfl rfl rfl hc i pins s3 σ3 H3 X.xe I3 (stat fr3) st3 go) fun r s4 ⟨u, hr, h4⟩ => ?_)
  subst hr
  refine wpAny_passesOwn hp (thn h4 fun _ s5 ⟨x, H5, I5, r5, y5, st5, fr5⟩ => ?_)
  have I5' := I5.pinned (stat fr5) (T.obj _ _ st5)
  refine wpAny_passesOwn hp (thn (hg _ s5 σ3 H5 x u _ I5' r5 (step x H5 y5)) fun _ s6 ⟨σ6, H6, I6, q6⟩ => ?_)
  refine wpAny_passesOwn hp (thn (hb _ s6 σ6 H6 _ I6 q6) fun f s7 q7 => ?_)
  have again : ∀ {σ7 : St} {H7 : Hp}, Inv X (pins ++ pinsAt fp s5.heap) σ7 H7 s7 -> N σ7 H7 -> ∃ m, m < n /\ ∃ i σ' H', Inv X pins σ' H' s7 /\ tn i s7.heap /\ (∀ b ∈ fp, H' b = none) /\ W i m σ' H' := fun {σ7 H7} I7 n7 => by
   obtain ⟨m', hm, w7⟩ := hN σ7 H7 n7
   refine ⟨m', hm, i + 1, σ7, H7, I7.unpinned, T.keep _ _ _ st5 fun b hb o e => (I7.pin (b, o) (List.mem_append_right _ (List.mem_append_right _ (mem_pinsAt hb e)))).1, fun b hb => ?_, w7⟩
   obtain ⟨o, e, d⟩ := T.obj _ _ st5 b hb
   exact (I7.pin (b, o) (List.mem_append_right _ (List.mem_append_right _ (mem_pinsAt hb e)))).2.1
  cases f with
  | next => obtain ⟨σ7, H7, I7, n7⟩ := q7; exact again I7 n7
  | cont => obtain ⟨σ7, H7, I7, n7⟩ := q7; exact again I7 n7
  | brk => obtain ⟨σ7, H7, I7, q7⟩ := q7; exact ⟨σ7, H7, I7.unpinned, q7⟩
  | ret v => obtain ⟨x7, σ7, H7, I7, r7, q7⟩ := q7; exact ⟨x7, σ7, H7, I7.unpinned, r7, q7⟩
end
theorem for_list {K : PySem.W.Frag} {a : Addr} {xs : List V} {g : TG} {tb : TS} {D : Ends} {σ : St} {H : Hp} (Pv : Nat -> St -> Hp -> Prop) (h0 : Pv 0 σ H) (hl : ∀ i σ H, i ≤ xs.length -> Pv i σ H -> SqL K H a xs)
  (hs : ∀ i x σ H, xs[i]? = some x -> Pv i σ H -> g x σ H fun σ2 H2 => tb { D with nx := Pv (i + 1), ct := Pv (i + 1), bk := D.nx } σ2 H2) (hd : ∀ σ H, Pv xs.length σ H -> D.nx σ H) :
  ∃ W : Nat -> Nat -> St -> Hp -> Prop, (∃ m, W 0 m σ H) /\ ∀ i m σ H, W i m σ H ->
   ((Itl K a).stop i H /\ D.nx σ H) \/ ((Itl K a).go i H /\ ∃ N : St -> Hp -> Prop, (∀ σ' H', N σ' H' -> ∃ m', m' < m /\ W (i + 1) m' σ' H') /\ ∀ x H', (Itl K a).yld i H x H' -> g x σ H' fun σ2 H2 => tb { D with nx := N, ct := N, bk := D.nx } σ2 H2) := by
 refine ⟨fun i m σ H => m = xs.length - i /\ i ≤ xs.length /\ Pv i σ H, ⟨xs.length, by simp, Nat.zero_le _, h0⟩, ?_⟩
 rintro i m σ H ⟨rfl, hi, p⟩
 have q := hl i σ H hi p
 by_cases hlt : i < xs.length
 ·refine .inr ⟨⟨xs, xs[i], q, by simp [hlt]⟩, Pv (i + 1), fun σ' H' p' => ⟨xs.length - (i + 1), by omega, rfl, hlt, p'⟩, fun x H' y => ?_⟩
  obtain ⟨e, y⟩ := y
  subst e
  exact hs i x σ _ (y xs q) p
 ·have e : i = xs.length := by omega
  subst e
  exact .inl ⟨⟨xs, q, Nat.le_refl _⟩, hd σ H p⟩
theorem for_range {lo : Int} {n : Nat} {g : TG} {tb : TS} {D : Ends} {σ : St} {H : Hp} (Pv : Nat -> St -> Hp -> Prop) (h0 : Pv 0 σ H)
  (hs : ∀ i σ H, i < n -> Pv i σ H -> g (.int (lo + i)) σ H fun σ2 H2 => tb { D with nx := Pv (i + 1), ct := Pv (i + 1), bk := D.nx } σ2 H2) (hd : ∀ σ H, Pv n σ H -> D.nx σ H) :
  ∃ W : Nat -> Nat -> St -> Hp -> Prop, (∃ m, W 0 m σ H) /\ ∀ i m σ H, W i m σ H ->
   ((Itr lo n).stop i H /\ D.nx σ H) \/ ((Itr lo n).go i H /\ ∃ N : St -> Hp -> Prop, (∀ σ' H', N σ' H' -> ∃ m', m' < m /\ W (i + 1) m' σ' H') /\ ∀ x H', (Itr lo n).yld i H x H' -> g x σ H' fun σ2 H2 => tb { D with nx := N, ct := N, bk := D.nx } σ2 H2) := by
 refine ⟨fun i m σ H => m = n - i /\ i ≤ n /\ Pv i σ H, ⟨n, by simp, Nat.zero_le _, h0⟩, ?_⟩
 rintro i m σ H ⟨rfl, hi, p⟩
 by_cases hlt : i < n
 ·refine .inr ⟨hlt, Pv (i + 1), fun σ' H' p' => ⟨n - (i + 1), by omega, rfl, hlt, p'⟩, fun x H' y => ?_⟩
  obtain ⟨e, y⟩ := y
  subst e y
  exact hs i σ _ hlt p
 ·have e : i = n := by omega
  subst e
  exact .inl ⟨Nat.le_refl _, hd σ H p⟩
end L2
namespace L2
open PySem PySem.Spec PyProof.Rows
abbrev R2 := V -> V -> Hp -> VK -> Prop
def OpR (X : Cx) (f : Value -> Value -> Sem Value) (r : R2) : Prop :=
 ∀ (pins : List (Addr × Obj)) (s : Shared) (σ : St) (H : Hp) (x y : V) (v u : Value) (Q : VK), Inv X pins σ H s -> RelV x v -> RelV y u -> r x y H Q ->
  wpAny (model X.prog X.w) X.A (f v u) (EP X pins σ Q) X.xe s
def UnR (X : Cx) (f : Value -> Sem Value) (r : V -> Hp -> VK -> Prop) : Prop :=
 ∀ (pins : List (Addr × Obj)) (s : Shared) (σ : St) (H : Hp) (x : V) (v : Value) (Q : VK), Inv X pins σ H s -> RelV x v -> r x H Q ->
  wpAny (model X.prog X.w) X.A (f v) (EP X pins σ Q) X.xe s
def CallR (X : Cx) (f : Value) (r : List V -> Hp -> VK -> Prop) : Prop :=
 ∀ (pins : List (Addr × Obj)) (s : Shared) (σ : St) (H : Hp) (xs : List V) (us : List Value) (Q : VK), Inv X pins σ H s -> Vals xs us -> r xs H Q ->
  wpAny (model X.prog X.w) X.A (call f us) (EP X pins σ Q) X.xe s
def tOp (r : R2) (ta tb : TE) : TE := fun σ H Q => ta σ H fun x H1 => tb σ H1 fun y H2 => r x y H2 Q
def tUn (r : V -> Hp -> VK -> Prop) (ta : TE) : TE := fun σ H Q => ta σ H fun x H1 => r x H1 Q
def rI (C : Int -> Int -> Prop) (g : Int -> Int -> V) : R2 := fun x y H Q => ∃ i j, x = .int i /\ y = .int j /\ C i j /\ Q (g i j) H
def rI0 (g : Int -> Int -> V) : R2 := fun x y H Q => ∃ i j, x = .int i /\ y = .int j /\ Q (g i j) H
def rU (g : Int -> V) : V -> Hp -> VK -> Prop := fun x H Q => ∃ i, x = .int i /\ Q (g i) H
section
variable {X : Cx} {a b c : Expr} {ta tb tc : TE} {pos : Pos}
theorem binT (ha : PE X a ta) (hb : PE X b tb) {pins : List (Addr × Obj)} {s : Shared} {σ : St} {H : Hp} {R : V -> V -> Hp -> Prop} (I : Inv X pins σ H s)
  (h : ta σ H fun x H1 => tb σ H1 fun y H2 => R x y H2) {Q : Value -> Shared -> Prop} {f : Value -> Value -> Sem Value}
  (hf : ∀ v u s2 x y H2, Inv X pins σ H2 s2 -> RelV x v -> RelV y u -> R x y H2 -> wpAny (model X.prog X.w) X.A (f v u) Q X.xe s2) :
  wpAny (model X.prog X.w) X.A (eval a X.env) (fun v s₁ => wpAny (model X.prog X.w) X.A (eval b X.env) (fun u s₂ => wpAny (model X.prog X.w) X.A (f v u) Q X.xe s₂) X.xe s₁) X.xe s := by
 refine thn (ha pins s σ H _ I h) fun v s1 ⟨x, H1, I1, r1, q1⟩ => ?_
 refine thn (hb pins s1 σ H1 _ I1 q1) fun u s2 ⟨y, H2, I2, r2, q2⟩ => ?_
 exact hf v u s2 x y H2 I2 r1 r2 q2
theorem pe_op {op : Operator} {r : R2} (ho : OpR X (binaryOp op) r) (ha : PE X a ta) (hb : PE X b tb) : PE X (.BinOp a op b pos) (tOp r ta tb) := by
 intro pins s σ H Q I h
 exact wpAny_BinOp (binT ha hb I h fun v u s2 x y H2 I2 rx ry q => ho pins s2 σ H2 x y v u Q I2 rx ry q)
theorem pe_un {op : UnaryOp} {r : V -> Hp -> VK -> Prop} (ho : UnR X (unaryOp op) r) (ha : PE X a ta) : PE X (.UnaryOp op a pos) (tUn r ta) := by
 intro pins s σ H Q I h
 exact UnaryOp_ (thn (ha pins s σ H _ I h) fun v s1 ⟨x, H1, I1, r1, q1⟩ => ho pins s1 σ H1 x v Q I1 r1 q1)
theorem opI {f : Value -> Value -> Sem Value} {C : Int -> Int -> Prop} {g : Int -> Int -> Int}
  (rule : ∀ (i j : Int) (t u : Tok) (s : Shared) (Q : Value -> Shared -> Prop) (E : Value -> Shared -> Prop), C i j -> Q (.int (g i j) s.toks) { s with toks := s.toks + 1 } -> wpAny (model X.prog X.w) X.A (f (.int i t) (.int j u)) Q E s) :
  OpR X f (rI C fun i j => .int (g i j)) := by
 intro pins s σ H x y v u Q I rx ry h
 obtain ⟨i, j, rfl, rfl, hc, q⟩ := h
 obtain ⟨t, rfl⟩ := rx
 obtain ⟨t', rfl⟩ := ry
 exact rule i j t t' s _ _ hc ⟨.int (g i j), H, I.tok _, ⟨_, rfl⟩, q⟩
theorem opI0 {f : Value -> Value -> Sem Value} {g : Int -> Int -> Int}
  (rule : ∀ (i j : Int) (t u : Tok) (s : Shared) (Q : Value -> Shared -> Prop) (E : Value -> Shared -> Prop), Q (.int (g i j) s.toks) { s with toks := s.toks + 1 } -> wpAny (model X.prog X.w) X.A (f (.int i t) (.int j u)) Q E s) :
  OpR X f (rI0 fun i j => .int (g i j)) := by
 intro pins s σ H x y v u Q I rx ry h
 obtain ⟨i, j, rfl, rfl, q⟩ := h
 obtain ⟨t, rfl⟩ := rx
 obtain ⟨t', rfl⟩ := ry
 exact rule i j t t' s _ _ ⟨.int (g i j), H, I.tok _, ⟨_, rfl⟩, q⟩
theorem opB0 {f : Value -> Value -> Sem Value} {g : Int -> Int -> Bool}
  (rule : ∀ (i j : Int) (t u : Tok) (s : Shared) (Q : Value -> Shared -> Prop) (E : Value -> Shared -> Prop), Q (.bool (g i j)) s -> wpAny (model X.prog X.w) X.A (f (.int i t) (.int j u)) Q E s) :
  OpR X f (rI0 fun i j => .bl (g i j)) := by
 intro pins s σ H x y v u Q I rx ry h
 obtain ⟨i, j, rfl, rfl, q⟩ := h
 obtain ⟨t, rfl⟩ := rx
 obtain ⟨t', rfl⟩ := ry
 exact rule i j t t' s _ _ ⟨.bl (g i j), H, I, rfl, q⟩
def CMul (i j : Int) : Prop := (-(2 ^ 64) < i /\ i < 2 ^ 64) \/ (-(2 ^ 64) < j /\ j < 2 ^ 64)
theorem CMul.ok {i j : Int} (h : CMul i j) : IntMulOk i j := by
 rcases h with ⟨h1, h2⟩ | ⟨h1, h2⟩
 ·exact .of_left (intBits_le_64 h1 h2)
 ·exact .of_right (intBits_le_64 h1 h2)
theorem op_add : OpR X (binaryOp .Add) (rI0 fun i j => .int (i + j)) := opI0 fun _ _ _ _ _ _ _ q => add_int q
theorem op_sub : OpR X (binaryOp .Sub) (rI0 fun i j => .int (i - j)) := opI0 fun _ _ _ _ _ _ _ q => sub_int q
theorem op_mul : OpR X (binaryOp .Mult) (rI CMul fun i j => .int (i * j)) := opI fun _ _ _ _ _ _ _ hc q => mul_int q hc.ok
theorem op_mod : OpR X (binaryOp .Mod) (rI (fun _ j => 0 < j) fun i j => .int (i % j)) := opI fun i j _ _ _ _ _ hc q => by
 have h1 : (0 : Int) < j := hc
 exact mod_int' (by omega) (by rw [Int.fmod_eq_emod_of_nonneg i (by omega)]; exact q)
theorem unI {f : Value -> Sem Value} {g : Int -> Int}
  (rule : ∀ (i : Int) (t : Tok) (s : Shared) (Q : Value -> Shared -> Prop) (E : Value -> Shared -> Prop), Q (.int (g i) s.toks) { s with toks := s.toks + 1 } -> wpAny (model X.prog X.w) X.A (f (.int i t)) Q E s) :
  UnR X f (rU fun i => .int (g i)) := by
 intro pins s σ H x v Q I rx h
 obtain ⟨i, rfl, q⟩ := h
 obtain ⟨t, rfl⟩ := rx
 exact rule i t s _ _ ⟨.int (g i), H, I.tok _, ⟨_, rfl⟩, q⟩
theorem un_neg : UnR X (unaryOp .USub) (rU fun i => .int (-i)) := unI fun _ _ _ _ _ q => neg_int q
end
def scal : V -> V -> Bool
 | .non, .non => true | .non, .int _ => true | .int _, .non => true | .non, .bl _ => true | .bl _, .non => true | .non, .str _ => true | .str _, .non => true
 | .int _, .int _ => true | .bl _, .bl _ => true | .str _, .str _ => true | .byt _, .byt _ => true
 | .int _, .str _ => true | .str _, .int _ => true | .bl _, .str _ => true | .str _, .bl _ => true
 | _, _ => false
def rEq : R2 := fun x y H Q => scal x y = true /\ Q (.bl (decide (x = y))) H
def rNe : R2 := fun x y H Q => scal x y = true /\ Q (.bl (!decide (x = y))) H
theorem dec_int {i j : Int} : decide (V.int i = V.int j) = (i == j) := by
 rw [Bool.eq_iff_iff]
 simp
theorem dec_bl {i j : Bool} : decide (V.bl i = V.bl j) = (i == j) := by
 rw [Bool.eq_iff_iff]
 simp
theorem dec_str {i j : Str} : decide (V.str i = V.str j) = (i == j) := by
 rw [Bool.eq_iff_iff]
 simp
theorem dec_byt {i j : Array UInt8} : decide (V.byt i = V.byt j) = (i.toList == j.toList) := by
 rw [Bool.eq_iff_iff]
 cases i
 cases j
 simp
section
variable {X : Cx} {a b c : Expr} {ta tb tc : TE} {pos : Pos}
theorem fin_bl {pins : List (Addr × Obj)} {σ : St} {H : Hp} {s : Shared} {Q : VK} {k k' : Bool} (I : Inv X pins σ H s) (q : Q (.bl k) H) (e : k = k') : EP X pins σ Q (.bool k') s := by
 subst e
 exact ⟨.bl k, H, I, rfl, q⟩
theorem op_eq : OpR X (compareOp .Eq) rEq := by
 intro pins s σ H x y v u Q I rx ry h
 obtain ⟨hs, q⟩ := h
 cases x with
 | non =>
  cases rx
  cases y with
  | non => cases ry; exact PySem.EqNone.eq_none_none (fin_bl I q (by simp))
  | bl j => cases ry; exact PySem.EqNone.eq_none_bool (fin_bl I q (by simp))
  | int j => obtain ⟨t', rfl⟩ := ry; exact PySem.EqNone.eq_none_int (fin_bl I q (by simp))
  | str j => obtain ⟨t', rfl⟩ := ry; exact PySem.EqNone.eq_none_str (fin_bl I q (by simp))
  | _ => exact absurd (show false = true from hs) Bool.false_ne_true
 | bl i =>
  cases rx
  cases y with
  | non => cases ry; exact PySem.EqNone.eq_bool_none (fin_bl I q (by simp))
  | bl j => cases ry; exact eq_bool (fin_bl I q dec_bl)
  | str j => obtain ⟨t', rfl⟩ := ry; exact PySem.EqMixed.eq_bool_str (fin_bl I q (by simp))
  | _ => exact absurd (show false = true from hs) Bool.false_ne_true
 | int i =>
  obtain ⟨t, rfl⟩ := rx
  cases y with
  | non => cases ry; exact PySem.EqNone.eq_int_none (fin_bl I q (by simp))
  | int j => obtain ⟨t', rfl⟩ := ry; exact eq_int (fin_bl I q dec_int)
  | str j => obtain ⟨t', rfl⟩ := ry; exact PySem.EqMixed.eq_int_str (fin_bl I q (by simp))
  | _ => exact absurd (show false = true from hs) Bool.false_ne_true
 | str i =>
  obtain ⟨t, rfl⟩ := rx
  cases y with
  | non => cases ry; exact PySem.EqNone.eq_str_none (fin_bl I q (by simp))
  | bl j => cases ry; exact PySem.EqMixed.eq_str_bool (fin_bl I q (by simp))
  | int j => obtain ⟨t', rfl⟩ := ry; exact PySem.EqMixed.eq_str_int (fin_bl I q (by simp))
  | str j => obtain ⟨t', rfl⟩ := ry; exact eq_str (fin_bl I q dec_str)
  | _ => exact absurd (show false = true from hs) Bool.false_ne_true
 | byt i =>
  obtain ⟨t, rfl⟩ := rx
  cases y with
  | byt j => obtain ⟨t', rfl⟩ := ry; exact PySem.W.eq_bytes (fin_bl I q dec_byt)
  | _ => exact absurd (show false = true from hs) Bool.false_ne_true
 | _ => cases y <;> exact absurd (show false = true from hs) Bool.false_ne_true
theorem op_ne : OpR X (compareOp .NotEq) rNe := by
 intro pins s σ H x y v u Q I rx ry h
 obtain ⟨hs, q⟩ := h
 cases x with
 | non =>
  cases rx
  cases y with
  | non => cases ry; exact PySem.EqNone.ne_none_none (fin_bl I q (by simp))
  | bl j => cases ry; exact PySem.EqNone.ne_none_bool (fin_bl I q (by simp))
  | int j => obtain ⟨t', rfl⟩ := ry; exact PySem.EqNone.ne_none_int (fin_bl I q (by simp))
  | str j => obtain ⟨t', rfl⟩ := ry; exact PySem.EqNone.ne_none_str (fin_bl I q (by simp))
  | _ => exact absurd (show false = true from hs) Bool.false_ne_true
 | bl i =>
  cases rx
  cases y with
  | non => cases ry; exact PySem.EqNone.ne_bool_none (fin_bl I q (by simp))
  | bl j => cases ry; exact ne_bool (fin_bl I q (congrArg not dec_bl))
  | str j => obtain ⟨t', rfl⟩ := ry; exact PySem.EqMixed.ne_bool_str (fin_bl I q (by simp))
  | _ => exact absurd (show false = true from hs) Bool.false_ne_true
 | int i =>
  obtain ⟨t, rfl⟩ := rx
  cases y with
  | non => cases ry; exact PySem.EqNone.ne_int_none (fin_bl I q (by simp))
  | int j => obtain ⟨t', rfl⟩ := ry; exact ne_int (fin_bl I q (congrArg not dec_int))
  | str j => obtain ⟨t', rfl⟩ := ry; exact PySem.EqMixed.ne_int_str (fin_bl I q (by simp))
  | _ => exact absurd (show false = true from hs) Bool.false_ne_true
 | str i =>
  obtain ⟨t, rfl⟩ := rx
  cases y with
  | non => cases ry; exact PySem.EqNone.ne_str_none (fin_bl I q (by simp))
  | bl j => cases ry; exact PySem.EqMixed.ne_str_bool (fin_bl I q (by simp))
  | int j => obtain ⟨t', rfl⟩ := ry; exact PySem.EqMixed.ne_str_int (fin_bl I q (by simp))
  | str j => obtain ⟨t', rfl⟩ := ry; exact ne_str (fin_bl I q (congrArg not dec_str))
  | _ => exact absurd (show false = true from hs) Bool.false_ne_true
 | byt i =>
  obtain ⟨t, rfl⟩ := rx
  cases y with
  | byt j => obtain ⟨t', rfl⟩ := ry; exact PySem.W.ne_bytes (fin_bl I q (congrArg not dec_byt))
  | _ => exact absurd (show false = true from hs) Bool.false_ne_true
 | _ => cases y <;> exact absurd (show false = true from hs) Bool.false_ne_true
theorem op_lt : OpR X (compareOp .Lt) (rI0 fun i j => .bl (decide (i < j))) := opB0 fun _ _ _ _ _ _ _ q => lt_int q
theorem op_le : OpR X (compareOp .LtE) (rI0 fun i j => .bl (decide (i ≤ j))) := opB0 fun _ _ _ _ _ _ _ q => le_int q
theorem op_gt : OpR X (compareOp .Gt) (rI0 fun i j => .bl (decide (j < i))) := opB0 fun _ _ _ _ _ _ _ q => gt_int q
theorem op_ge : OpR X (compareOp .GtE) (rI0 fun i j => .bl (decide (j ≤ i))) := opB0 fun _ _ _ _ _ _ _ q => ge_int q
theorem nomark (b : Expr) {op : CmpOp} (h : op ≠ .In := by decide) (h2 : op ≠ .NotIn := by decide) : behindInMarks op b = false := by
 have e1 : (op == CmpOp.In) = false := by cases op <;> first | rfl | exact absurd rfl h
 have e2 : (op == CmpOp.NotIn) = false := by cases op <;> first | rfl | exact absurd rfl h2
 cases b <;> simp [behindInMarks, e1, e2]
theorem pe_cmpR {op : CmpOp} {r : R2} (ho : OpR X (compareOp op) r) (ha : PE X a ta) (hb : PE X b tb) (hm : behindInMarks op b = false) : PE X (.Compare a [op] [b] pos) (tOp r ta tb) := by
 intro pins s σ H Q I h
 exact wpAny_Compare1 (binT ha hb I h fun v u s2 x y H2 I2 rx ry q => ho pins s2 σ H2 x y v u Q I2 rx ry q) hm
def tTest (t : TE) : TT := fun σ H Q => t σ H fun x H' => ∃ k, x = .bl k /\ Q k H'
theorem pt_cmpR {op : CmpOp} {r : R2} (ho : OpR X (compareOp op) r) (ha : PE X a ta) (hb : PE X b tb) (hm : behindInMarks op b = false) : PT X (.Compare a [op] [b] pos) (tTest (tOp r ta tb)) := by
 intro pins s σ H Q I h
 refine wpAny_isTrue_Compare1 (thn (ha pins s σ H _ I h) fun v s1 ⟨x, H1, I1, r1, q1⟩ => thn (hb pins s1 σ H1 _ I1 q1) fun u s2 ⟨y, H2, I2, r2, q2⟩ =>
  thn (ho pins s2 σ H2 x y v u _ I2 r1 r2 q2) fun c s3 ⟨z, H3, I3, r3, k, e, q3⟩ => ?_) hm
 subst e
 cases r3
 exact wpAny_truthy_bool ⟨H3, I3, q3⟩
def tChain (r r' : R2) (ta tb tc : TE) : TE := fun σ H Q => ta σ H fun x H1 => tb σ H1 fun y H2 => r x y H2 fun z H3 => ∃ k, z = .bl k /\
 (if k = true then tc σ H3 fun w' H4 => r' y w' H4 Q else Q (.bl false) H3)
theorem pe_chain {op op' : CmpOp} {r r' : R2} (ho : OpR X (compareOp op) r) (ho' : OpR X (compareOp op') r') (ha : PE X a ta) (hb : PE X b tb) (hc : PE X c tc)
  (hm : lastMarks [op, op'] [b, c] = false := by with_unfolding_all rfl) : PE X (.Compare a [op, op'] [b, c] pos) (tChain r r' ta tb tc) := by
 intro pins s σ H Q I h
 refine Compare_chain (thn (ha pins s σ H _ I h) fun v s1 ⟨x, H1, I1, r1, q1⟩ => chain_link (thn (hb pins s1 σ H1 _ I1 q1) fun u s2 ⟨y, H2, I2, r2, q2⟩ =>
  thn (ho pins s2 σ H2 x y v u _ I2 r1 r2 q2) fun d s3 ⟨z, H3, I3, r3, k, e, q3⟩ => ?_)) hm
 subst e
 cases r3
 refine wpAny_truthy_bool ?_
 cases k with
 | false => exact ite_ff ⟨.bl false, H3, I3, rfl, q3⟩
 | true => exact ite_tt (chain_last (thn (hc pins s3 σ H3 _ I3 q3) fun w' s4 ⟨z', H4, I4, r4, q4⟩ => ho' pins s4 σ H4 y z' u w' Q I4 r2 r4 q4))
theorem pt_chain {op op' : CmpOp} {r r' : R2} (ho : OpR X (compareOp op) r) (ho' : OpR X (compareOp op') r') (ha : PE X a ta) (hb : PE X b tb) (hc : PE X c tc)
  (hm : lastMarks [op, op'] [b, c] = false := by with_unfolding_all rfl) : PT X (.Compare a [op, op'] [b, c] pos) (tTest (tChain r r' ta tb tc)) := by
 intro pins s σ H Q I h
 refine isTrue_chain (thn (ha pins s σ H _ I h) fun v s1 ⟨x, H1, I1, r1, q1⟩ => test_link (thn (hb pins s1 σ H1 _ I1 q1) fun u s2 ⟨y, H2, I2, r2, q2⟩ =>
  thn (ho pins s2 σ H2 x y v u _ I2 r1 r2 q2) fun d s3 ⟨z, H3, I3, r3, k, e, q3⟩ => ?_)) hm
 subst e
 cases r3
 refine wpAny_truthy_bool ?_
 cases k with
 | false =>
  obtain ⟨k', e', q'⟩ := q3
  cases e'
  exact ite_ff ⟨H3, I3, q'⟩
 | true =>
  refine ite_tt (test_last (thn (hc pins s3 σ H3 _ I3 q3) fun w' s4 ⟨z', H4, I4, r4, q4⟩ => thn (ho' pins s4 σ H4 y z' u w' _ I4 r2 r4 q4) fun d' s5 ⟨z2, H5, I5, r5, k2, e2, q5⟩ => ?_))
  subst e2
  cases r5
  exact wpAny_truthy_bool ⟨H5, I5, q5⟩
theorem line63 : (sizeLine : Nat) < 2 ^ 63 := by rw [sizeLine_eq]; decide
theorem vals1 {x : V} {us : List Value} (r : Vals [x] us) : ∃ u, us = [u] /\ RelV x u := by
 cases r with
 | cons r1 r2 => cases r2; exact ⟨_, rfl, r1⟩
theorem vals2 {x y : V} {us : List Value} (r : Vals [x, y] us) : ∃ u w', us = [u, w'] /\ RelV x u /\ RelV y w' := by
 cases r with
 | cons r1 r2 =>
  cases r2 with
  | cons r3 r4 => cases r4; exact ⟨_, _, rfl, r1, r3⟩
theorem call_ord : CallR X (.builtin "ord") (fun xs H Q => ∃ x, xs = [.str x] /\ x.length = 1 /\ Q (.int (x.cps.getD 0 0 : Nat)) H) := by
 intro pins s σ H xs us Q I r h
 obtain ⟨x, rfl, hz, q⟩ := h
 obtain ⟨u, rfl, t, rfl⟩ := vals1 r
 exact ord_of_one hz ⟨.int _, H, I.tok _, ⟨_, rfl⟩, q⟩
end
end L2
namespace L2
open PySem PySem.Spec PyProof.Rows
structure ObjM (h : Heap) (x dx C : Addr) (mA : Str -> Option Value) : Prop where
 obj : h.get? x = some (PySem.W.instObj C dx)
 ns : h.Ns1 dx mA
 ne : dx ≠ x
theorem lookIn_ns {h : Heap} {dx : Addr} {mA : Str -> Option Value} (n : h.Ns1 dx mA) : ∃ od, h.get? dx = some od /\ ∀ name, PySem.W.lookIn name od = some (mA name) := by
 obtain ⟨o, es, ep, ho, hd, hk, _, hm⟩ := n
 refine ⟨o, ho, fun name => ?_⟩
 have e := hm name
 unfold nsFind findBy at e
 rw [<- Array.find?_toList] at e
 unfold PySem.W.lookIn
 rw [hd]
 dsimp only
 split
 ·rename_i y q
  rw [q] at e
  exact congrArg some e
 ·rename_i q
  rw [q] at e
  have a : es.toList.any (·.refKey) = false := by
   rw [List.any_eq_false]
   intro y hy
   obtain ⟨z, t, hkey⟩ := hk y (Array.mem_toList_iff.mp hy)
   simp [DictEntry.refKey, hkey]
  have a' : ¬ es.toList.any (·.refKey) = true := by rw [a]; exact Bool.false_ne_true
  rw [if_neg a']
  exact congrArg some e
theorem ObjM.look {h : Heap} {x dx C : Addr} {mA : Str -> Option Value} (I : ObjM h x dx C mA) : ∃ od, PySem.W.InstAt h x (PySem.W.instObj C dx) C (some od) /\ ∀ name, PySem.W.lookIn name od = some (mA name) :=
 let ⟨od, ho, hl⟩ := lookIn_ns I.ns
 ⟨od, ⟨I.obj, rfl, rfl, ho⟩, hl⟩
section
variable {prog : Program} {w : World} {A : Around} {E : Value -> Shared -> Prop} {s : Shared} {K : PySem.W.Frag} {x dx C f : Addr} {mA : Str -> Option Value} {name : Str} {v : Value}
theorem get_map {expr : Bool} {Q : Value -> Shared -> Prop} (X : K.In s.heap) (I : ObjM s.heap x dx C mA) (hg : PySem.W.plainGet K C name = true) (hh : PySem.W.hasDictIn K C = true)
  (ha : PySem.W.findIn K (.ref C) name = some none) (hv : mA name = some v) (hv' : PySem.W.handedIn v = true) (h : Q v { s with toks := s.toks + 1 }) :
  wpAny (model prog w) A (getAttr (.ref x) name expr) Q E s := by
 obtain ⟨od, J, hl⟩ := I.look
 exact PySem.W.get_value X J (PySem.W.plainGet_of hg).1 (PySem.W.findObj_own hh ha rfl (by rw [hl, hv])) hv' h
theorem get_meth {pl : Sem Bool} {Q : Value × List Value -> Shared -> Prop} (X : K.In s.heap) (I : ObjM s.heap x dx C mA) (hg : PySem.W.plainGet K C name = true)
  (hf : PySem.W.findIn K (.ref C) name = some (some (.ref f))) (ht : PySem.W.isFn K (.ref f) = true) (hv : mA name = none) (h : Q (.ref f, [.ref x]) s) :
  wpAny (model prog w) A (getMethod (.ref x) name pl) Q E s := by
 obtain ⟨od, J, hl⟩ := I.look
 exact PySem.W.method_fn X J (PySem.W.plainGet_of hg).1 (PySem.W.plainGet_of hg).2 hf (beq_iff_eq.mp ht) (by show (PySem.W.lookIn name od).map (·.isSome) = some false; rw [hl, hv]; rfl) h
theorem set_map {ns : List Str} {Q : Unit -> Shared -> Prop} (X : K.In s.heap) (I : ObjM s.heap x dx C mA)
  (hs : PySem.W.findIn K (.ref C) "__setattr__" = some (some (.builtin "object.__setattr__"))) (hp : PySem.W.plainOver K C = true) (ht : PySem.W.takerIn K C name = some none) (hh : PySem.W.hasDictIn K C = true)
  (hw : PySem.Within mA ns) (hsz : ns.length ≤ sizeLine)
  (h : ∀ h', ObjM h' x dx C (fun y => if y = name then some v else mA y) -> Heap.SameBut dx s.heap h' -> Q () { s with heap := h', toks := s.toks + 2 }) :
  wpAny (model prog w) A (setAttr (.ref x) name v) Q E s := by
 obtain ⟨od, J, hl⟩ := I.look
 refine PySem.W.set_plain X J hs (PySem.W.osa_open (s := { s with toks := s.toks + 1 }) (r := none) X J hp ht fun b => ?_)
 obtain ⟨cd, hc, hd'⟩ := PySem.W.any_some hh
 have hx : s.heap.get? x = some ⟨.ref C, some dx, .plain, #[]⟩ := I.obj
 refine wpAny_bind (wpAny_pure (wpAny_bind (wpAny_bind (wpAny_loadPart hx (wpAny_bind (PySem.W.Looks.here (s := { s with toks := s.toks + 1 }) (PySem.W.looks_clsIn X hc) ?_))))))
 rw [hd']
 refine wpAny_pure (a := some dx) (wpAny_bind (wpAny_pure (wpAny_bind ?_)))
 refine wpAny_nsSet1 (s := { s with toks := s.toks + 1 }) I.ns fun h' hn2 hs2 => ?_
 obtain ⟨oD, esD, epD, hoD, hdD, hcD⟩ := hn2.count (PySem.Within.cons name v hw)
 refine wpAny_bind (wpAny_lookBehind hoD (by rw [hdD]; exact pastItsLine_dict (Nat.le_trans hcD (by rw [List.length_cons]; omega))) ?_)
 exact wpAny_pure (h _ ⟨(hs2.2 _ (Ne.symm I.ne)).trans I.obj, hn2, I.ne⟩ hs2)
theorem make_map {R : Result -> Shared -> Prop} {vs : List Value} {kw : List (Str × Value)} (X : K.In s.heap) (hm : PySem.W.makesIn K C = true)
  (hi : PySem.W.findIn K (.ref C) "__init__" = some (some (.ref f))) (hf : PySem.W.typeIn K (.ref f) = some (.type "function"))
  (h : codeAny (model prog w) (A.under (.builtin "type.__call__" ⟨.ref C :: vs, kw⟩)) (.call (.ref f) ⟨.ref (s.heap.objs.size + 1) :: vs, kw⟩) (PySem.W.InitBack (s.heap.objs.size + 1) R)
   { s with heap := (s.heap.push PySem.W.emptyDict).push (PySem.W.instObj C s.heap.objs.size) }) :
  codeAny (model prog w) A (.call (.ref C) ⟨vs, kw⟩) R s := by
 obtain ⟨hh, g, d, t, os⟩ := s
 exact PySem.W.make_core (PySem.W.makes_of X hm) (PySem.W.looks_findIn X hi) (fun self => PySem.W.bind_fn X self hf) (.inl rfl) h
end
def putF (f : Str) (v : V) : List (Str × V) -> List (Str × V)
 | [] => [(f, v)]
 | (g, x) :: r => if g = f then (g, v) :: r else (g, x) :: putF f v r
theorem lookup_putF (f g : Str) (v : V) : ∀ fs : List (Str × V), (putF f v fs).lookup g = if g = f then some v else fs.lookup g
 | [] => by
  show List.lookup g [(f, v)] = _
  by_cases h : g = f
  ·have hb : (g == f) = true := beq_iff_eq.mpr h
   simp only [List.lookup, hb, if_pos h]
  ·have hb : (g == f) = false := beq_eq_false_iff_ne.mpr h
   simp only [List.lookup, hb, if_neg h]
 | (k, x) :: r => by
  have ih := lookup_putF f g v r
  rw [show putF f v ((k, x) :: r) = (if k = f then (k, v) :: r else (k, x) :: putF f v r) from rfl]
  by_cases hk : k = f
  ·rw [if_pos hk]
   by_cases h : g = k
   ·have hb : (g == k) = true := beq_iff_eq.mpr h
    simp only [List.lookup, hb, if_pos (h.trans hk)]
   ·have hb : (g == k) = false := beq_eq_false_iff_ne.mpr h
    simp only [List.lookup, hb, if_neg (fun e : g = f => h (e.trans hk.symm))]
  ·rw [if_neg hk]
   by_cases h : g = k
   ·have hb : (g == k) = true := beq_iff_eq.mpr h
    simp only [List.lookup, hb, if_neg (fun e : g = f => hk (h.symm.trans e))]
   ·have hb : (g == k) = false := beq_eq_false_iff_ne.mpr h
    simp only [List.lookup, hb]
    exact ih
theorem keys_putF (f : Str) (v : V) : ∀ fs : List (Str × V), f ∈ (putF f v fs).map (·.1) /\ ∀ g, g ∈ fs.map (·.1) -> g ∈ (putF f v fs).map (·.1)
 | [] => ⟨by simp [putF], fun g h => by simp at h⟩
 | (k, x) :: r => by
  obtain ⟨i1, i2⟩ := keys_putF f v r
  rw [show putF f v ((k, x) :: r) = (if k = f then (k, v) :: r else (k, x) :: putF f v r) from rfl]
  by_cases hk : k = f
  ·rw [if_pos hk]
   subst hk
   exact ⟨by simp, fun g h => by simpa using h⟩
  ·rw [if_neg hk]
   refine ⟨?_, fun g h => ?_⟩
   ·rw [List.map_cons]
    exact List.mem_cons_of_mem _ i1
   ·rw [List.map_cons] at h ⊢
    rcases List.mem_cons.mp h with e | e
    ·exact List.mem_cons.mpr (.inl e)
    ·exact List.mem_cons_of_mem _ (i2 g e)
theorem length_putF (f : Str) (v : V) : ∀ fs : List (Str × V), (putF f v fs).length ≤ fs.length + 1
 | [] => by simp [putF]
 | (k, x) :: r => by
  have ih := length_putF f v r
  rw [show putF f v ((k, x) :: r) = (if k = f then (k, v) :: r else (k, x) :: putF f v r) from rfl]
  by_cases hk : k = f
  ·rw [if_pos hk, List.length_cons, List.length_cons]; omega
  ·rw [if_neg hk, List.length_cons, List.length_cons]; omega
theorem RelO.some_of {v : V} {o : Option Value} (r : RelO (some v) o) : ∃ u, o = some u /\ RelV v u := by
 cases o with
 | none => exact (show False from r).elim
 | some u => exact ⟨u, rfl, r⟩
theorem RelO.none_of {o : Option Value} (r : RelO none o) : o = none := by
 cases o with
 | none => rfl
 | some u => exact (show False from r).elim
theorem handed_of {v : V} {u : Value} (r : RelV v u) : PySem.W.handedIn u = true := by
 cases v with
 | non => cases (show u = Value.none from r); rfl
 | bl b => cases (show u = Value.bool b from r); rfl
 | int i => obtain ⟨t, e⟩ := (show ∃ t, u = Value.int i t from r); cases e; rfl
 | str x => obtain ⟨t, e⟩ := (show ∃ t, u = Value.str x t from r); cases e; rfl
 | byt b => obtain ⟨t, e⟩ := (show ∃ t, u = Value.bytes b t from r); cases e; rfl
 | flt b => obtain ⟨t, e⟩ := (show ∃ t, u = Value.float b t from r); cases e; rfl
 | ref a => cases (show u = Value.ref a from r); rfl
 | ty n => cases (show u = Value.type n from r); rfl
section
variable {P : Program} {w : World} {H H' : Hp} {h h' : Heap} {a C dx : Addr} {fs fs' : List (Str × V)}
theorem ins_get (hok : HOk P w H h) (e : H a = some (.ins C dx fs)) : ∃ mA, ObjM h a dx C mA /\ (∀ f, RelO (fs.lookup f) (mA f)) /\ PySem.Within mA (fs.map (·.1)) /\ fs.length ≤ 1000 /\ H dx = some (.own a) := by
 obtain ⟨d, z, ne, ob, mA, n, r, q⟩ := (show ObjOk P w H h a (.ins C dx fs) from hok a _ e)
 exact ⟨mA, ⟨ob, n, ne⟩, r, q, z, d⟩
end
structure Cls (K : PySem.W.Frag) (C : Addr) : Prop where
 pg : PySem.W.plainGet K C Str.empty = true
 hd : PySem.W.hasDictIn K C = true
 po : PySem.W.plainOver K C = true
 sa : PySem.W.findIn K (.ref C) "__setattr__" = some (some (.builtin "object.__setattr__"))
theorem Cls.get {K : PySem.W.Frag} {C : Addr} (c : Cls K C) (f : Str) : PySem.W.plainGet K C f = true := c.pg
def NoAttr (K : PySem.W.Frag) (C : Addr) (f : Str) : Prop := PySem.W.findIn K (.ref C) f = some none
theorem NoAttr.taker {K : PySem.W.Frag} {C : Addr} {f : Str} (n : NoAttr K C f) : PySem.W.takerIn K C f = some none := by
 unfold PySem.W.takerIn
 rw [show PySem.W.findIn K (.ref C) f = some none from n]
 rfl
structure Meth (K : PySem.W.Frag) (C : Addr) (m : Str) (f : Addr) : Prop where
 at_ : PySem.W.findIn K (.ref C) m = some (some (.ref f))
 fn : PySem.W.isFn K (.ref f) = true
 kp : PySem.W.keepIn K (.ref f) = true
section
variable {X : Cx} {pins : List (Addr × Obj)} {σ : St} {H : Hp} {s : Shared} {a C dx : Addr} {fs : List (Str × V)} {f : Str} {v : V} {A : Around} {E : Value -> Shared -> Prop}
theorem getattr_ok {b : Bool} {Q : Value -> Shared -> Prop} (I : Inv X pins σ H s) (e : H a = some (.ins C dx fs)) (c : Cls X.K C) (n : NoAttr X.K C f) (l : fs.lookup f = some v)
  (h : ∀ u s', Inv X pins σ H s' -> RelV v u -> Q u s') : wpAny (model X.prog X.w) A (getAttr (.ref a) f b) Q E s := by
 obtain ⟨mA, O, r, _, _, _⟩ := ins_get I.hok e
 obtain ⟨u, hu, ru⟩ := RelO.some_of (v := v) (o := mA f) (by rw [<- l]; exact r f)
 exact get_map I.kIn O (c.get f) c.hd n hu (handed_of ru) (h u _ (I.tok _) ru)
theorem getmeth_ok {m : Str} {g : Addr} {pl : Sem Bool} {Q : Value × List Value -> Shared -> Prop} (I : Inv X pins σ H s) (e : H a = some (.ins C dx fs)) (c : Cls X.K C) (k : Meth X.K C m g) (l : fs.lookup m = none)
  (h : Q (.ref g, [.ref a]) s) : wpAny (model X.prog X.w) A (getMethod (.ref a) m pl) Q E s := by
 obtain ⟨mA, O, r, _, _, _⟩ := ins_get I.hok e
 have hn : mA m = none := RelO.none_of (by rw [<- l]; exact r m)
 exact get_meth I.kIn O (c.get m) k.at_ k.fn hn h
theorem setattr_ok {y : V} {u : Value} {Q : Unit -> Shared -> Prop} (I : Inv X pins σ H s) (e : H a = some (.ins C dx fs)) (c : Cls X.K C) (n : NoAttr X.K C f) (hl : fs.length < 1000) (ry : RelV y u)
  (h : ∀ s', Inv X pins σ (upd H a (.ins C dx (putF f y fs))) s' -> Q () s') : wpAny (model X.prog X.w) A (setAttr (.ref a) f u) Q E s := by
 obtain ⟨mA, O, r, wi, _, ho⟩ := ins_get I.hok e
 have hz : (fs.map (·.1)).length ≤ sizeLine := by rw [List.length_map, sizeLine_eq]; omega
 refine set_map I.kIn O c.sa c.po n.taker c.hd wi hz fun h' O' sb => h _ ?_
 have hd : ∃ o, h'.get? dx = some o := let ⟨o, _, _, e', _⟩ := O'.ns; ⟨o, e'⟩
 refine I.write (x := a) (e := dx) (by rw [e]; exact True.intro) (.inr ho) (fun b q hb z => (sb.2 b hb).trans z) hd ?_
 refine ⟨by rw [upd_ne O.ne]; exact ho, ?_, O.ne, O'.obj, _, O'.ns, fun g => ?_, fun g hg => ?_⟩
 ·have := length_putF f y fs; omega
 ·show RelO ((putF f y fs).lookup g) (if g = f then some u else mA g)
  rw [lookup_putF]
  by_cases q : g = f
  ·rw [if_pos q, if_pos q]; exact ry
  ·rw [if_neg q, if_neg q]; exact r g
 ·by_cases q : g = f
  ·rw [q]; exact (keys_putF f y fs).1
  ·refine (keys_putF f y fs).2 g (wi g fun z => hg ?_)
   show (if g = f then some u else mA g) = none
   rw [if_neg q]; exact z
theorem Inv.made (I : Inv X pins σ H s) : Inv X pins σ (upd (upd H s.heap.objs.size (.own (s.heap.objs.size + 1))) (s.heap.objs.size + 1) (.ins C s.heap.objs.size []))
  { s with heap := (s.heap.push PySem.W.emptyDict).push (PySem.W.instObj C s.heap.objs.size) } := by
 have e1 : (s.heap.push PySem.W.emptyDict).get? s.heap.objs.size = some PySem.W.emptyDict := Heap.get?_push_size s.heap rfl
 have e2 : ((s.heap.push PySem.W.emptyDict).push (PySem.W.instObj C s.heap.objs.size)).get? (s.heap.objs.size + 1) = some (PySem.W.instObj C s.heap.objs.size) := by
  have := Heap.get?_push_size (s.heap.push PySem.W.emptyDict) (o := PySem.W.instObj C s.heap.objs.size) rfl
  rwa [Heap.size_push] at this
 have e3 : (s.heap.push PySem.W.emptyDict).Ns s.heap.objs.size (fun _ => none) := ⟨PySem.W.emptyDict, #[], _, e1, rfl, (fun e he => absurd he (by simp)), fun _ => rfl⟩
 have I1 := I.laid (a := s.heap.objs.size) (o := .own (s.heap.objs.size + 1)) (h' := s.heap.push PySem.W.emptyDict) (t' := s.toks) (fun b u q => Heap.get?_push_of_some _ q) (Nat.le_refl _) ⟨_, e1⟩
 refine I1.laid (a := s.heap.objs.size + 1) (o := .ins C s.heap.objs.size []) (t' := s.toks) (fun b u q => Heap.get?_push_of_some _ q) (Nat.le_of_eq (Heap.size_push _ _)) ?_
 have ne : s.heap.objs.size ≠ s.heap.objs.size + 1 := Nat.ne_of_lt (Nat.lt_succ_self _)
 refine ⟨by rw [upd_ne ne, upd_same], Nat.zero_le _, ne, e2, fun _ => none, (Heap.Ns1.of_empty e3).at fun o q => Heap.get?_push_of_some _ q, fun _ => True.intro, fun y hy => absurd rfl hy⟩
theorem attr_of {prog : Program} {w : World} {env : Env} {e : Expr} {f : Str} {pos : Pos} {s : Shared} {Q : Value -> Shared -> Prop} (hb : attributeBase e f env (eval e env) = eval e env)
  (h : wpAny (model prog w) A (eval e env) (fun o s₁ => wpAny (model prog w) A (getAttr o f true) Q E s₁) E s) : wpAny (model prog w) A (eval (.Attribute e f pos) env) Q E s :=
 Attribute_any_ h (by rw [arm_eval_Attribute, hb])
end
def tFld (K : PySem.W.Frag) (ta : TE) (f : Str) : TE := fun σ H Q => ta σ H fun x H1 => ∃ a C dx fs v, x = .ref a /\ H1 a = some (.ins C dx fs) /\ Cls K C /\ NoAttr K C f /\ fs.lookup f = some v /\ Q v H1
def sFld (K : PySem.W.Frag) (ta tv : TE) (f : Str) : TS := fun D σ H => tv σ H fun y H1 => ta σ H1 fun x H2 => ∃ a C dx fs, x = .ref a /\ H2 a = some (.ins C dx fs) /\ Cls K C /\ NoAttr K C f /\ fs.length < 1000 /\
 D.nx σ (upd H2 a (.ins C dx (putF f y fs)))
def InOp (X : Cx) (op : Operator) (rd : V -> V -> Hp -> VK -> Prop) : Prop :=
 ∀ (pins : List (Addr × Obj)) (s : Shared) (σ : St) (H : Hp) (x y : V) (u v : Value) (Q : VK), Inv X pins σ H s -> RelV x u -> RelV y v -> rd x y H Q -> wpAny (model X.prog X.w) X.A (inplaceOp op u v) (EP X pins σ Q) X.xe s
def sFldAug (K : PySem.W.Frag) (ta tv : TE) (rd : V -> V -> Hp -> VK -> Prop) (f : Str) : TS := fun D σ H => ta σ H fun x H1 => ∃ a C dx fs v, x = .ref a /\ H1 a = some (.ins C dx fs) /\ Cls K C /\ NoAttr K C f /\ fs.lookup f = some v /\
 tv σ H1 fun y H2 => rd v y H2 fun z H3 => ∃ dx' fs', H3 a = some (.ins C dx' fs') /\ fs'.length < 1000 /\ D.nx σ (upd H3 a (.ins C dx' (putF f z fs')))
section
variable {X : Cx} {o e value : Expr} {f : Str} {pos pos' tpos : Pos} {ta tv : TE}
theorem pe_fld (he : PE X e ta) (hb : attributeBase e f X.env (eval e X.env) = eval e X.env) : PE X (.Attribute e f pos) (tFld X.K ta f) := by
 intro pins s σ H Q I h
 refine attr_of hb (thn (he pins s σ H _ I h) fun u s1 ⟨x, H1, I1, rx, a, C, dx, fs, v, ex, ea, c, n, l, q⟩ => ?_)
 subst ex
 obtain rfl : u = Value.ref a := rx
 exact getattr_ok I1 ea c n l fun u' s2 I2 ru => ⟨v, H1, I2, ru, q⟩
theorem ps_fld (ha : PE X o ta) (hv : PE X value tv) (hs : swapsWith value (some (.Attribute o f pos')) pos.line X.env = pure false) : PS X (.Assign [.Attribute o f pos'] value pos) (sFld X.K ta tv f) := by
 intro pins s σ H D I h
 refine plainObj_wpAny_Assign_Attribute (thn (hv pins s σ H _ I h) fun u s1 ⟨y, H1, I1, ry, q⟩ => thn (ha pins s1 σ H1 _ I1 q) fun ov s2 ⟨x, H2, I2, rx, a, C, dx, fs, ex, ea, c, n, l, q2⟩ => ?_) hs
 subst ex
 obtain rfl : ov = Value.ref a := rx
 exact setattr_ok I2 ea c n l ry fun s3 I3 => ⟨σ, _, I3, q2⟩
theorem ps_fldaug {op : Operator} {rd : V -> V -> Hp -> VK -> Prop} (ha : PE X o ta) (hv : PE X value tv) (hop : InOp X op rd) : PS X (.AugAssign (.Attribute o f tpos) op value pos) (sFldAug X.K ta tv rd f) := by
 intro pins s σ H D I h
 refine wpAny_AugAssign_AttributeAny (thn (ha pins s σ H _ I h) fun ov s1 ⟨x, H1, I1, rx, a, C, dx, fs, v, ex, ea, c, n, l, q⟩ => ?_)
 subst ex
 obtain rfl : ov = Value.ref a := rx
 refine getattr_ok I1 ea c n l fun u s2 I2 ru => thn (hv pins s2 σ H1 _ I2 q) fun w3 s3 ⟨y, H2, I3, ry, q3⟩ => thn (hop pins s3 σ H2 v y u w3 _ I3 ru ry q3) fun w4 s4 ⟨z, H3, I4, rz, dx', fs', ea', l', q4⟩ => ?_
 exact setattr_ok I4 ea' c n l' rz fun s5 I5 => ⟨σ, _, I5, q4⟩
def rAdd : V -> V -> Hp -> VK -> Prop := fun x y H Q => ∃ i j, x = .int i /\ y = .int j /\ Q (.int (i + j)) H
theorem in_add : InOp X .Add rAdd := by
 rintro pins s σ H x y u v Q I rx ry ⟨i, j, rfl, rfl, q⟩
 obtain ⟨t, rfl⟩ := (show ∃ t, u = Value.int i t from rx)
 obtain ⟨t', rfl⟩ := (show ∃ t', v = Value.int j t' from ry)
 exact PyProof.Rows.iadd_int ⟨.int (i + j), H, I.tok _, ⟨_, rfl⟩, q⟩
end
end L2
namespace L2
open PySem PySem.Spec PyProof.Rows
structure Room (k : Nat) (A : Around) : Prop where
 hd : A.handled = none
 dp : A.depth + 3 * k + 5 < recursionLimit
 un : A.units + 16 * k + 200 < cLine
theorem Room.mono {j k : Nat} {A : Around} (r : Room k A) (h : j ≤ k) : Room j A := ⟨r.hd, by have := r.dp; omega, by have := r.un; omega⟩
theorem Room.deeper {k : Nat} {A : Around} (r : Room (k + 1) A) (env : Env) : Room k (A.deeper env) :=
 ⟨r.hd, by have := r.dp; show A.depth + 1 + 3 * k + 5 < _; omega, by have := r.un; show A.units + 3 + 16 * k + 200 < _; omega⟩
theorem make_depth {A : Around} {C : Addr} {us : List Value} {kw : List (Str × Value)} : (A.under (.builtin "type.__call__" ⟨.ref C :: us, kw⟩)).depth = A.depth + 1 := by
 first | rfl | simp [Around.under, Code.weight, Code.isCreation, Code.isGuard, Code.isCaller, Code.frames, Code.isFrame, guardIds]
theorem make_units {A : Around} {C : Addr} {us : List Value} {kw : List (Str × Value)} : (A.under (.builtin "type.__call__" ⟨.ref C :: us, kw⟩)).units = A.units + 1 := by
 first | rfl | simp [Around.under, Code.cUnits, Code.frames, Code.isFrame]
theorem Room.make {k : Nat} {A : Around} (r : Room (k + 1) A) (C : Addr) (us : List Value) (kw : List (Str × Value)) : Room k (A.under (.builtin "type.__call__" ⟨.ref C :: us, kw⟩)) :=
 ⟨r.hd, by have := r.dp; rw [make_depth]; omega, by have := r.un; rw [make_units]; omega⟩
theorem Room.depth {k : Nat} {A : Around} (r : Room k A) : A.depth < recursionLimit := by have := r.dp; omega
theorem Room.units {k : Nat} {A : Around} (r : Room k A) : A.units + 64 < cLine := by have := r.un; omega
def tNil : TA := fun _ H Q => Q [] H
def tCons (ta : TE) (tr : TA) : TA := fun σ H Q => ta σ H fun x H1 => tr σ H1 fun xs H2 => Q (x :: xs) H2
section
variable {X : Cx} {e : Expr} {es : List Expr} {te : TE} {t : TA} {pos : Pos}
theorem pa_nil : PA X [] tNil := fun _ _ _ _ H Q I h => Calls.spliced_nil ⟨[], H, I, .nil, h⟩
theorem pa_cons (ha : PE X e te) (hr : PA X es t) (hs : starEach (e :: es) X.env = (false, eval e X.env) :: starEach es X.env := by rfl) : PA X (e :: es) (tCons te t) := by
 intro pos pins s σ H Q I h
 rw [hs]
 show wpAny _ _ (spliced ((false, eval e X.env) :: backTo pos (starEach es X.env))) _ _ s
 refine Calls.spliced_cons (thn (ha pins s σ H _ I h) fun u s1 ⟨x, H1, I1, r1, q1⟩ => ?_)
 exact thn (hr pos pins s1 σ H1 _ I1 q1) fun us s2 ⟨xs, H2, I2, r2, q2⟩ => ⟨x :: xs, H2, I2, .cons r1 r2, q2⟩
def tTup (t : TA) : TE := fun σ H Q => t σ H fun xs H1 => xs.length ≤ sizeLine /\ ∀ p, H1 p = none -> Q (.ref p) (upd H1 p (.tup xs))
def tLst (t : TA) : TE := fun σ H Q => t σ H fun xs H1 => xs.length ≤ sizeLine /\ ∀ p, H1 p = none -> Q (.ref p) (upd H1 p (.lst xs))
theorem pe_tup {x1} (h : PA X es t) : PE X (.Tuple es x1 pos) (tTup t) := by
 intro pins s σ H Q I hq
 refine wpAny_Tuple_spliced (thn (h pos pins s σ H _ I hq) fun us s1 ⟨xs, H1, I1, r, z, q⟩ => ⟨by rw [<- r.length]; exact z, ?_⟩)
 have hf : H1 s1.heap.objs.size = none := I1.hok.fresh (Nat.le_refl _)
 refine ⟨.ref s1.heap.objs.size, upd H1 s1.heap.objs.size (.tup xs), I1.laid (t' := s1.toks) (fun b u e => Heap.get?_push_of_some _ e) (Nat.le_refl _) ?_, rfl, q _ hf⟩
 exact ⟨z, us, r, ⟨_, Heap.get?_push_size _ rfl, rfl, _, rfl⟩⟩
theorem pe_lst (h : PA X es t) : PE X (.List es pos) (tLst t) := by
 intro pins s σ H Q I hq
 refine wpAny_List_spliced (thn (h pos pins s σ H _ I hq) fun us s1 ⟨xs, H1, I1, r, z, q⟩ => ⟨by rw [<- r.length]; exact z, ?_⟩)
 have hf : H1 s1.heap.objs.size = none := I1.hok.fresh (Nat.le_refl _)
 refine ⟨.ref s1.heap.objs.size, upd H1 s1.heap.objs.size (.lst xs), I1.laid (t' := s1.toks) (fun b u e => Heap.get?_push_of_some _ e) (Nat.le_refl _) ?_, rfl, q _ hf⟩
 exact ⟨z, us, 0, r, Heap.get?_push_size _ rfl⟩
end
abbrev Sp := List V -> Hp -> VK -> XK -> Prop
abbrev CXT := List Env -> Hp -> Shared -> XK -> Value -> Shared -> Prop
structure Env0 (P : Program) (w : World) (K : PySem.W.Frag) (mg : Str -> Option Value) (base : Heap) (A : Around) (outer : List Env) (s : Shared) (H : Hp) : Prop where
 frames : A.frames = some outer
 mod : Mod K mg base
 bs : ∀ b o, base.get? b = some o -> s.heap.get? b = some o /\ H b = none
 bsz : base.objs.size ≤ s.heap.objs.size
 funs : s.heap.FunFrames base outer
 frf : ∀ b ∈ frs outer, H b = none
 hok : HOk P w H s.heap
 bare : AllBare s.gens
def CE (outer : List Env) (P : Program) (w : World) (H : Hp) (s : Shared) (Q : VK) (u : Value) (s' : Shared) : Prop :=
 ∃ v H', s'.os = s.os /\ AllBare s'.gens /\ Un (frs outer) [] H H' s.heap s'.heap /\ HOk P w H' s'.heap /\ RelV v u /\ Q v H'
def CR (CX : CXT) (outer : List Env) (P : Program) (w : World) (H : Hp) (s : Shared) (Q : VK) (E : XK) (r : Result) (s' : Shared) : Prop :=
 match r with
 | .ok (.ret u) => CE outer P w H s Q u s'
 | .ok _ => False
 | .error e => CX outer H s E e s'
structure FnOk (P : Program) (w : World) (K : PySem.W.Frag) (mg : Str -> Option Value) (base : Heap) (CX : CXT) (k : Nat) (f : Addr) (fd : FuncData) (ps : List Str) (sp : Sp) : Prop where
 len : ∀ vs H Q E, sp vs H Q E -> vs.length = ps.length
 run : ∀ (A : Around) (outer : List Env) (s : Shared) (H : Hp) (args : Args) (us : List Value) (vs : List V) (Q : VK) (E : XK), Room k A -> Env0 P w K mg base A outer s H -> BindsTo s fd args (ps.zip us) -> Vals vs us -> sp vs H Q E ->
  codeAny (model P w) A (.call (.ref f) args) (CR CX outer P w H s Q E) s
theorem Env0.make {P : Program} {w : World} {K : PySem.W.Frag} {mg : Str -> Option Value} {base : Heap} {A : Around} {outer : List Env} {s : Shared} {H : Hp} (e : Env0 P w K mg base A outer s H) (C : Addr) (us : List Value) (kw : List (Str × Value)) :
  Env0 P w K mg base (A.under (.builtin "type.__call__" ⟨.ref C :: us, kw⟩)) outer s H := ⟨by first | exact e.frames | (simpa [Around.under, Code.envs, Code.isFrame, pushEnvs] using e.frames), e.mod, e.bs, e.bsz, e.funs, e.frf, e.hok, e.bare⟩
section
variable {X : Cx} {pins : List (Addr × Obj)} {σ : St} {H : Hp} {s s' : Shared}
theorem Inv.env0 (I : Inv X pins σ H s) : Env0 X.prog X.w X.K X.mg X.base X.A X.stack s H :=
 ⟨I.ok.frames, I.ok.mod, I.bs, Nat.le_trans I.ok.bsz I.sz, I.stack, I.stkFree, I.hok, I.bare⟩
theorem Inv.after {Q : VK} {u : Value} (I : Inv X pins σ H s) (h : CE X.stack X.prog X.w H s Q u s') : EP X pins σ Q u s' := by
 obtain ⟨v, H', os, bare, un, hok, r, q⟩ := h
 obtain ⟨hh, g, d, t, os'⟩ := s'
 obtain rfl : os' = s.os := os
 exact ⟨v, H', I.call (h' := hh) (g' := g) (d' := d) (t' := t) (ch := []) un hok bare (fun b z => absurd z (by simp)), r, q⟩
end
def tCall (sp : Sp) (dvs : List V) (E : XK) (t : TA) : TE := fun σ H Q => t σ H fun vs H1 => sp (vs ++ dvs) H1 Q E
def tMeth (C : Addr) (m : Str) (sp : Sp) (dvs : List V) (E : XK) (ta : TE) (t : TA) : TE := fun σ H Q => ta σ H fun x H1 => ∃ a dx fs, x = .ref a /\ H1 a = some (.ins C dx fs) /\ fs.lookup m = none /\
 t σ H1 fun vs H2 => sp (x :: (vs ++ dvs)) H2 Q E
def tMake (C : Addr) (sp : Sp) (dvs : List V) (E : XK) (t : TA) : TE := fun σ H Q => t σ H fun vs H1 => ∀ x dx, H1 x = none -> H1 dx = none -> dx ≠ x ->
 sp (.ref x :: (vs ++ dvs)) (upd (upd H1 dx (.own x)) x (.ins C dx [])) (fun v H2 => v = .non /\ Q (.ref x) H2) E
def Binds (K : PySem.W.Frag) (fd : FuncData) (ps : List Str) (ds : List Value) : Prop :=
 ∀ (s : Shared) (us : List Value), K.In s.heap -> (us ++ ds).length = ps.length -> BindsTo s fd ⟨us, []⟩ (ps.zip (us ++ ds))
theorem Binds.all {K : PySem.W.Frag} {fd : FuncData} {ps : List Str} (h : ∀ us : List Value, us.length = ps.length -> bindArgs fd ⟨us, []⟩ = pure (ps.zip us)) : Binds K fd ps [] := fun s us _ hl => by
 rw [List.append_nil] at hl ⊢
 exact .of_eq (h us hl)
def Passes (CX : CXT) (X : Cx) (E : XK) : Prop := ∀ (pins : List (Addr × Obj)) (σ : St) (H : Hp) (s : Shared) (e : Value) (s' : Shared), Inv X pins σ H s -> CX X.stack H s E e s' -> X.xe e s'
section
variable {X : Cx} {CX : CXT} {k : Nat} {f C : Addr} {fd : FuncData} {ps : List Str} {sp : Sp} {dvs : List V} {ds : List Value} {E : XK} {x m : Str} {p pos apos : Pos} {e o : Expr} {es : List Expr} {ta : TE} {t : TA}
theorem run_fn {pins : List (Addr × Obj)} {σ : St} {H : Hp} {s : Shared} {Q : VK} {us : List Value} {vs : List V} (F : FnOk X.prog X.w X.K X.mg X.base CX k f fd ps sp) (hr : Room k X.A) (hb : Binds X.K fd ps ds) (hd : Vals dvs ds) (hx : Passes CX X E)
  (I : Inv X pins σ H s) (r : Vals vs us) (h : sp (vs ++ dvs) H Q E) : wpAny (model X.prog X.w) X.A (call (.ref f) us) (EP X pins σ Q) X.xe s := by
 have r2 : Vals (vs ++ dvs) (us ++ ds) := r.append hd
 have hl : (us ++ ds).length = ps.length := by rw [<- r2.length]; exact F.len _ _ _ _ h
 refine wpAny_call (codeAny_mono (F.run X.A X.stack s H ⟨us, []⟩ (us ++ ds) (vs ++ dvs) Q E hr I.env0 (hb s us I.kIn hl) r2 h) fun r s' hq => ?_)
 cases r with
 | error e => exact hx pins σ H s e s' I hq
 | ok fl =>
  cases fl with
  | ret u => exact I.after hq
  | next => exact False.elim hq
  | brk => exact False.elim hq
  | cont => exact False.elim hq
theorem pe_call (F : FnOk X.prog X.w X.K X.mg X.base CX k f fd ps sp) (hr : Room k X.A) (hg : Gl X x) (hm : X.mg x = some (.ref f)) (hk : PySem.W.keepIn X.K (.ref f) = true) (hb : Binds X.K fd ps ds) (hd : Vals dvs ds) (hx : Passes CX X E)
  (ha : PA X (e :: es) t) (hdb : (x == ("__debug__" : Str)) = false := by decide) (he : starEach (e :: es) X.env = (false, eval e X.env) :: starEach es X.env := by rfl) (hpl : (backTo pos (starEach es X.env)).any (·.1) = false := by rfl) :
  PE X (.Call (.Name x p) (e :: es) [] pos) (tCall sp dvs E t) := by
 intro pins s σ H Q I h
 refine wpAny_Call_Name_kw (ld_glob I hg hm ?_ hdb)
 refine PySem.W.callWith_K (h₀ := X.base) I.ok.mod.kin hk (thn (ha pos pins s σ H _ I h) fun us s1 ⟨vs, H1, I1, r, q⟩ => ⟨I1.kIn, ?_⟩) he hpl
 exact run_fn F hr hb hd hx I1 r q
theorem pe_meth {pl : Sem Bool} (he : PE X o ta) (c : Cls X.K C) (hm : Meth X.K C m f) (F : FnOk X.prog X.w X.K X.mg X.base CX k f fd ps sp) (hr : Room k X.A) (hb : Binds X.K fd ps ds) (hd : Vals dvs ds) (hx : Passes CX X E) (ha : PA X (e :: es) t)
  (hst : starEach (e :: es) X.env = (false, eval e X.env) :: starEach es X.env := by rfl) (hpl : (backTo pos (starEach es X.env)).any (·.1) = false := by rfl)
  (ht : eval (.Call (.Attribute o m apos) (e :: es) [] pos) X.env = (do
   let ov <- eval o X.env
   standAt apos.atName
   let (f, first) <- holding [ov] (getMethod ov m pl)
   callWith pos f first (backTo pos (starEach (e :: es) X.env)) (backToKw pos (keywordEach [] X.env))) := by rfl) :
  PE X (.Call (.Attribute o m apos) (e :: es) [] pos) (tMeth C m sp dvs E ta t) := by
 intro pins s σ H Q I h
 refine PySem.W.methodCall_KW (pl := pl) (thn (he pins s σ H _ I h) fun u s1 ⟨x, H1, I1, rx, a, dx, fs, ex, ea, l, q⟩ => ?_) ht
 subst ex
 obtain rfl : u = Value.ref a := rx
 refine getmeth_ok I1 ea c hm l ?_
 refine PySem.W.callWith_K (first := [.ref a]) (h₀ := X.base) I.ok.mod.kin hm.kp (thn (ha pos pins s1 σ H1 _ I1 q) fun us s2 ⟨vs, H2, I2, r, q2⟩ => ⟨I2.kIn, ?_⟩) hst hpl
 exact run_fn (us := .ref a :: us) (vs := .ref a :: vs) F hr hb hd hx I2 (.cons rfl r) q2
theorem pe_meth0 {pl : Sem Bool} (he : PE X o ta) (c : Cls X.K C) (hm : Meth X.K C m f) (F : FnOk X.prog X.w X.K X.mg X.base CX k f fd ps sp) (hr : Room k X.A) (hb : Binds X.K fd ps ds) (hd : Vals dvs ds) (hx : Passes CX X E)
  (ht : eval (.Call (.Attribute o m apos) [] [] pos) X.env = (do
   let ov <- eval o X.env
   standAt apos.atName
   let (f, first) <- holding [ov] (getMethod ov m pl)
   callWith pos f first (backTo pos (starEach [] X.env)) (backToKw pos (keywordEach [] X.env))) := by rfl) :
  PE X (.Call (.Attribute o m apos) [] [] pos) (tMeth C m sp dvs E ta tNil) := by
 intro pins s σ H Q I h
 refine PySem.W.methodCall_KW (pl := pl) (thn (he pins s σ H _ I h) fun u s1 ⟨x, H1, I1, rx, a, dx, fs, ex, ea, l, q⟩ => ?_) ht
 subst ex
 obtain rfl : u = Value.ref a := rx
 refine getmeth_ok I1 ea c hm l ?_
 exact PySem.W.callWith_K0 (first := [.ref a]) I1.kIn hm.kp (run_fn (us := [.ref a]) (vs := [.ref a]) F hr hb hd hx I1 (.cons rfl .nil) q)
structure Mk (K : PySem.W.Frag) (C f : Addr) : Prop where
 makes : PySem.W.makesIn K C = true
 init : PySem.W.findIn K (.ref C) "__init__" = some (some (.ref f))
 fn : PySem.W.isFn K (.ref f) = true
 kp : PySem.W.keepIn K (.ref C) = true
theorem run_make {pins : List (Addr × Obj)} {σ : St} {H : Hp} {s : Shared} {Q : VK} {us : List Value} {vs : List V} (M : Mk X.K C f) (F : FnOk X.prog X.w X.K X.mg X.base CX k f fd ps sp) (hr : Room (k + 1) X.A) (hb : Binds X.K fd ps ds) (hd : Vals dvs ds)
  (hx : Passes CX X E) (I : Inv X pins σ H s) (r : Vals vs us)
  (h : ∀ x dx, H x = none -> H dx = none -> dx ≠ x -> sp (.ref x :: (vs ++ dvs)) (upd (upd H dx (.own x)) x (.ins C dx [])) (fun v H2 => v = .non /\ Q (.ref x) H2) E) :
  wpAny (model X.prog X.w) X.A (call (.ref C) us) (EP X pins σ Q) X.xe s := by
 have hq := h (s.heap.objs.size + 1) s.heap.objs.size (I.hok.fresh (Nat.le_succ _)) (I.hok.fresh (Nat.le_refl _)) (Nat.ne_of_lt (Nat.lt_succ_self _))
 have I2 := Inv.made (C := C) I
 have r2 : Vals (V.ref (s.heap.objs.size + 1) :: (vs ++ dvs)) (Value.ref (s.heap.objs.size + 1) :: (us ++ ds)) := .cons rfl (r.append hd)
 have hl : (Value.ref (s.heap.objs.size + 1) :: us ++ ds).length = ps.length := by
  have e := r2.length
  rw [F.len _ _ _ _ hq] at e
  exact e.symm
 refine wpAny_call (make_map (f := f) I.kIn M.makes M.init (beq_iff_eq.mp M.fn) (codeAny_mono (F.run _ X.stack _ _ ⟨Value.ref (s.heap.objs.size + 1) :: us, []⟩ (Value.ref (s.heap.objs.size + 1) :: (us ++ ds)) _ _ E (hr.make C us [])
  (I2.env0.make C us []) (hb _ (Value.ref (s.heap.objs.size + 1) :: us) I2.kIn hl) r2 hq) fun r s' hq' => ?_))
 cases r with
 | error e => exact hx pins σ _ _ e s' I2 hq'
 | ok fl =>
  cases fl with
  | ret u =>
   obtain ⟨v, H', I3, rv, ev, q3⟩ := I2.after hq'
   subst ev
   exact ⟨rv, ⟨V.ref (s.heap.objs.size + 1), H', I3, rfl, q3⟩⟩
  | next => exact False.elim hq'
  | brk => exact False.elim hq'
  | cont => exact False.elim hq'
theorem pe_make (M : Mk X.K C f) (F : FnOk X.prog X.w X.K X.mg X.base CX k f fd ps sp) (hr : Room (k + 1) X.A) (hg : Gl X x) (hm : X.mg x = some (.ref C)) (hb : Binds X.K fd ps ds) (hd : Vals dvs ds) (hx : Passes CX X E)
  (ha : PA X (e :: es) t) (hdb : (x == ("__debug__" : Str)) = false := by decide) (he : starEach (e :: es) X.env = (false, eval e X.env) :: starEach es X.env := by rfl) (hpl : (backTo pos (starEach es X.env)).any (·.1) = false := by rfl) :
  PE X (.Call (.Name x p) (e :: es) [] pos) (tMake C sp dvs E t) := by
 intro pins s σ H Q I h
 refine wpAny_Call_Name_kw (ld_glob I hg hm ?_ hdb)
 refine PySem.W.callWith_K (h₀ := X.base) I.ok.mod.kin M.kp (thn (ha pos pins s σ H _ I h) fun us s1 ⟨vs, H1, I1, r, q⟩ => ⟨I1.kIn, ?_⟩) he hpl
 exact run_make M F hr hb hd hx I1 r q
end
structure FnScope (N P : List Str) (sc : Scope) : Prop where
 kind : sc.kind = .function
 co : sc.isCoroutine = false
 gen : sc.isGenerator = false
 nd : N.Nodup
 pre : N.take P.length = P
 par : ∀ x ∈ P, sc.names.lookup x = some .local \/ sc.names.lookup x = some .cell
 nofree : ∀ y ∈ sc.names, y.2 ≠ .free
theorem bindL_out {kindOf : Str -> Option NameKind} {x : Str} : ∀ {binds : List (Str × Value)} {m : Str -> Option Value}, (∀ v, (x, v) ∉ binds) -> bindL kindOf binds m x = m x
 | [], _, _ => rfl
 | (n, v) :: r, m, h => by
  unfold bindL
  rw [bindL_out fun w hw => h w (List.mem_cons_of_mem _ hw)]
  split
  ·have : x ≠ n := by rintro rfl; exact h v List.mem_cons_self
   simp [this]
  ·rfl
theorem bindC_out {kindOf : Str -> Option NameKind} {x : Str} : ∀ {binds : List (Str × Value)} {m : Str -> Option Value}, (∀ v, (x, v) ∉ binds) -> bindC kindOf binds m x = m x
 | [], _, _ => rfl
 | (n, v) :: r, m, h => by
  unfold bindC
  rw [bindC_out fun w hw => h w (List.mem_cons_of_mem _ hw)]
  split
  ·rfl
  ·have : x ≠ n := by rintro rfl; exact h v List.mem_cons_self
   simp [this]
theorem bindL_get {kindOf : Str -> Option NameKind} {x : Str} {v : Value} : ∀ {P : List Str} {vs : List Value} {i : Nat} {m : Str -> Option Value}, P.Nodup -> P[i]? = some x -> vs[i]? = some v -> kindOf x = some .local ->
  bindL kindOf (P.zip vs) m x = some v
 | [], _, _, _, _, h, _, _ => by simp at h
 | _ :: _, [], _, _, _, _, h, _ => by simp at h
 | p :: P, w :: vs, 0, m, nd, h1, h2, hk => by
  simp at h1 h2; subst h1; subst h2
  show bindL kindOf ((p, w) :: P.zip vs) m p = _
  unfold bindL
  rw [bindL_out fun v hv => (List.nodup_cons.mp nd).1 (List.of_mem_zip hv).1, if_pos hk]
  simp
 | p :: P, w :: vs, i + 1, m, nd, h1, h2, hk => by
  show bindL kindOf ((p, w) :: P.zip vs) m x = _
  unfold bindL
  exact bindL_get (i := i) (List.nodup_cons.mp nd).2 (by simpa using h1) (by simpa using h2) hk
theorem bindC_get {kindOf : Str -> Option NameKind} {x : Str} {v : Value} : ∀ {P : List Str} {vs : List Value} {i : Nat} {m : Str -> Option Value}, P.Nodup -> P[i]? = some x -> vs[i]? = some v -> kindOf x ≠ some .local ->
  bindC kindOf (P.zip vs) m x = some v
 | [], _, _, _, _, h, _, _ => by simp at h
 | _ :: _, [], _, _, _, _, h, _ => by simp at h
 | p :: P, w :: vs, 0, m, nd, h1, h2, hk => by
  simp at h1 h2; subst h1; subst h2
  show bindC kindOf ((p, w) :: P.zip vs) m p = _
  unfold bindC
  rw [bindC_out fun v hv => (List.nodup_cons.mp nd).1 (List.of_mem_zip hv).1, if_neg hk]
  simp
 | p :: P, w :: vs, i + 1, m, nd, h1, h2, hk => by
  show bindC kindOf ((p, w) :: P.zip vs) m x = _
  unfold bindC
  exact bindC_get (i := i) (List.nodup_cons.mp nd).2 (by simpa using h1) (by simpa using h2) hk
def start (N : List Str) (vs : List V) : St := vs.map some ++ List.replicate (N.length - vs.length) none
def cxOf (CX : CXT) (P : Program) (w : World) (K : PySem.W.Frag) (mg : Str -> Option Value) (base : Heap) (N : List Str) (qual : Str) (scope : Scope) (f : Addr) (cd : Value) (A : Around) (outer : List Env) (s : Shared) (H : Hp) (E : XK) : Cx where
 prog := P
 w := w
 K := K
 mg := mg
 base := base
 A := A.deeper (envOfC qual scope s.heap.objs.size f cd)
 N := N
 s_0 := s
 H_0 := H
 env := envOfC qual scope s.heap.objs.size f cd
 outer := outer
 stack := envOfC qual scope s.heap.objs.size f cd :: outer
 ex := []
 calm := true
 fn := fun _ => true
 pn := []
 xe := fun e s' => wpAny (model P w) (A.deeper (envOfC qual scope s.heap.objs.size f cd)) (leaving (envOfC qual scope s.heap.objs.size f cd) e) (fun _ s'' => CX outer H s E e s'') (fun e' s'' => CX outer H s E e' s'') s'
theorem cell_has {sc : Scope} {n : Nat} {x : Str} (h : sc.names.lookup x = some .cell) : ∃ c, (cellsFrom n sc.names []).lookup x = some c := by
 have q := PySem.W.cellsFrom_some sc.names n [] (.inl h)
 exact Option.isSome_iff_exists.mp q
theorem inv_start {CX : CXT} {P : Program} {w : World} {K : PySem.W.Frag} {mg : Str -> Option Value} {base : Heap} {N ps : List Str} {qual : Str} {scope : Scope} {f : Addr} {cd : Value} {A : Around} {outer : List Env} {s s1 : Shared} {H : Hp} {E : XK} {us : List Value} {vs : List V}
  (S : FnScope N ps scope) (hd : A.handled = none) (e0 : Env0 P w K mg base A outer s H) (hl : vs.length = ps.length) (r : Vals vs us)
  (x : InCallC s s.heap.objs.size (bindL (envOfC qual scope s.heap.objs.size f cd).kindOf (ps.zip us) fun _ => none) (cellsFrom (s.heap.objs.size + 1) scope.names []) (bindC (envOfC qual scope s.heap.objs.size f cd).kindOf (ps.zip us) fun _ => none) s1) :
  Inv (cxOf CX P w K mg base N qual scope f cd A outer s H E) [] (start N vs) H s1 := by
 have hpl : ps.length ≤ N.length := by have := congrArg List.length S.pre; rw [List.length_take] at this; omega
 obtain ⟨h1, tk, rfl, hk⟩ := x.done
 have noA : ∀ b : Addr, b ∉ (cxOf CX P w K mg base N qual scope f cd A outer s H E).ex := fun b z => absurd (show b ∈ ([] : List Addr) from z) (by simp)
 refine ⟨⟨e0.mod, S.kind, rfl, rfl, Nat.le_refl _, fun y z c h1 h2 => ?_, fun y hy => ?_, fun y c _ h => ?_, fun _ => hd, Around.frames_deeper e0.frames, .inr ⟨rfl, rfl⟩, fun b z => absurd z (noA b), e0.bs, e0.bsz, fun b _ _ => noA b, fun b z => absurd z (noA b), e0.funs, e0.frf⟩,
  rfl, e0.bare, Un.kept hk, ⟨_, x.toInCall.ns, fun i y v h1 h2 h3 => ?_⟩, fun y c h => ⟨_, x.cell y c h⟩, e0.hok.fresh (Nat.le_refl _), fun y c h => ?_, fun p hp => absurd (show p ∈ ([] : List (Addr × Obj)) from hp) (by simp), e0.hok.kept hk, ?_⟩
 ·exact name_of_addr x.apart (PySem.mem_of_lookup h1) (PySem.mem_of_lookup h2)
 ·have hy : scope.names.lookup y = some .cell \/ scope.names.lookup y = some .free := hy
  rcases hy with hy | hy
  ·exact cell_has hy
  ·exact absurd rfl (S.nofree _ (PySem.mem_of_lookup hy))
 ·exact Nat.le_of_lt (x.above y c (PySem.mem_of_lookup h))
 ·have hi : i < vs.length := by
   unfold start at h2
   by_cases hi : i < vs.length
   ·exact hi
   ·rw [List.getElem?_append_right (by simpa using hi)] at h2
    rw [List.getElem?_replicate] at h2
    split at h2 <;> cases h2
  have ha : vs[i]? = some v := by
   unfold start at h2
   rw [List.getElem?_append_left (by simpa using hi), List.getElem?_map] at h2
   cases e : vs[i]? with
   | none => rw [e] at h2; cases h2
   | some a => rw [e] at h2; cases h2; rfl
  obtain ⟨u, hu, rv⟩ := r.get ha
  have hp : ps[i]? = some y := by
   rw [<- S.pre, List.getElem?_take_of_lt (by omega)]; exact h1
  have ndP : ps.Nodup := by rw [<- S.pre]; exact S.nd.sublist (List.take_sublist _ _)
  refine ⟨u, rv, ?_⟩
  rcases S.par y (List.mem_of_getElem? hp) with k | k
  ·exact .inl ⟨k, bindL_get ndP hp hu k⟩
  ·obtain ⟨c, e⟩ := cell_has (n := s.heap.objs.size + 1) k
   refine .inr ⟨.inl k, c, e, ?_⟩
   have q := x.cell y c e
   rw [bindC_get ndP hp hu (by show scope.names.lookup y ≠ _; rw [k]; decide)] at q
   exact q
 ·exact e0.hok.fresh (Nat.le_of_lt (x.above y c (PySem.mem_of_lookup h)))
 ·unfold start
  show _ = N.length
  rw [List.length_append, List.length_map, List.length_replicate]
  omega
theorem fn_of {CX : CXT} {P : Program} {w : World} {K : PySem.W.Frag} {mg : Str -> Option Value} {base : Heap} {k : Nat} {f : Addr} {name qual : Str} {params : Arguments} {body : List Stmt} {scope : Scope} {dV kV doc pm cdv ct oc : Value} {an od : Option Addr}
  {osl : Array (Option Value)} {N ps : List Str} {sp : Sp} (lk : K.lookup f = some ⟨oc, od, .func (PySem.W.fnOf name qual params body scope dV kV doc pm an cdv ct), osl⟩) (hcd : PySem.W.codeIn K cdv qual = true) (S : FnScope N ps scope)
  (len : ∀ vs H Q E, sp vs H Q E -> vs.length = ps.length)
  (hbody : ∀ (A : Around) (outer : List Env) (s : Shared) (H : Hp) (vs : List V) (Q : VK) (E : XK), Room k (A.deeper (envOfC qual scope s.heap.objs.size f cdv)) -> sp vs H Q E ->
   ∃ t, PSs (cxOf CX P w K mg base N qual scope f cdv A outer s H E) body t /\ t { nx := fun _ H' => Q .non H', rt := Q } (start N vs) H) :
  FnOk P w K mg base CX (k + 1) f (PySem.W.fnOf name qual params body scope dV kV doc pm an cdv ct) ps sp := by
 refine ⟨len, fun A outer s H args us vs Q E hr e0 hb r hsp => ?_⟩
 have hl := len _ _ _ _ hsp
 have KX : K.In s.heap := e0.mod.kin.keeps fun b o e => (e0.bs b o e).1
 have lim : s.heap.NoLimit := e0.mod.nolimit.keeps fun b o e => (e0.bs b o e).1
 have hkind : ∀ y ∈ ps.zip us, scope.names.lookup y.1 = some .local \/ (scope.names.lookup y.1 = some .cell /\ ((cellsFrom (s.heap.objs.size + 1) scope.names []).lookup y.1).isSome = true) := fun ⟨n, v⟩ hy => by
  rcases S.par n (List.of_mem_zip hy).1 with q | q
  ·exact .inl q
  ·exact .inr ⟨q, PySem.W.cellsFrom_some _ _ _ (.inl q)⟩
 refine codeAny_call_function hr.depth (KX _ _ lk) rfl S.co S.gen rfl (PySem.W.codeRec_of KX hcd) (hb _ _ _ _ ?_)
 refine wpAny_newFunctionEnv_cells S.kind hkind fun env he s1 x => ?_
 subst he
 refine ⟨lim.keeps x.toInCall.keep, codeAny_func ?_⟩
 obtain ⟨t, ht, hq⟩ := hbody A outer s H vs Q E (hr.deeper _) hsp
 have I : Inv (cxOf CX P w K mg base N qual scope f cdv A outer s H E) [] (start N vs) H s1 := inv_start S hr.hd e0 hl r x
 refine wpAny_mono (ht [] s1 (start N vs) H _ I hq) (fun fl s' hs => ?_) fun e s' hs => hs
 have fin : ∀ {σ' : St} {H' : Hp} {v : V} {u : Value}, Inv (cxOf CX P w K mg base N qual scope f cdv A outer s H E) [] σ' H' s' -> RelV v u -> Q v H' -> CE outer P w H s Q u s' :=
  fun {σ' H' v u} J rv q => ⟨v, H', J.os, J.bare, J.base, J.hok, rv, q⟩
 cases fl with
 | ret u =>
  obtain ⟨v, σ', H', J, rv, q⟩ := hs
  exact fin J rv q
 | next =>
  obtain ⟨σ', H', J, q⟩ := hs
  exact fin (v := V.non) (u := Value.none) J rfl q
 | brk =>
  obtain ⟨_, _, _, q⟩ := hs
  exact False.elim q
 | cont =>
  obtain ⟨_, _, _, q⟩ := hs
  exact False.elim q
end L2
namespace L2
open PySem PySem.Spec PyProof.Rows
section
variable {X : Cx} {x : Str} {p pos : Pos} {e : Expr} {es : List Expr} {t : TA} {id T : String} {r : List V -> Hp -> VK -> Prop}
def tCB (r : List V -> Hp -> VK -> Prop) (t : TA) : TE := fun σ H Q => t σ H fun vs H1 => r vs H1 Q
theorem pe_callB (hc : CallR X (.builtin id) r) (hg : Gl X x) (hm : X.mg x = none) (hv : bootBuiltins x = some (.builtin id)) (ha : PA X (e :: es) t) (hn : x ≠ "__name__" := by decide) (hdb : (x == ("__debug__" : Str)) = false := by decide)
  (he : starEach (e :: es) X.env = (false, eval e X.env) :: starEach es X.env := by rfl) (hpl : (backTo pos (starEach es X.env)).any (·.1) = false := by rfl) : PE X (.Call (.Name x p) (e :: es) [] pos) (tCB r t) := by
 intro pins s σ H Q I h
 refine wpAny_Call_Name_kw (ld_blt I hg hm hv ?_ hn hdb)
 exact PyProof.Rows.callWith_builtin1 (thn (ha pos pins s σ H _ I h) fun us s1 ⟨vs, H1, I1, r1, q1⟩ => hc pins s1 σ H1 vs us Q I1 r1 q1) he hpl
theorem pe_callTy (hc : CallR X (.type T) r) (hg : Gl X x) (hm : X.mg x = none) (hv : bootBuiltins x = some (.type T)) (ha : PA X (e :: es) t) (hn : x ≠ "__name__" := by decide) (hdb : (x == ("__debug__" : Str)) = false := by decide)
  (he : starEach (e :: es) X.env = (false, eval e X.env) :: starEach es X.env := by rfl) (hpl : (backTo pos (starEach es X.env)).any (·.1) = false := by rfl) : PE X (.Call (.Name x p) (e :: es) [] pos) (tCB r t) := by
 intro pins s σ H Q I h
 refine wpAny_Call_Name_kw (ld_blt I hg hm hv ?_ hn hdb)
 exact PyProof.Rows.callWith_type1 (thn (ha pos pins s σ H _ I h) fun us s1 ⟨vs, H1, I1, r1, q1⟩ => hc pins s1 σ H1 vs us Q I1 r1 q1) he hpl
end
end L2
namespace HT
open PySem PyProof.Rows
section
variable {prog : Program} {w : World} {A : Around} {E : Value -> Shared -> Prop} {s : Shared}
theorem cat_tup {t b : Addr} {vs ws : List Value} {Q : Value -> Shared -> Prop} (ht : IsTup s.heap t vs.toArray) (hb : IsTup s.heap b ws.toArray) (hv : vs ≠ [])
  (h1 : ws = [] -> Q (.ref t) s) (h2 : ws ≠ [] -> Q (.ref s.heap.objs.size) { s with heap := s.heap.push { cls := .type "tuple", data := .seq (vs ++ ws).toArray } })
  (hsz : vs.length + ws.length ≤ sizeLine) : wpAny (model prog w) A (binaryOp .Add (.ref t) (.ref b)) Q E s := by
 obtain ⟨⟨cls, dd, data, sl⟩, ho, hc, n, hd⟩ := id ht
 obtain ⟨⟨cls2, dd2, data2, sl2⟩, ho2, hc2, n2, hd2⟩ := id hb
 simp only at hc hd hc2 hd2
 subst hc hd hc2 hd2
 have e : vs.toArray ++ ws.toArray = (vs ++ ws).toArray := by simp
 by_cases hw : ws = []
 ·exact concat_meets ⟨_, ho, rfl⟩ ⟨_, ho2, rfl⟩ noFill_tuple_add seq_tuple_add PySem.F.slot_tuple_add PySem.F.entry_tuple_add (PySem.F.args_tuple_add_2 _ _)
   (tuple_addW1 t b vs.toArray ws.toArray n n2 dd dd2 sl sl2 (by simpa using hv) (by simp [hw])) ⟨ho, ho2, h1 hw⟩
 ·refine concat_meets ⟨_, ho, rfl⟩ ⟨_, ho2, rfl⟩ noFill_tuple_add seq_tuple_add PySem.F.slot_tuple_add PySem.F.entry_tuple_add (PySem.F.args_tuple_add_2 _ _)
   (tuple_addW2 t b vs.toArray ws.toArray n n2 dd dd2 sl sl2 (by simpa using hv) (by simpa using hw) (by rw [List.size_toArray, List.size_toArray]; exact hsz)) ⟨ho, ho2, ?_⟩
  rw [e]
  exact h2 hw
def sIx (n d : Nat) : Option Int -> Nat
 | none => d
 | some v => if v < 0 then (v + (n : Int)).toNat else min v.toNat n
theorem sIx_none (n d : Nat) : sIx n d none = d := rfl
theorem sIx_nat (n d k : Nat) : sIx n d (some (k : Int)) = min k n := by
 show (if (k : Int) < 0 then ((k : Int) + (n : Int)).toNat else min (k : Int).toNat n) = min k n
 rw [if_neg (by omega), Int.toNat_natCast]
theorem sIx_le (n d : Nat) (hd : d ≤ n) (o : Option Int) : sIx n d o ≤ n := by
 cases o with
 | none => exact hd
 | some v =>
  show (if v < 0 then (v + (n : Int)).toNat else min v.toNat n) ≤ n
  by_cases hv : v < 0
  ·rw [if_pos hv]; omega
  ·rw [if_neg hv]; exact Nat.min_le_right _ _
end
end HT
namespace L2
open PySem PySem.Spec PyProof.Rows
abbrev TO := St -> Hp -> (Option Int -> Hp -> Prop) -> Prop
def PO (X : Cx) (e : Option Expr) (t : TO) : Prop :=
 ∀ (pins : List (Addr × Obj)) (s : Shared) (σ : St) (H : Hp) (Q : Option Int -> Hp -> Prop), Inv X pins σ H s -> t σ H Q ->
  wpAny (model X.prog X.w) X.A (evalPart e X.env) (fun u s' => ∃ o H', Inv X pins σ H' s' /\ IsPart u o /\ Q o H') X.xe s
def tNoPart : TO := fun _ H Q => Q none H
def tPart (t : TE) : TO := fun σ H Q => t σ H fun x H1 => ∃ i, x = .int i /\ Q (some i) H1
section
variable {X : Cx} {e : Expr} {te : TE} {lo hi : Option Expr} {tl th : TO} {pos p2 : Pos}
theorem po_none : PO X none tNoPart := by
 intro pins s σ H Q I h
 rw [evalPart_none]
 exact wpAny_pure ⟨none, H, I, .none, h⟩
theorem po_some (h : PE X e te) : PO X (some e) (tPart te) := by
 intro pins s σ H Q I hw
 rw [evalPart_some]
 refine thn (h pins s σ H _ I hw) fun u s1 ⟨x, H1, I1, r1, q1⟩ => ?_
 obtain ⟨i, rfl, q⟩ := q1
 obtain ⟨t, rfl⟩ := r1
 exact ⟨some i, H1, I1, .int i t, q⟩
def SlR (X : Cx) (r : V -> Option Int -> Option Int -> Hp -> VK -> Prop) : Prop :=
 ∀ (pins : List (Addr × Obj)) (s : Shared) (σ : St) (H : Hp) (x : V) (v vl vu : Value) (lo hi : Option Int) (sl : Addr) (Q : VK), Inv X pins σ H s -> RelV x v -> s.heap.IsSliceOf sl vl vu .none -> IsPart vl lo -> IsPart vu hi -> r x lo hi H Q ->
  ∃ T id, typeLookup (.type T) "__getitem__" = pure (some (.builtin id)) /\ s.TypeIs v T /\ wpAny (model X.prog X.w) X.A (getItem v (.ref sl)) (EP X pins σ Q) X.xe s
def tSl (r : V -> Option Int -> Option Int -> Hp -> VK -> Prop) (te : TE) (tl th : TO) : TE := fun σ H Q => te σ H fun x H1 => tl σ H1 fun l H2 => th σ H2 fun u H3 => r x l u H3 Q
theorem pe_slice {r : V -> Option Int -> Option Int -> Hp -> VK -> Prop} (hr : SlR X r) (he : PE X e te) (hl : PO X lo tl) (hu : PO X hi th) : PE X (.Subscript e (.Slice lo hi none p2) pos) (tSl r te tl th) := by
 intro pins s σ H Q I h
 refine Subscript_ (thn (he pins s σ H _ I h) fun v s1 ⟨x, H1, I1, r1, q1⟩ => ?_)
 refine wpAny_Slice (thn (hl pins s1 σ H1 _ I1 q1) fun vl s2 ⟨l, H2, I2, pl, q2⟩ => thn (hu pins s2 σ H2 _ I2 q2) fun vu s3 ⟨u, H3, I3, pu, q3⟩ => ?_)
 rw [evalPart_none]
 refine wpAny_pure ?_
 have I4 : Inv X pins σ H3 { s3 with heap := s3.heap.push { cls := .type "slice", data := .fields #[vl, vu, .none] } } := I3.kept (t' := s3.toks) fun b ob q => Heap.get?_push_of_some _ q
 obtain ⟨T, id, hT, ht, hg⟩ := hr pins { s3 with heap := s3.heap.push { cls := .type "slice", data := .fields #[vl, vu, .none] } } σ H3 x v vl vu l u s3.heap.objs.size Q I4 r1 (Heap.IsSliceOf.new ..) pl pu q3
 show wpAny (model X.prog X.w) X.A (subscriptTail e (.Slice lo hi none p2) v (.ref s3.heap.objs.size)) (EP X pins σ Q) X.xe { s3 with heap := s3.heap.push { cls := .type "slice", data := .fields #[vl, vu, .none] } }
 exact tail_any (ops := [.ref s3.heap.objs.size, v]) ht hT hg (by with_unfolding_all rfl)
theorem Vals.nil_iff {xs : List V} {us : List Value} (r : Vals xs us) : us = [] ↔ xs = [] := by
 cases r with
 | nil => simp
 | cons _ _ => simp
end
end L2
namespace L2
open PySem PySem.Spec PyProof.Rows
def ixN (n : Nat) (i : Int) : Option Nat := if 0 ≤ i then (if i < n then some i.toNat else none) else if -(n : Int) ≤ i then some (i + n).toNat else none
def atI {α : Type} (xs : List α) (i : Int) : Option α := (ixN xs.length i).bind fun j => xs[j]?
theorem ixN_seq {n : Nat} {i : Int} {j : Nat} (h : ixN n i = some j) : seqIndex? i n = some j /\ j < n /\ -(n : Int) ≤ i /\ i < n := by
 unfold ixN at h
 by_cases h0 : 0 ≤ i
 ·rw [if_pos h0] at h
  by_cases h1 : i < n
  ·rw [if_pos h1] at h
   have e : i.toNat = j := Option.some.inj h
   exact ⟨by rw [seqIndex_of h0 h1, e], by omega, by omega, h1⟩
  ·rw [if_neg h1] at h; cases h
 ·rw [if_neg h0] at h
  by_cases h1 : -(n : Int) ≤ i
  ·rw [if_pos h1] at h
   have e : (i + n).toNat = j := Option.some.inj h
   exact ⟨by rw [seqIndex_neg (by omega) h1, e], by omega, h1, by omega⟩
  ·rw [if_neg h1] at h; cases h
theorem atI_get {α : Type} {xs : List α} {i : Int} {v : α} (h : atI xs i = some v) : ∃ j, seqIndex? i xs.length = some j /\ xs[j]? = some v /\ j < xs.length /\ -(xs.length : Int) ≤ i /\ i < xs.length := by
 unfold atI at h
 cases e : ixN xs.length i with
 | none => rw [e] at h; cases h
 | some j =>
  rw [e] at h
  obtain ⟨h1, h2, h3, h4⟩ := ixN_seq e
  exact ⟨j, h1, h, h2, h3, h4⟩
theorem atI_nat {α : Type} {xs : List α} {j : Nat} {v : α} (h : xs[j]? = some v) : atI xs (j : Int) = some v := by
 have hj : j < xs.length := (List.getElem?_eq_some_iff.mp h).1
 have e : ixN xs.length (j : Int) = some j := by
  unfold ixN
  rw [if_pos (by omega), if_pos (by omega)]; simp
 unfold atI; rw [e]; exact h
theorem atI_last {α : Type} (xs : List α) (v : α) : atI (xs ++ [v]) (-1) = some v := by
 have hl : (xs ++ [v]).length = xs.length + 1 := by simp
 have e : ixN (xs ++ [v]).length (-1) = some xs.length := by
  unfold ixN
  rw [hl, if_neg (by decide), if_pos (by omega)]
  congr 1
  omega
 unfold atI
 rw [e]
 show (xs ++ [v])[xs.length]? = some v
 simp
def PlainIx (b : Expr) : Prop := ∀ o i, subscripted b false o i = operate [o, i] (getItem o i)
def IxR (X : Cx) (r : R2) : Prop :=
 ∀ (value slice : Expr) (pins : List (Addr × Obj)) (s : Shared) (σ : St) (H : Hp) (x y : V) (v u : Value) (Q : VK), Inv X pins σ H s -> RelV x v -> RelV y u -> r x y H Q ->
  subscripted slice false v u = operate [v, u] (getItem v u) -> wpAny (model X.prog X.w) X.A (subscriptTail value slice v u) (EP X pins σ Q) X.xe s
def MtR (X : Cx) (id : String) (r : V -> List V -> Hp -> VK -> Prop) : Prop :=
 ∀ (pins : List (Addr × Obj)) (s : Shared) (σ : St) (H : Hp) (x : V) (xs : List V) (v : Value) (us : List Value) (Q : VK), Inv X pins σ H s -> RelV x v -> Vals xs us -> r x xs H Q ->
  wpAny (model X.prog X.w) X.A (call (.builtin id) (v :: us)) (EP X pins σ Q) X.xe s
section
variable {X : Cx} {a b : Expr} {ta tb : TE} {pos : Pos}
theorem pe_ix {r : R2} (hr : IxR X r) (ha : PE X a ta) (hb : PE X b tb) (hs : PlainIx b) : PE X (.Subscript a b pos) (tOp r ta tb) := by
 intro pins s σ H Q I h
 exact Subscript_ (binT ha hb I h fun v u s2 x y H2 I2 rx ry q => hr a b pins s2 σ H2 x y v u Q I2 rx ry q (hs _ _))
def rIxL (K : PySem.W.Frag) : R2 := fun x y H Q => ∃ p xs i v, x = .ref p /\ y = .int i /\ SqL K H p xs /\ atI xs i = some v /\ Q v H
def rIxT (K : PySem.W.Frag) : R2 := fun x y H Q => ∃ p xs i v, x = .ref p /\ y = .int i /\ SqT K H p xs /\ atI xs i = some v /\ Q v H
def rIxS : R2 := fun x y H Q => ∃ z i c, x = .str z /\ y = .int i /\ z.length ≤ sizeLine /\ atI z.cps.toList i = some c /\ Q (.str ⟨#[c]⟩) H
theorem ix_list : IxR X (rIxL X.K) := by
 intro value slice pins s σ H x y v u Q I rx ry h hs
 obtain ⟨p, xs, i, z, rfl, rfl, hq, he, q⟩ := h
 cases rx
 obtain ⟨t, rfl⟩ := ry
 obtain ⟨its, r, pl, hz⟩ := I.list hq
 obtain ⟨j, h1, h2, h3, h4, h5⟩ := atI_get he
 obtain ⟨w, ew, rw'⟩ := r.get h2
 have hl := r.length
 have hn := line63
 have fin : EP X pins σ Q w s := ⟨z, H, I, rw', q⟩
 by_cases h0 : 0 ≤ i
 ·have hj : i.toNat = j := by
   rw [seqIndex_of h0 h5] at h1
   exact Option.some.inj h1
  exact item_listR pl.isList h0 (by omega) (by rw [hj]; simpa using ew) fin hs
 ·have hj : (i + (its.toArray.size : Int)).toNat = j := by
   rw [seqIndex_neg (by omega) h4] at h1
   rw [List.size_toArray, <- hl]
   exact Option.some.inj h1
  exact subscriptTail_builtinR (x := w) pl.isList.typeIs slot_list_getitem.lookup
   (wpAny_getItem_list_neg (Q := fun r s' => r = w /\ EP X pins σ Q r s') pl.isList (by omega) (by rw [List.size_toArray] <;> omega) (by omega) (by rw [hj]; simpa using ew) ⟨rfl, fin⟩) hs
theorem ix_tup : IxR X (rIxT X.K) := by
 intro value slice pins s σ H x y v u Q I rx ry h hs
 obtain ⟨p, xs, i, z, rfl, rfl, hq, he, q⟩ := h
 cases rx
 obtain ⟨t, rfl⟩ := ry
 obtain ⟨its, r, pl, hz⟩ := I.tuple hq
 obtain ⟨j, h1, h2, h3, h4, h5⟩ := atI_get he
 obtain ⟨w, ew, rw'⟩ := r.get h2
 have hl := r.length
 have hn := line63
 have fin : EP X pins σ Q w s := ⟨z, H, I, rw', q⟩
 exact subscriptTail_builtinR (x := w) pl.typeIs slot_tuple_getitem.lookup
  (getItem_tuple (j := j) (Q := fun r s' => r = w /\ EP X pins σ Q r s') pl (by omega) (by omega) (by rw [List.size_toArray, <- hl]; exact h1) (by simpa using ew) ⟨rfl, fin⟩) hs
theorem ix_str : IxR X rIxS := by
 intro value slice pins s σ H x y v u Q I rx ry h hs
 obtain ⟨z, i, c, rfl, rfl, hz, he, q⟩ := h
 obtain ⟨t, rfl⟩ := rx
 obtain ⟨t', rfl⟩ := ry
 obtain ⟨j, h1, h2, h3, h4, h5⟩ := atI_get he
 have hl : z.cps.toList.length = z.length := by simp [Str.length]
 rw [hl] at h1 h4 h5
 have hn := line63
 exact tail_any (typeIs_str s z t) slot_str_getitem.lookup (getItem_str (c := c) (by
  have e1 : decide (i < -(2 ^ 63 : Int)) = false := decide_eq_false (by omega)
  have e2 : decide (i ≥ 2 ^ 63) = false := decide_eq_false (by omega)
  rw [e1, e2, Bool.or_false]) (by rw [h1]; simpa using h2) ⟨.str ⟨#[c]⟩, H, I.tok _, ⟨_, rfl⟩, q⟩) hs
def flatV : V -> Bool
 | .non => true
 | .bl _ => true
 | .int _ => true
 | .str _ => true
 | _ => false
def eqV : V -> V -> Bool
 | .non, .non => true
 | .bl a, .bl b => a == b
 | .bl a, .int b => (if a then 1 else 0) == b
 | .int a, .bl b => a == (if b then 1 else 0)
 | .int a, .int b => a == b
 | .str a, .str b => a == b
 | _, _ => false
theorem eqAt_V {A : Around} {s : Shared} {y x : V} {u v : Value} (ry : RelV y u) (rx : RelV x v) (fy : flatV y = true) (fx : flatV x = true) : SeqAt.EqAt A s u v (eqV y x) := by
 cases y with
 | non =>
  cases ry
  cases x with
  | non => cases rx; exact SeqAt.EqAt.same _
  | bl b => cases rx; exact SeqAt.EqAt.none_bool b
  | int b => obtain ⟨t, rfl⟩ := rx; exact SeqAt.EqAt.none_int b t
  | str b => obtain ⟨t, rfl⟩ := rx; exact SeqAt.EqAt.none_str b t
  | _ => exact absurd (show false = true from fx) Bool.false_ne_true
 | bl a =>
  cases ry
  cases x with
  | non => cases rx; exact SeqAt.EqAt.bool_none a
  | bl b => cases rx; exact SeqAt.EqAt.bool_bool a b
  | int b => obtain ⟨t, rfl⟩ := rx; exact SeqAt.EqAt.bool_int a b t
  | str b => obtain ⟨t, rfl⟩ := rx; exact SeqAt.EqAt.bool_str a b t
  | _ => exact absurd (show false = true from fx) Bool.false_ne_true
 | int a =>
  obtain ⟨t', rfl⟩ := ry
  cases x with
  | non => cases rx; exact SeqAt.EqAt.int_none a t'
  | bl b => cases rx; exact SeqAt.EqAt.int_bool a t' b
  | int b => obtain ⟨t, rfl⟩ := rx; exact SeqAt.EqAt.int_int a t' b t
  | str b => obtain ⟨t, rfl⟩ := rx; exact SeqAt.EqAt.int_str a t' b t
  | _ => exact absurd (show false = true from fx) Bool.false_ne_true
 | str a =>
  obtain ⟨t', rfl⟩ := ry
  cases x with
  | non => cases rx; exact SeqAt.EqAt.str_none a t'
  | bl b => cases rx; exact SeqAt.EqAt.str_bool a t' b
  | int b => obtain ⟨t, rfl⟩ := rx; exact SeqAt.EqAt.str_int a t' b t
  | str b => obtain ⟨t, rfl⟩ := rx; exact SeqAt.EqAt.str_str a t' b t
  | _ => exact absurd (show false = true from fx) Bool.false_ne_true
 | _ => exact absurd (show false = true from fy) Bool.false_ne_true
def eqU (x : V) (u : Value) : Bool := match u with
 | .none => eqV .non x
 | .bool b => eqV (.bl b) x
 | .int i _ => eqV (.int i) x
 | .str z _ => eqV (.str z) x
 | _ => false
theorem eqU_of {x y : V} {u : Value} (r : RelV y u) (f : flatV y = true) : eqU x u = eqV y x := by
 cases y with
 | non => cases r; rfl
 | bl b => cases r; rfl
 | int i => obtain ⟨t, rfl⟩ := r; rfl
 | str z => obtain ⟨t, rfl⟩ := r; rfl
 | _ => exact absurd (show false = true from f) Bool.false_ne_true
theorem any_eqU {x : V} : ∀ {xs : List V} {us : List Value}, Vals xs us -> xs.all flatV = true -> us.any (eqU x) = xs.any fun y => eqV y x
 | _, _, .nil, _ => rfl
 | y :: xs, u :: us, .cons r t, f => by
  rw [List.all_cons, Bool.and_eq_true] at f
  rw [List.any_cons, List.any_cons, eqU_of r f.1, any_eqU t f.2]
theorem mem_eqAt {A : Around} {s : Shared} {x : V} {v : Value} (rx : RelV x v) (fx : flatV x = true) : ∀ {xs : List V} {us : List Value}, Vals xs us -> xs.all flatV = true -> ∀ u ∈ us, SeqAt.EqAt A s u v (eqU x u)
 | _, _, .nil, _ => fun u hu => by cases hu
 | y :: xs, u :: us, .cons r t, f => fun u' hu => by
  rw [List.all_cons, Bool.and_eq_true] at f
  rcases List.mem_cons.mp hu with rfl | hu
  ·rw [eqU_of r f.1]; exact eqAt_V r rx f.1 fx
  ·exact mem_eqAt rx fx t f.2 u' hu
def inV (x : V) (xs : List V) : Bool := xs.any fun y => eqV y x
def rIn (K : PySem.W.Frag) (neg : Bool) : R2 := fun x y H Q => ∃ p xs, y = .ref p /\ (SqL K H p xs \/ SqT K H p xs) /\ flatV x = true /\ xs.all flatV = true /\ Q (.bl (if neg then !inV x xs else inV x xs)) H
theorem op_in_seq : OpR X (compareOp .In) (rIn X.K false) := by
 intro pins s σ H x y v u Q I rx ry h
 obtain ⟨p, xs, rfl, hq, fx, fs, q⟩ := h
 cases ry
 rcases hq with hq | hq
 ·obtain ⟨its, r, pl, hz⟩ := I.list hq
  refine SeqAt.in_listAt (eqU x) pl.isList (fun w hw => mem_eqAt rx fx r fs w (by simpa using hw)) ⟨.bl _, H, I, rfl, ?_⟩
  rw [show its.toArray.any (eqU x) = its.any (eqU x) by simp, any_eqU r fs]
  exact q
 ·obtain ⟨its, r, pl, hz⟩ := I.tuple hq
  refine SeqAt.in_tupleAt (eqU x) pl (fun w hw => mem_eqAt rx fx r fs w (by simpa using hw)) ⟨.bl _, H, I, rfl, ?_⟩
  rw [show its.toArray.any (eqU x) = its.any (eqU x) by simp, any_eqU r fs]
  exact q
theorem op_notIn_seq : OpR X (compareOp .NotIn) (rIn X.K true) := by
 intro pins s σ H x y v u Q I rx ry h
 obtain ⟨p, xs, rfl, hq, fx, fs, q⟩ := h
 cases ry
 rcases hq with hq | hq
 ·obtain ⟨its, r, pl, hz⟩ := I.list hq
  refine SeqAt.notIn_listAt (eqU x) pl.isList (fun w hw => mem_eqAt rx fx r fs w (by simpa using hw)) ⟨.bl _, H, I, rfl, ?_⟩
  rw [show its.toArray.any (eqU x) = its.any (eqU x) by simp, any_eqU r fs]
  exact q
 ·obtain ⟨its, r, pl, hz⟩ := I.tuple hq
  refine SeqAt.notIn_tupleAt (eqU x) pl (fun w hw => mem_eqAt rx fx r fs w (by simpa using hw)) ⟨.bl _, H, I, rfl, ?_⟩
  rw [show its.toArray.any (eqU x) = its.any (eqU x) by simp, any_eqU r fs]
  exact q
theorem call_len_seq : CallR X (.builtin "len") (fun xs H Q => ∃ p ys, xs = [.ref p] /\ (SqL X.K H p ys \/ SqT X.K H p ys) /\ Q (.int ys.length) H) := by
 intro pins s σ H xs us Q I r h
 obtain ⟨p, ys, rfl, hq, q⟩ := h
 obtain ⟨u, rfl, rx⟩ := vals1 r
 cases rx
 have hn := line63
 rcases hq with hq | hq
 ·obtain ⟨its, r', pl, hz⟩ := I.list hq
  have hlen := r'.length
  exact Calls.call_len_list pl.isList (by simp only [List.size_toArray] <;> omega) ⟨.int ys.length, H, I.tok _, ⟨s.toks + 1, by rw [List.size_toArray, hlen]⟩, q⟩
 ·obtain ⟨its, r', pl, hz⟩ := I.tuple hq
  have hlen := r'.length
  exact len_tuple pl (by simp only [List.size_toArray] <;> omega) ⟨.int ys.length, H, I.tok _, ⟨s.toks + 1, by rw [List.size_toArray, hlen]⟩, q⟩
theorem call_len_str : CallR X (.builtin "len") (fun xs H Q => ∃ z, xs = [.str z] /\ z.length ≤ sizeLine /\ Q (.int z.length) H) := by
 intro pins s σ H xs us Q I r h
 obtain ⟨z, rfl, hz, q⟩ := h
 obtain ⟨u, rfl, t, rfl⟩ := vals1 r
 have hn := line63
 exact len_str (by omega) ⟨.int z.length, H, I.tok _, ⟨_, rfl⟩, q⟩
def tyV (K : PySem.W.Frag) (T : String) (x : V) (H : Hp) : Prop := match x with
 | .str _ => T = "str"
 | .int _ => T = "int"
 | .ref p => (T = "list" /\ ∃ xs, SqL K H p xs) \/ (T = "tuple" /\ ∃ o, K.lookup p = some o /\ o.cls = .type "tuple" /\ o.dict = none) \/
   (T = "dict" /\ ((∃ kvs, H p = some (.dK kvs)) \/ ∃ kvs, H p = some (.dT kvs))) \/ (T = "set" /\ ∃ S n, H p = some (.set S n))
 | _ => False
theorem tyV_is {pins : List (Addr × Obj)} {σ : St} {H : Hp} {s : Shared} {T : String} {x : V} {v : Value} (I : Inv X pins σ H s) (r : RelV x v) (ty : tyV X.K T x H) :
  s.TypeIs v T /\ ∀ a, v = .ref a -> ∃ ob, s.heap.get? a = some ob /\ ob.dict = none := by
 cases x with
 | str z =>
  obtain ⟨t, rfl⟩ := r
  cases (show T = "str" from ty)
  exact ⟨typeIs_str s z t, fun _ e => nomatch e⟩
 | int i =>
  obtain ⟨t, rfl⟩ := r
  cases (show T = "int" from ty)
  exact ⟨typeIs_int s i t, fun _ e => nomatch e⟩
 | ref p =>
  cases r
  rcases ty with ⟨rfl, xs, hq⟩ | ⟨rfl, o, hk, hc, hd⟩ | ⟨rfl, hk⟩ | ⟨rfl, S, n, hk⟩
  ·obtain ⟨its, _, pl, _⟩ := I.list hq
   refine ⟨pl.isList.typeIs, fun a e => ?_⟩
   cases e
   obtain ⟨o, n, e, c, hd, _⟩ := pl
   exact ⟨o, e, hd⟩
  ·refine ⟨⟨o, I.kIn p o hk, hc⟩, fun a e => ?_⟩
   cases e
   exact ⟨o, I.kIn _ o hk, hd⟩
  ·have z : ∃ o, s.heap.get? p = some o /\ o.ExactDict := by
    rcases hk with ⟨kvs, hk⟩ | ⟨kvs, hk⟩
    ·obtain ⟨_, _, _, _, o, _, _, e, ex, _⟩ := I.hok p _ hk
     exact ⟨o, e, ex⟩
    ·obtain ⟨_, _, _, _, o, _, _, e, ex, _⟩ := I.hok p _ hk
     exact ⟨o, e, ex⟩
   obtain ⟨o, e, ex⟩ := z
   refine ⟨⟨o, e, ex.1⟩, fun a e2 => ?_⟩
   cases e2
   exact ⟨o, e, ex.2.1⟩
  ·obtain ⟨o, _, _, _, e, ex, _⟩ := I.hok p _ hk
   refine ⟨⟨o, e, ex.1⟩, fun a e2 => ?_⟩
   cases e2
   exact ⟨o, e, ex.2.1⟩
 | _ => exact False.elim ty
def tBM (K : PySem.W.Frag) (T : String) (r : V -> List V -> Hp -> VK -> Prop) (to : TE) (t : TA) : TE := fun σ H Q => to σ H fun x H1 => tyV K T x H1 /\ t σ H1 fun xs H2 => r x xs H2 Q
variable {o e : Expr} {es : List Expr} {to : TE} {t : TA} {name : Str} {apos cpos : Pos} {T id : String} {r : V -> List V -> Hp -> VK -> Prop}
theorem pe_bm (pa : PlainAttrs T) (slot : Slot T name id) (hty : typeOf (.builtin id) = pure (.type "method_descriptor")) (hm : MtR X id r) (ho : PE X o to) (ha : PA X (e :: es) t)
  (hbase : attributeBase o name X.env (eval o X.env) = eval o X.env := by rfl)
  (hfew : ((backTo cpos (starEach (e :: es) X.env)).all (fun x => !x.1) && (backToKw cpos (keywordEach [] X.env)).all (fun x => x.1.isSome)
   && decide ((e :: es).length + ([] : List Keyword).length + (if ([] : List Keyword).isEmpty then 0 else 1) < 30)) = true := by rfl)
  (hline : (apos.endLine == cpos.line) = true := by rfl) (hs : starEach (e :: es) X.env = (false, eval e X.env) :: starEach es X.env := by rfl) (hplain : (backTo cpos (starEach es X.env)).any (·.1) = false := by rfl) :
  PE X (.Call (.Attribute o name apos) (e :: es) [] cpos) (tBM X.K T r to t) := by
 intro pins s σ H Q I h
 refine wpAny_Call_method_late hbase hfew hline rfl (thn (ho pins s σ H _ I h) fun v s1 ⟨x, H1, I1, r1, ty, q1⟩ => ?_)
 obtain ⟨h1, h2⟩ := tyV_is I1 r1 ty
 refine ⟨T, id, pa, slot, hty, h1, h2, ?_⟩
 have hA := ha cpos pins s1 σ H1 _ I1 q1
 rw [hs] at hA ⊢
 refine Calls.callWith_builtin (by show (false || (backTo cpos (starEach es X.env)).any (·.1)) = false; rw [hplain] <;> rfl) (Calls.evalArgs_plain ?_)
 exact thn hA fun us s2 ⟨vs, H2, I2, r2, q2⟩ => hm pins s2 σ H2 x vs v us Q I2 r1 r2 q2
/- xs.append(e), list.index on a module's tuple .. are MtR facts of 06m -/
end
end L2
namespace L2
open PySem PySem.Spec PyProof.Rows
def MtM (X : Cx) (id : String) (r : V -> List V -> Hp -> VK -> Prop) : Prop :=
 ∀ (pins : List (Addr × Obj)) (s : Shared) (σ : St) (H : Hp) (x : V) (xs : List V) (v : Value) (us : List Value) (Q : VK), Inv X pins σ H s -> RelV x v -> Vals xs us -> r x xs H Q ->
  wpAny (model X.prog X.w) X.A (call (.builtin id) (v :: us)) (EP X pins σ Q) X.xe s
theorem Vals.one : ∀ {x : V} {us : List Value}, Vals [x] us -> ∃ u, us = [u] /\ RelV x u
 | _, _, .cons r .nil => ⟨_, rfl, r⟩
section
variable {X : Cx} {pins : List (Addr × Obj)} {σ : St} {H : Hp} {s : Shared} {l b : Addr} {xs ys zs : List V}
theorem Inv.lset {its its' : List Value} {n : Nat} {f : Array Value -> Array Value} {t' : Nat} (I : Inv X pins σ H s) (hH : H l = some (.lst xs))
  (e : s.heap.get? l = some { cls := .type "list", data := .seq its.toArray n }) (hf : f its.toArray = its'.toArray) (hv : Vals ys its') (hz : ys.length ≤ sizeLine) :
  Inv X pins σ (upd H l (.lst ys)) { s with heap := s.heap.update l (Obj.mapSeq f), toks := t' } := by
 have q := PySem.IsL.update e f
 rw [hf] at q
 refine I.write (x := l) (e := l) (by rw [hH]; exact trivial) (.inl rfl) (fun b' u hb hu => (Heap.get?_update_other s.heap (Obj.mapSeq f) (Ne.symm hb)).trans hu) ⟨_, q⟩ ?_
 exact ⟨hz, its', _, hv, q⟩
theorem Inv.lnew {its : List Value} {t' : Nat} (I : Inv X pins σ H s) (hv : Vals ys its) (hz : ys.length ≤ sizeLine) :
  Inv X pins σ (upd H s.heap.objs.size (.lst ys)) { s with heap := s.heap.push { cls := .type "list", data := .seq its.toArray }, toks := t' } :=
 I.laid (fun _ _ q => Heap.get?_push_of_some _ q) (Nat.le_refl _) ⟨hz, its, 0, hv, Heap.get?_push_size _ rfl⟩
theorem Inv.fresh (I : Inv X pins σ H s) : H s.heap.objs.size = none := I.hok.fresh (Nat.le_refl _)
theorem Inv.lstM (I : Inv X pins σ H s) (hH : H l = some (.lst xs)) : xs.length ≤ sizeLine /\ ∃ (its : List Value) (n : Nat), Vals xs its /\ xs.length = its.length /\ s.heap.get? l = some { cls := .type "list", data := .seq its.toArray n } := by
 obtain ⟨z, its, n, r, e⟩ := I.hok l _ hH
 exact ⟨z, its, n, r, r.length, e⟩
theorem notLongL {n : Nat} (h : n ≤ sizeLine) : Builtin.List.listTooLong n = false := by
 unfold Builtin.List.listTooLong
 exact decide_eq_false (by omega)
end
section
variable {X : Cx}
def rAppend : V -> List V -> Hp -> VK -> Prop := fun x vs H Q => ∃ l xs y, x = .ref l /\ vs = [y] /\ H l = some (.lst xs) /\ xs.length < sizeLine /\ Q .non (upd H l (.lst (xs ++ [y])))
theorem mt_append : MtM X "list.append" rAppend := by
 intro pins s σ H x vs v us Q I rx rv h
 obtain ⟨l, xs, y, rfl, rfl, hH, hz, q⟩ := h
 cases rx
 obtain ⟨u, rfl, ru⟩ := rv.one
 obtain ⟨z, its, n, r, hl, e⟩ := I.lstM hH
 refine call_meets F.slot_list_append ⟨_, e, rfl⟩ F.entry_list_append (F.args_list_append_2 _ _) (PySem.list_append l its.toArray n u (by rw [List.size_toArray]; omega)) ⟨e, ?_⟩
 refine ⟨.non, _, I.lset (its' := its ++ [u]) hH e (by simp) (r.append (.cons ru .nil)) ?_, rfl, q⟩
 rw [List.length_append, List.length_singleton]
 omega
def rExtend : V -> List V -> Hp -> VK -> Prop := fun x vs H Q => ∃ l b xs zs, x = .ref l /\ vs = [.ref b] /\ H l = some (.lst xs) /\ H b = some (.lst zs) /\ xs.length + zs.length ≤ sizeLine /\ Q .non (upd H l (.lst (xs ++ zs)))
theorem mt_extend : MtM X "list.extend" rExtend := by
 intro pins s σ H x vs v us Q I rx rv h
 obtain ⟨l, b, xs, zs, rfl, rfl, hH, hB, hz, q⟩ := h
 cases rx
 obtain ⟨u, rfl, ru⟩ := rv.one
 cases ru
 obtain ⟨z, its, n, r, hl, e⟩ := I.lstM hH
 obtain ⟨z2, its2, n2, r2, hl2, e2⟩ := I.lstM hB
 have hsz : its.toArray.size + its2.toArray.size ≤ sizeLine := by rw [List.size_toArray, List.size_toArray]; omega
 have hlong : ¬ (!its.toArray.isEmpty && Builtin.List.listTooLong (its.toArray.size + its2.toArray.size)) = true := by
  rw [notLongL hsz, Bool.and_false]
  exact Bool.false_ne_true
 refine call_meets F.slot_list_extend ⟨_, e, rfl⟩ F.entry_list_extend (F.args_list_extend_2 _ _)
  (AutoSeq1.list_extend_list_list_0 l its.toArray n b its2.toArray n2 hlong (by rw [List.size_toArray]; omega) (by omega)) ⟨e, e2, ?_⟩
 refine ⟨.non, _, I.lset (its' := its ++ its2) hH e (by simp) (r.append r2) ?_, rfl, q⟩
 rw [List.length_append]
 omega
def rCat : R2 := fun x y H Q => ∃ l b xs zs, x = .ref l /\ y = .ref b /\ H l = some (.lst xs) /\ H b = some (.lst zs) /\ xs.length + zs.length ≤ sizeLine /\ ∀ p, H p = none -> Q (.ref p) (upd H p (.lst (xs ++ zs)))
theorem op_cat : OpR X (binaryOp .Add) rCat := by
 intro pins s σ H x y v u Q I rx ry h
 obtain ⟨l, b, xs, zs, rfl, rfl, hH, hB, hz, q⟩ := h
 cases rx
 cases ry
 obtain ⟨z, its, n, r, hl, e⟩ := I.lstM hH
 obtain ⟨z2, its2, n2, r2, hl2, e2⟩ := I.lstM hB
 refine PySem.P.add_list e e2 ?_ (by rw [List.size_toArray, List.size_toArray]; omega)
 have ea : its.toArray ++ its2.toArray = (its ++ its2).toArray := by simp
 rw [ea]
 exact ⟨.ref _, _, I.lnew (t' := s.toks) (r.append r2) (by rw [List.length_append]; omega), rfl, q _ I.fresh⟩
end
end L2
namespace L2
open PySem PySem.Spec PyProof.Rows
theorem Vals.bls : ∀ {bs : List Bool} {us : List Value}, Vals (bs.map V.bl) us -> us = bs.map Value.bool
 | [], us, h => by
  rw [List.map_nil] at h
  cases h
  rfl
 | b :: bs, us, h => by
  rw [List.map_cons] at h
  cases h with
  | cons r t =>
   cases r
   rw [Vals.bls t, List.map_cons]
theorem Vals.ref1 {a : Addr} {us : List Value} (r : Vals [V.ref a] us) : us = [Value.ref a] := by
 cases r with
 | cons r t =>
  cases t
  cases r
  rfl
section
variable {X : Cx}
theorem flat_at {ys : List V} (f : ys.all flatV = true) {j : Nat} {z : V} (h : ys[j]? = some z) : flatV z = true := List.all_eq_true.mp f z (List.mem_of_getElem? h)
end
theorem iter_any {prog : Program} {w : World} {A : Around} {E : Value -> Shared -> Prop} {s : Shared} {l : Addr} {items : Array Value} {Q : Value -> Shared -> Prop} (hl : s.heap.IsList l items)
  (h : ∀ s₂ : Shared, s₂ = { s with heap := s.heap.push { cls := .type "list_iterator", data := .fields #[.ref l, .int 0 0] } } ->
   (s₂.heap.IsListIter s.heap.objs.size l 0 /\ s₂.heap.IsList l items) -> l ≠ s.heap.objs.size -> Q (.ref s.heap.objs.size) s₂) : wpAny (model prog w) A (pyIter (.ref l)) Q E s := by
 have hlt : l < s.heap.objs.size := by obtain ⟨_, e, _⟩ := hl; exact Heap.lt_size e
 exact wpAny_pyIter_list hl (h _ rfl ⟨⟨_, Heap.get?_push_size _ rfl, rfl, rfl⟩, hl.push _⟩ (Nat.ne_of_lt hlt))
theorem truth_bools {prog : Program} {w : World} {A : Around} {bs : List Bool} {its : List Value} (e : its = bs.map Value.bool) :
  TruthOf prog w A (fun i v => its.toArray[i]? = some v) (fun i => bs.getD i false) := fun i v s Q E hv hq => by
 have hv' : its[i]? = some v := by simpa using hv
 rw [e, List.getElem?_map] at hv'
 obtain ⟨b, hb, rfl⟩ := Option.map_eq_some_iff.mp hv'
 have hg : bs.getD i false = b := by rw [List.getD_eq_getElem?_getD, hb] <;> rfl
 have hq' : Q (bs.getD i false) s := hq
 rw [hg] at hq'
 exact wpAny_truthy_bool hq'
theorem any_range : ∀ bs : List Bool, (List.range bs.length).any (fun i => bs.getD i false) = bs.any id
 | [] => rfl
 | b :: bs => by
  rw [List.length_cons, List.range_succ_eq_map, List.any_cons, List.any_map, List.any_cons, <- any_range bs]
  all_goals rfl
section
variable {X : Cx}
def rAny (K : PySem.W.Frag) : List V -> Hp -> VK -> Prop := fun vs H Q => ∃ (a : Addr) (bs : List Bool), vs = [V.ref a] /\ SqL K H a (bs.map V.bl) /\ Q (.bl (bs.any id)) H
theorem cr_any (hc : X.calm = true) : CallR X (.builtin "any") (rAny X.K) := by
 intro pins s σ H vs us Q I r h
 obtain ⟨a, bs, rfl, hs, q⟩ := h
 obtain ⟨its, rv, hl, _⟩ := I.list hs
 rw [Vals.ref1 r]
 have hb := rv.bls
 refine call_any_walk (iter_any hl.isList fun s₂ e2 st hne => ?_)
 subst e2
 refine ⟨_, _, _, _, _, _, _, rfl, Walks.list (A := X.A.in1) (I.ok.hd hc) _ a hne its.toArray, st, truth_bools hb, fun h' tk hk => ?_⟩
 refine ⟨.bl _, H, I.kept fun b o eo => hk b o (fun hmem => ?_) (Heap.get?_push_of_some _ eo), ?_, q⟩
 ·rcases List.mem_cons.mp hmem with e1 | hmem
  ·exact absurd (e1 ▸ Heap.lt_size eo) (Nat.lt_irrefl _)
  ·cases hmem
 ·show Value.bool _ = Value.bool _
  rw [<- any_range, hb, List.size_toArray, List.length_map]
end
mutual
inductive Dp (K : PySem.W.Frag) (H : Hp) : V -> PyData -> Prop
 | non : Dp K H .non .none
 | bl (b : Bool) : Dp K H (.bl b) (.bool b)
 | int (i : Int) : Dp K H (.int i) (.int i)
 | str (x : Str) : Dp K H (.str x) (.str x)
 | lst {a : Addr} {xs : List V} {ds : List PyData} : SqL K H a xs -> DpAll K H xs ds -> Dp K H (.ref a) (.list ds)
 | tup {a : Addr} {xs : List V} {ds : List PyData} : SqT K H a xs -> DpAll K H xs ds -> Dp K H (.ref a) (.tuple ds)
inductive DpAll (K : PySem.W.Frag) (H : Hp) : List V -> List PyData -> Prop
 | nil : DpAll K H [] []
 | cons {v : V} {vs : List V} {d : PyData} {ds : List PyData} : Dp K H v d -> DpAll K H vs ds -> DpAll K H (v :: vs) (d :: ds)
end
section
variable {X : Cx} {pins : List (Addr × Obj)} {σ : St} {H : Hp} {s : Shared}
mutual
theorem Dp.reads (I : Inv X pins σ H s) : ∀ (d : PyData) (v : V) (u : Value), Dp X.K H v d -> RelV v u -> ∃ as, Reads s.heap u d as
 | .none, _, _, h, r => by
  cases h
  cases r
  exact ⟨_, Reads.none⟩
 | .bool b, _, _, h, r => by
  cases h
  cases r
  exact ⟨_, Reads.bool b⟩
 | .int i, _, _, h, r => by
  cases h
  obtain ⟨t, rfl⟩ := r
  exact ⟨_, Reads.int i t⟩
 | .str x, _, _, h, r => by
  cases h
  obtain ⟨t, rfl⟩ := r
  exact ⟨_, Reads.str x t⟩
 | .list ds, _, _, h, r => by
  cases h with
  | lst hs ha =>
   cases r
   obtain ⟨its, rv, ⟨o, n, ho, hc, _, hd⟩, _⟩ := I.list hs
   obtain ⟨as, hr⟩ := Dp.readsAll I ds _ its ha rv
   exact ⟨_, Reads.list ho hc hd hr⟩
 | .tuple ds, _, _, h, r => by
  cases h with
  | tup hs ha =>
   cases r
   obtain ⟨its, rv, ⟨o, ho, hc, n, hd⟩, _⟩ := I.tuple hs
   obtain ⟨as, hr⟩ := Dp.readsAll I ds _ its ha rv
   exact ⟨_, Reads.tuple ho hc hd hr⟩
 | .dict _, _, _, h, _ => by cases h
theorem Dp.readsAll (I : Inv X pins σ H s) : ∀ (ds : List PyData) (vs : List V) (us : List Value), DpAll X.K H vs ds -> Vals vs us -> ∃ as, ReadsAll s.heap us ds as
 | [], _, _, h, r => by
  cases h
  cases r
  exact ⟨_, ReadsAll.nil⟩
 | d :: ds, _, _, h, r => by
  cases h with
  | cons h1 h2 =>
   cases r with
   | cons r1 r2 =>
    obtain ⟨as, q1⟩ := Dp.reads I d _ _ h1 r1
    obtain ⟨bs, q2⟩ := Dp.readsAll I ds _ _ h2 r2
    exact ⟨_, ReadsAll.cons q1 q2⟩
end
end
section
variable {X : Cx}
def rEqD (K : PySem.W.Frag) : R2 := fun x y H Q => ∃ d e, Dp K H x d /\ Dp K H y e /\ SeqAt.shaped d = true /\ SeqAt.shaped e = true /\ Q (.bl (PyData.eqv d e)) H
theorem op_eqD (hu : X.A.units + 64 < cLine) : OpR X (compareOp .Eq) (rEqD X.K) := by
 intro pins s σ H x y v u Q I rx ry h
 obtain ⟨d, e, hd, he, sd, se, q⟩ := h
 obtain ⟨as, r1⟩ := Dp.reads I d x v hd rx
 obtain ⟨bs, r2⟩ := Dp.reads I e y u he ry
 exact SeqAt.compareEq_shaped r1 r2 sd se hu ⟨.bl _, H, I, rfl, q⟩
end
end L2
namespace L2
open PySem PySem.Spec PyProof.Rows
abbrev CellAt (h : Heap) (c : Addr) (v : Option Value) : Prop := h.IsCell c v
def relS (scope sc : Scope) : Scope :=
 { scope with names := scope.names.map fun (n, k) => if (k == .free && sc.kind == .function && sc.names.lookup n == some .cell) then (n, .cell) else (n, k) }
def cloFrom (cells : List (Str × Addr)) : List (Str × NameKind) -> List (Str × Addr) -> List (Str × Addr)
 | [], acc => acc
 | (n, k) :: r, acc => if k == .free then cloFrom cells r ((n, (cells.lookup n).getD 0) :: acc) else cloFrom cells r acc
theorem closure_loop (env : Env) (f : Str × NameKind -> List (Str × Addr) -> Sem (ForInStep (List (Str × Addr))))
  (hf : ∀ n k c, f (n, k) c = if k == .free then (do let a <- cellOf env n; pure (.yield ((n, a) :: c))) else pure (.yield c)) :
  ∀ (names : List (Str × NameKind)) (acc : List (Str × Addr)), (∀ y ∈ names, y.2 = .free -> ∃ c, env.cells.lookup y.1 = some c) -> forIn names acc f = pure (cloFrom env.cells names acc)
 | [], acc, _ => by rw [List.forIn_nil]; rfl
 | (n, k) :: r, acc, h => by
  rw [List.forIn_cons, hf]
  have ih := fun acc => closure_loop env f hf r acc fun y hy => h y (List.mem_cons_of_mem _ hy)
  unfold cloFrom
  by_cases hk : (k == NameKind.free) = true
  ·rw [if_pos hk, if_pos hk]
   obtain ⟨c, hc⟩ := h (n, k) List.mem_cons_self (by simpa using hk)
   have e : cellOf env n = pure c := by unfold cellOf; rw [hc]
   rw [e]
   have e2 : (env.cells.lookup n).getD 0 = c := by rw [hc]; rfl
   rw [e2]
   exact ih _
  ·rw [if_neg hk, if_neg hk]
   exact ih _
theorem closure_ok {scope : Scope} {env : Env} (h : ∀ y ∈ scope.names, y.2 = .free -> ∃ c, env.cells.lookup y.1 = some c) : closureFor scope env = pure (cloFrom env.cells scope.names []) := by
 simp only [closureFor]
 rw [closure_loop env _ (fun n k c => rfl) scope.names [] h]
 rfl
theorem mem_lookup {α : Type} : ∀ {l : List (Str × α)} {n : Str} {c : α}, (n, c) ∈ l -> ∃ c', l.lookup n = some c'
 | (k, v) :: r, n, c, h => by
  rw [List.lookup_cons]
  cases hb : n == k with
  | true => exact ⟨_, rfl⟩
  | false =>
   rcases List.mem_cons.mp h with e | h
   ·cases e; simp at hb
   ·exact mem_lookup h
theorem cloFrom_mem {cells : List (Str × Addr)} : ∀ {names : List (Str × NameKind)} {acc : List (Str × Addr)} {n : Str} {c : Addr}, (n, c) ∈ cloFrom cells names acc -> (n, c) ∈ acc \/ ((n, .free) ∈ names /\ c = (cells.lookup n).getD 0)
 | [], _, _, _, h => .inl h
 | (m, k) :: r, acc, n, c, h => by
  unfold cloFrom at h
  split at h
  ·rename_i hk
   have hk : k = .free := by simpa using hk
   rcases cloFrom_mem h with h | ⟨h1, h2⟩
   ·rcases List.mem_cons.mp h with e | h
    ·cases e; exact .inr ⟨hk ▸ List.mem_cons_self, rfl⟩
    ·exact .inl h
   ·exact .inr ⟨List.mem_cons_of_mem _ h1, h2⟩
  ·rcases cloFrom_mem h with h | ⟨h1, h2⟩
   ·exact .inl h
   ·exact .inr ⟨List.mem_cons_of_mem _ h1, h2⟩
theorem cloFrom_acc {cells : List (Str × Addr)} : ∀ {names : List (Str × NameKind)} {acc : List (Str × Addr)} {p : Str × Addr}, p ∈ acc -> p ∈ cloFrom cells names acc
 | [], _, _, h => h
 | (m, k) :: r, acc, p, h => by
  unfold cloFrom
  split
  ·exact cloFrom_acc (List.mem_cons_of_mem _ h)
  ·exact cloFrom_acc h
theorem cloFrom_has {cells : List (Str × Addr)} : ∀ {names : List (Str × NameKind)} {acc : List (Str × Addr)} {n : Str}, (n, .free) ∈ names -> (n, (cells.lookup n).getD 0) ∈ cloFrom cells names acc
 | (m, k) :: r, acc, n, h => by
  unfold cloFrom
  rcases List.mem_cons.mp h with e | h
  ·cases e
   exact cloFrom_acc List.mem_cons_self
  ·split
   ·exact cloFrom_has h
   ·exact cloFrom_has h
theorem cells_mem : ∀ {names : List (Str × NameKind)} {h : Heap} {acc : List (Str × Addr)} {x : Str} {c : Addr}, (x, c) ∈ cellsFrom h.objs.size names acc ->
  (x, c) ∈ acc \/ ((x, .cell) ∈ names /\ h.objs.size ≤ c /\ CellAt (pushCells h names) c none)
 | [], _, _, _, _, h => .inl h
 | (n, k) :: r, h, acc, x, c, hm => by
  unfold cellsFrom at hm
  unfold pushCells
  split at hm
  ·rename_i hk
   rw [if_pos hk]
   have hk : k = .cell := by simpa using hk
   rw [<- Heap.size_push h { cls := .type "cell", data := .cell none }] at hm
   rcases cells_mem hm with hm | ⟨h1, h2, h3⟩
   ·rcases List.mem_cons.mp hm with e | hm
    ·cases e
     exact .inr ⟨hk ▸ List.mem_cons_self, Nat.le_refl _, _, pushCells_keeps r _ _ _ (Heap.get?_push_size _ rfl), rfl⟩
    ·exact .inl hm
   ·rw [Heap.size_push] at h2
    exact .inr ⟨List.mem_cons_of_mem _ h1, Nat.le_of_succ_le h2, h3⟩
  ·rename_i hk
   rw [if_neg hk]
   rcases cells_mem hm with hm | ⟨h1, h2, h3⟩
   ·exact .inl hm
   ·exact .inr ⟨List.mem_cons_of_mem _ h1, h2, h3⟩
theorem cells_acc : ∀ {names : List (Str × NameKind)} {n : Nat} {acc : List (Str × Addr)} {p : Str × Addr}, p ∈ acc -> p ∈ cellsFrom n names acc
 | [], _, _, _, h => h
 | (m, k) :: r, n, acc, p, h => by
  unfold cellsFrom
  split
  ·exact cells_acc (List.mem_cons_of_mem _ h)
  ·exact cells_acc h
theorem cells_has : ∀ {names : List (Str × NameKind)} {n : Nat} {acc : List (Str × Addr)} {x : Str}, (x, .cell) ∈ names -> ∃ c, (x, c) ∈ cellsFrom n names acc
 | (m, k) :: r, n, acc, x, h => by
  unfold cellsFrom
  rcases List.mem_cons.mp h with e | h
  ·cases e
   exact ⟨n, cells_acc List.mem_cons_self⟩
  ·split
   ·exact cells_has h
   ·exact cells_has h
theorem cells_inj : ∀ {names : List (Str × NameKind)} {h : Heap} {acc : List (Str × Addr)} {x y : Str} {c : Addr}, (∀ p ∈ acc, p.2 < h.objs.size) -> (∀ x y c, (x, c) ∈ acc -> (y, c) ∈ acc -> x = y) ->
  (x, c) ∈ cellsFrom h.objs.size names acc -> (y, c) ∈ cellsFrom h.objs.size names acc -> x = y
 | [], _, _, _, _, _, _, hi, h1, h2 => hi _ _ _ h1 h2
 | (n, k) :: r, h, acc, x, y, c, hl, hi, h1, h2 => by
  unfold cellsFrom at h1 h2
  split at h1
  ·rename_i hk
   rw [if_pos hk] at h2
   rw [<- Heap.size_push h { cls := .type "cell", data := .cell none }] at h1 h2
   refine cells_inj (h := h.push _) (fun p hp => ?_) (fun x y c a b => ?_) h1 h2
   ·rw [Heap.size_push]
    rcases List.mem_cons.mp hp with rfl | hp
    ·exact Nat.lt_succ_self _
    ·exact Nat.lt_succ_of_lt (hl p hp)
   ·rcases List.mem_cons.mp a with e | a <;> rcases List.mem_cons.mp b with e' | b
    ·cases e; cases e'; rfl
    ·cases e; exact absurd (hl _ b) (Nat.lt_irrefl _)
    ·cases e'; exact absurd (hl _ a) (Nat.lt_irrefl _)
    ·exact hi _ _ _ a b
  ·rename_i hk
   rw [if_neg hk] at h2
   exact cells_inj hl hi h1 h2
theorem newEnv_comp {M : Model} {A : Around} {E : Value -> Shared -> Prop} {s : Shared} {scope : Scope} {globals : Addr} {closure : List (Str × Addr)} {qual : Str} {func : Option Addr} {code : Value} {around : Env} {builtins : Addr} {Q : Env -> Shared -> Prop}
  (h : Q (newEnv scope s.heap.objs.size globals (cellsFrom (s.heap.objs.size + 1) scope.names closure) qual func code (some around) builtins)
   { s with heap := pushCells (s.heap.push { cls := .type "dict", data := .dict #[] }) scope.names }) :
  wpAny M A (newFunctionEnv scope globals closure [] qual func code (some around) builtins) Q E s := by
 simp only [newFunctionEnv, Option.isSome_some, if_true]
 refine wpAny_bind (wpAny_alloc ?_)
 refine wpAny_bind (wpAny_layCells _ (fun n k c => rfl) scope.names closure _ _ ?_)
 rw [show ({ s with heap := s.heap.push { cls := .type "dict", data := .dict #[] } } : Shared).heap.objs.size = s.heap.objs.size + 1 from Heap.size_push ..]
 rw [List.forIn_nil]
 exact wpAny_bind (wpAny_pure (wpAny_pure h))
theorem lookup_relS {sc : Scope} : ∀ {names : List (Str × NameKind)} {x : Str} {k : NameKind},
  (names.map fun (n, k) => if (k == NameKind.free && sc.kind == .function && sc.names.lookup n == some .cell) then (n, NameKind.cell) else (n, k)).lookup x = some k ->
  ∃ k', names.lookup x = some k' /\ (k = k' \/ (k' = .free /\ k = .cell))
 | [], _, _, h => by simp at h
 | (n, k₀) :: r, x, k, h => by
  have ih := @lookup_relS sc r x k
  have h' : List.lookup x ((if (k₀ == NameKind.free && sc.kind == .function && sc.names.lookup n == some .cell) = true then (n, NameKind.cell) else (n, k₀)) :: (r.map _)) = some k := h
  cases hx : x == n with
  | true =>
   simp only [List.lookup_cons, hx]
   by_cases hc : (k₀ == NameKind.free && sc.kind == .function && sc.names.lookup n == some .cell) = true
   ·rw [if_pos hc] at h'
    simp only [List.lookup_cons, hx] at h'
    cases h'
    simp only [Bool.and_eq_true, beq_iff_eq] at hc
    exact ⟨k₀, rfl, .inr ⟨hc.1.1, rfl⟩⟩
   ·rw [if_neg hc] at h'
    simp only [List.lookup_cons, hx] at h'
    cases h'
    exact ⟨_, rfl, .inl rfl⟩
  | false =>
   simp only [List.lookup_cons, hx]
   by_cases hc : (k₀ == NameKind.free && sc.kind == .function && sc.names.lookup n == some .cell) = true
   ·rw [if_pos hc] at h'
    simp only [List.lookup_cons, hx] at h'
    exact ih h'
   ·rw [if_neg hc] at h'
    simp only [List.lookup_cons, hx] at h'
    exact ih h'
structure BlkOk (N : List Str) (sc scope : Scope) (own : List (Str × Nat)) : Prop where
 kind : scope.kind = .function
 uniq : ∀ y ∈ scope.names, scope.names.lookup y.1 = some y.2
 ix : ∀ p ∈ own, N[p.2]? = some p.1
 free : ∀ y ∈ scope.names, y.2 = .free -> sc.names.lookup y.1 = some .cell \/ sc.names.lookup y.1 = some .free
 own : ∀ y ∈ scope.names, y.2 = .local \/ y.2 = .cell -> y.1 ∈ own.map (·.1) \/ y.1 ∉ N
def wipe (σ : St) : List Nat -> St
 | [] => σ
 | v :: vs => (wipe σ vs).set v none
theorem wipe_length (σ : St) : ∀ vs : List Nat, (wipe σ vs).length = σ.length
 | [] => rfl
 | v :: vs => by unfold wipe; rw [List.length_set, wipe_length σ vs]
theorem wipe_some {σ : St} {i : Nat} {x : V} : ∀ {vs : List Nat}, (wipe σ vs)[i]? = some (some x) -> σ[i]? = some (some x) /\ i ∉ vs
 | [], h => ⟨h, by simp⟩
 | v :: vs, h => by
  unfold wipe at h
  by_cases hi : v = i
  ·subst hi
   by_cases hv : v < (wipe σ vs).length
   ·rw [List.getElem?_set_self hv] at h; cases h
   ·rw [List.getElem?_eq_none (by simpa using hv)] at h; cases h
  ·rw [List.getElem?_set_ne hi] at h
   obtain ⟨h1, h2⟩ := wipe_some h
   exact ⟨h1, by simp only [List.mem_cons, not_or]; exact ⟨fun e => hi e.symm, h2⟩⟩
abbrev Cx.blk (X : Cx) (s : Shared) (H : Hp) (scope : Scope) (cenv : Env) (fp : List Addr) : Cx := { X with s_0 := s, H_0 := H, env := cenv, outer := X.stack, ex := fp, fn := fun x => scope.names.lookup x == some .cell, pn := [], xe := fun _ _ => False }
section
variable {X : Cx} {pins : List (Addr × Obj)} {σ : St} {H : Hp} {s : Shared}
theorem block_start {scope : Scope} {own : List (Str × Nat)} {fp : List Addr} (I : Inv X pins σ H s) (ok : BlkOk X.N X.env.scope scope own) (hN : X.N.Nodup) (hfp : ∀ b ∈ fp, FpOk X pins H b /\ b < s.heap.objs.size) :
  Inv (X.blk s H scope (compEnvC scope (cellsFrom (s.heap.objs.size + 1) scope.names (cloFrom X.env.cells scope.names [])) s.heap.objs.size X.env) fp) [] (wipe σ (own.map (·.2))) H { s with heap := pushCells (s.heap.push { cls := .type "dict", data := .dict #[] }) scope.names } := by
 have hfree : ∀ y ∈ scope.names, y.2 = .free -> ∃ c, X.env.cells.lookup y.1 = some c := fun y hy e => by
  rcases ok.free y hy e with k | k
  ·exact I.ok.has _ (.inl k)
  ·exact I.ok.has _ (.inr k)
 generalize hcenv : compEnvC scope (cellsFrom (s.heap.objs.size + 1) scope.names (cloFrom X.env.cells scope.names [])) s.heap.objs.size X.env = cenv
 have kp : ∀ b o, s.heap.get? b = some o -> (pushCells (s.heap.push { cls := .type "dict", data := .dict #[] }) scope.names).get? b = some o := fun b o e => pushCells_keeps _ _ _ _ (Heap.get?_push_of_some _ e)
 have hL : cenv.locals = s.heap.objs.size := by rw [<- hcenv]; rfl
 have hcl : cenv.cells = cellsFrom (s.heap.objs.size + 1) scope.names (cloFrom X.env.cells scope.names []) := by rw [<- hcenv]; rfl
 have hsc : cenv.scope = relS scope X.env.scope := by rw [<- hcenv]; rfl
 rw [<- Heap.size_push s.heap { cls := .type "dict", data := .dict #[] }] at hcl
 have cm : ∀ {y c}, (y, c) ∈ cloFrom X.env.cells scope.names [] -> X.env.cells.lookup y = some c /\ c < s.heap.objs.size := fun {y c} hm => by
  rcases cloFrom_mem hm with hm | ⟨h1, rfl⟩
  ·cases hm
  ·obtain ⟨c, hc⟩ := hfree _ h1 rfl
   rw [hc]
   obtain ⟨w, z⟩ := I.cell _ _ hc
   exact ⟨rfl, z.lt⟩
 have mem : ∀ {y c}, cenv.cells.lookup y = some c -> (X.env.cells.lookup y = some c /\ c < s.heap.objs.size) \/ (s.heap.objs.size + 1 ≤ c /\ CellAt (pushCells (s.heap.push { cls := .type "dict", data := .dict #[] }) scope.names) c none) := fun {y c} e => by
  rw [hcl] at e
  rcases cells_mem (PySem.mem_of_lookup e) with hm | ⟨_, h2, h3⟩
  ·exact .inl (cm hm)
  ·rw [Heap.size_push] at h2; exact .inr ⟨h2, h3⟩
 have look : ∀ {y}, scope.names.lookup y = some .free -> ∃ c, cenv.cells.lookup y = some c /\ X.env.cells.lookup y = some c := fun {y} hl => by
  have hy : (y, NameKind.free) ∈ scope.names := PySem.mem_of_lookup hl
  obtain ⟨c', e'⟩ := mem_lookup (cells_acc (names := scope.names) (n := (s.heap.push { cls := .type "dict", data := .dict #[] }).objs.size) (cloFrom_has (cells := X.env.cells) (acc := []) hy))
  rw [<- hcl] at e'
  refine ⟨c', e', ?_⟩
  rw [hcl] at e'
  rcases cells_mem (PySem.mem_of_lookup e') with hm | ⟨h1, _, _⟩
  ·exact (cm hm).1
  ·have := ok.uniq _ h1
   rw [hl] at this; cases this
 have okB : (X.blk s H scope cenv fp).Ok := by
  refine ⟨I.ok.mod, by show cenv.scope.kind = _; rw [hsc]; exact ok.kind, by show cenv.globals = _; rw [<- hcenv]; exact I.ok.glob, by show cenv.builtins = _; rw [<- hcenv]; exact I.ok.blt, by show s.heap.objs.size ≤ cenv.locals; rw [hL]; exact Nat.le_refl _,
   fun y z c e1 e2 => ?_, fun y hy => ?_, fun y c z e => ?_, I.ok.hd, I.ok.frames, .inl rfl, fun b hb => ⟨?_, fun y c e z => ?_⟩, I.bs, Nat.le_trans I.ok.bsz I.sz, fun b o e hb => ?_, fun b hb z => ?_, I.stack, I.stkFree⟩
  ·have e1 : cenv.cells.lookup y = some c := e1
   have e2 : cenv.cells.lookup z = some c := e2
   rw [hcl] at e1 e2
   refine cells_inj (fun p hp => ?_) (fun y z c a b => I.ok.inj y z c (cm a).1 (cm b).1) (PySem.mem_of_lookup e1) (PySem.mem_of_lookup e2)
   rw [Heap.size_push]
   exact Nat.lt_succ_of_lt (cm (y := p.1) (c := p.2) hp).2
  ·show ∃ c, cenv.cells.lookup y = some c
   have key : ∀ k, cenv.kindOf y = some k -> (k = .cell \/ k = .free) -> ∃ c, cenv.cells.lookup y = some c := fun k hk hk' => by
    unfold Env.kindOf at hk
    rw [hsc] at hk
    obtain ⟨k', e, r⟩ := lookup_relS hk
    have : k' = .cell \/ k' = .free := by
     rcases r with rfl | ⟨rfl, _⟩
     ·exact hk'
     ·exact .inr rfl
    rcases this with rfl | rfl
    ·obtain ⟨c, hm⟩ := cells_has (n := (s.heap.push { cls := .type "dict", data := .dict #[] }).objs.size) (acc := cloFrom X.env.cells scope.names []) (PySem.mem_of_lookup e)
     obtain ⟨c', e'⟩ := mem_lookup hm
     exact ⟨c', by rw [hcl]; exact e'⟩
    ·obtain ⟨c, h1, _⟩ := look e
     exact ⟨c, h1⟩
   rcases hy with hy | hy
   ·exact key _ hy (.inl rfl)
   ·exact key _ hy (.inr rfl)
  ·have z : (scope.names.lookup y == some NameKind.cell) = true := z
   have z : scope.names.lookup y = some .cell := by simpa using z
   have e : cenv.cells.lookup y = some c := e
   rw [hcl] at e
   rcases cells_mem (PySem.mem_of_lookup e) with hm | ⟨_, h2, _⟩
   ·rcases cloFrom_mem hm with hm | ⟨h1, _⟩
    ·cases hm
    ·have q := ok.uniq _ h1
     rw [z] at q; cases q
   ·rw [Heap.size_push] at h2
    exact Nat.le_of_succ_le h2
  ·show b ≠ cenv.locals
   rw [hL]; exact Nat.ne_of_lt (hfp b hb).2
  ·have e : cenv.cells.lookup y = some c := e
   rcases mem e with ⟨h1, _⟩ | ⟨h1, _⟩
   ·exact (hfp b hb).1.2.2.2.2.1 y c h1 z
   ·have h2 : s.heap.objs.size + 1 ≤ b := by rw [<- z]; exact h1
    exact absurd (Nat.lt_of_lt_of_le (hfp b hb).2 (Nat.le_of_succ_le h2)) (Nat.lt_irrefl _)
  ·rcases (hfp b hb).1.2.2.2.1 with z | z
   ·exact I.ok.noex b o e z
   ·exact absurd (Nat.lt_of_lt_of_le (Heap.lt_size e) (Nat.le_trans I.ok.bsz z)) (Nat.lt_irrefl _)
  ·rcases List.mem_cons.mp (I.stkSub b z) with z | z
   ·exact (hfp b hb).1.2.1 z
   ·exact (hfp b hb).1.2.2.1 z
 refine ⟨okB, rfl, I.bare, Un.kept kp, ⟨fun _ => none, ?_, fun i y av e1 e2 e3 => ?_⟩, fun y c e => ?_, ?_, fun y c e => ?_, fun p hp => ?_, I.hok.kept kp, by rw [wipe_length]; exact I.len⟩
 ·show Heap.Ns _ cenv.locals _
  rw [hL]
  exact Heap.Ns.keeps (Heap.Ns.new ..) fun b o e => pushCells_keeps _ _ _ _ e
 ·obtain ⟨e2, hne⟩ := wipe_some e2
  have hfr : scope.names.lookup y = some .free /\ (cenv.kindOf y = some .cell \/ cenv.kindOf y = some .free) := by
   have key : ∀ k, cenv.scope.names.lookup y = some k -> k = .local \/ k = .cell \/ k = .free -> scope.names.lookup y = some .free /\ (cenv.kindOf y = some .cell \/ cenv.kindOf y = some .free) := fun k hk hk' => by
    have hk0 := hk
    rw [hsc] at hk
    obtain ⟨k', e, r⟩ := lookup_relS hk
    have no : ¬ (k' = .local \/ k' = .cell) := fun hh => by
     rcases ok.own _ (PySem.mem_of_lookup e) hh with e' | e'
     ·obtain ⟨p, hp, hpy⟩ := List.mem_map.mp e'
      have e3 := ok.ix p hp
      have : p.1 = y := hpy
      rw [this] at e3
      exact hne (List.mem_map.mpr ⟨p, hp, nodup_ix hN e3 e1⟩)
     ·exact e' (List.mem_of_getElem? e1)
    rcases r with rfl | ⟨rfl, rfl⟩
    ·rcases hk' with rfl | rfl | rfl
     ·exact absurd (.inl rfl) no
     ·exact absurd (.inr rfl) no
     ·exact ⟨e, .inr hk0⟩
    ·exact ⟨e, .inl hk0⟩
   have e3 : Vis cenv.scope y := e3
   rcases e3 with e3 | e3 | e3
   ·exact key _ e3 (.inl rfl)
   ·exact key _ e3 (.inr (.inl rfl))
   ·exact key _ e3 (.inr (.inr rfl))
  obtain ⟨m, hn, hl⟩ := I.loc
  have hvis : Vis X.env.scope y := (ok.free _ (PySem.mem_of_lookup hfr.1) rfl).elim (fun k => .inr (.inl k)) (fun k => .inr (.inr k))
  obtain ⟨w, r, q⟩ := hl i y av e1 e2 hvis
  refine ⟨w, r, .inr ⟨hfr.2, ?_⟩⟩
  obtain ⟨c, h1, h2⟩ := look hfr.1
  rcases q with ⟨k, _⟩ | ⟨_, c', e', z⟩
  ·have k : X.env.scope.names.lookup y = some .local := k
   rcases ok.free _ (PySem.mem_of_lookup hfr.1) rfl with k' | k' <;> rw [show X.env.scope.names.lookup y = _ from k'] at k <;> cases k
  ·rw [h2] at e'; cases e'
   exact ⟨c, h1, z.keeps kp⟩
 ·have e : cenv.cells.lookup y = some c := e
  rcases mem e with ⟨h1, _⟩ | ⟨_, z⟩
  ·obtain ⟨w, z⟩ := I.cell y c h1
   exact ⟨w, z.keeps kp⟩
  ·exact ⟨_, z⟩
 ·show H cenv.locals = none
  rw [hL]; exact I.hok.fresh (Nat.le_refl _)
 ·have e : cenv.cells.lookup y = some c := e
  rcases mem e with ⟨h1, _⟩ | ⟨h1, _⟩
  ·exact I.freeC y c h1
  ·exact I.hok.fresh (Nat.le_of_succ_le h1)
 ·exact absurd (show p ∈ ([] : List (Addr × Obj)) ++ [] from hp) (by simp)
theorem app_ok {E : Value -> Shared -> Prop} {D : Addr} {xs : List V} {y : V} {v : Value} {Q : Value -> Shared -> Prop} (I : Inv X pins σ H s) (hD : H D = some (.lst xs)) (hz : xs.length < sizeLine) (r : RelV y v)
  (h : ∀ s', Inv X pins σ (upd H D (.lst (xs ++ [y]))) s' -> Q .none s') : wpAny (model X.prog X.w) X.A (call (.builtin "list.append") [.ref D, v]) Q E s := by
 obtain ⟨hz', its, n, ri, e⟩ := I.hok D _ hD
 have hl := ri.length
 refine append_at (hsz := by rw [List.size_toArray]; omega) e fun h' sb ho' => ?_
 refine h { s with heap := h' } (I.write (t' := s.toks) (by rw [hD]; trivial) (.inl rfl) (fun b u hb q => (sb.2 b hb).trans q) ⟨_, ho'⟩ ⟨by rw [List.length_append]; exact hz, its ++ [v], n + 1, ri.append (.cons r .nil), ?_⟩)
 rw [ho']
 simp
def PTs (X : Cx) (ifs : List Expr) (t : TT) : Prop :=
 ∀ (pins : List (Addr × Obj)) (s : Shared) (σ : St) (H : Hp) (Q : Bool -> Hp -> Prop), Inv X pins σ H s -> t σ H Q ->
  wpAny (model X.prog X.w) X.A (forIn ifs true fun c r => if r = true then do let ok <- isTrue c X.env (eval c X.env); pure (ForInStep.yield ok) else pure (ForInStep.yield r)) (TP X pins σ Q) X.xe s
def tYes : TT := fun _ H Q => Q true H
theorem pts_nil : PTs X [] tYes := fun _ _ _ H _ I h => wpAny_tests_nil ⟨H, I, h⟩
end
theorem thnF {α : Type} {t : Sem α} {Q Q' : α -> Shared -> Prop} {M : Model} {A : Around} {E : Value -> Shared -> Prop} {s : Shared} (h : wpAny M A t Q (fun _ _ => False) s) (hQ : ∀ a s, Q a s -> Q' a s) : wpAny M A t Q' E s := wpAny_mono h hQ fun _ _ z => False.elim z
theorem compLoop_any {prog : Program} {w : World} {A : Around} {R : Result -> Shared -> Prop} {s : Shared} {elt target iter : Expr} {ifs : List Expr} {scope : Scope} {pos : Pos} {it acc : Value} {env : Env} (I : Nat -> Shared -> Prop)
  (turn : ∀ n s, I n s -> wpAny (model prog w) A (pyNext it) (fun r s₁ => match r with
   | none => R (.ok .next) s₁
   | some v => wpAny (model prog w) A (letOwnedTupleGo target it v) (fun _ s₁' => wpAny (model prog w) A (assign target env v) (fun _ s₂ =>
     wpAny (model prog w) A (forIn ifs true fun c r => if r = true then do let ok <- isTrue c env (eval c env); pure (ForInStep.yield ok) else pure (ForInStep.yield r)) (fun ok s₃ =>
      if ok = true then wpAny (model prog w) A (eval elt env) (fun x s₄ =>
       wpAny (model prog w) A (call (.builtin "list.append") [acc, x]) (fun _ s₅ => ∃ m, m < n /\ I m s₅) (notedBy (model prog w) A env fun e s' => R (.error e) s') s₄) (notedBy (model prog w) A env fun e s' => R (.error e) s') s₃
      else ∃ m, m < n /\ I m s₃) (notedBy (model prog w) A env fun e s' => R (.error e) s') s₂) (notedBy (model prog w) A env fun e s' => R (.error e) s') s₁') (notedBy (model prog w) A env fun e s' => R (.error e) s') s₁) (notedBy (model prog w) A env fun e s' => R (.error e) s') s)
  (n : Nat) (h : I n s) :
  codeAny (model prog w) A (.compLoop (.ListComp elt [⟨target, iter, ifs, 0⟩] scope pos) 0 it acc env) R s := by
 refine codeAny_loop rfl I (fun n s hI => ?_) n h
 show wpAny _ A ((compTurn (.ListComp elt [⟨target, iter, ifs, 0⟩] scope pos) 0 it acc env).onRaise (fun x => do noteFrame x env; theTreesLotGoes x)) _ _ s
 refine wpAny_noted ?_
 rw [compTurn_list]
 refine wpAny_bind (wpAny_standAt (wpAny_bind (wpAny_mono (turn n s hI) (fun r s₁ h₁ => ?_) fun _ _ h' => h')))
 cases r with
 | none => exact wpAny_pure h₁
 | some v =>
  refine wpAny_bind (wpAny_mono h₁ (fun _ s₁' h₁' => ?_) fun _ _ h' => h')
  refine wpAny_bind (wpAny_mono h₁' (fun _ s₂ h₂ => wpAny_bind (wpAny_mono h₂ (fun ok s₃ h₃ => ?_) fun _ _ h' => h')) fun _ _ h' => h')
  cases ok with
  | false => exact wpAny_pure ⟨rfl, h₃⟩
  | true =>
   exact wpAny_bind (wpAny_bind (wpAny_mono h₃ (fun x s₄ h₄ => wpAny_bind (wpAny_mono h₄ (fun _ s₅ h₅ => wpAny_pure (wpAny_pure ⟨rfl, h₅⟩)) fun _ _ h' => h')) fun _ _ h' => h'))
section
variable {X : Cx}
def tLc (wi : TI) (g : TG) (tt : TT) (te : TE) (vs : List Nat) : TE := fun σ H Q => wi σ H fun J H1 => ∀ D, H1 D = none -> ∃ W : Nat -> Nat -> Hp -> Prop, (∃ m, W 0 m (upd H1 D (.lst []))) /\ ∀ i m H, W i m H ->
 (J.stop i H /\ Q (.ref D) H) \/ (J.go i H /\ ∃ Nx : Hp -> Prop, (∀ H', Nx H' -> ∃ m', m' < m /\ W (i + 1) m' H') /\ ∀ x H', J.yld i H x H' -> g x (wipe σ vs) H' fun σ2 H2 => wipe σ2 vs = wipe σ vs /\ tt σ2 H2 fun b H3 =>
  if b = true then te σ2 H3 fun y H4 => ∃ acc, H4 D = some (.lst acc) /\ acc.length < sizeLine /\ Nx (upd H4 D (.lst (acc ++ [y]))) else Nx H3)
theorem lc_core {pins : List (Addr × Obj)} {s : Shared} {σ : St} {H : Hp} {Q : VK} {elt tg iter : Expr} {ifs : List Expr} {scope : Scope} {own : List (Str × Nat)} {pos pos' : Pos} {wi : TI} {g : TG} {tt : TT} {te : TE} {use : Option (Value -> Sem Unit)} {Qf : Value -> Shared -> Prop}
  (hc : X.calm = true) (hN : X.N.Nodup) (I : Inv X pins σ H s) (hi : PI X tg iter wi) (ok : BlkOk X.N X.env.scope scope own)
  (hg : ∀ (s : Shared) (H : Hp) (C : Addr) (cl : List (Str × Addr)) (fp : List Addr), PG (X.blk s H scope (compEnvC scope cl C X.env) fp) tg g) (ht : ∀ (s : Shared) (H : Hp) (C : Addr) (cl : List (Str × Addr)) (fp : List Addr), PTs (X.blk s H scope (compEnvC scope cl C X.env) fp) ifs tt)
  (he : ∀ (s : Shared) (H : Hp) (C : Addr) (cl : List (Str × Addr)) (fp : List Addr), PE (X.blk s H scope (compEnvC scope cl C X.env) fp) elt te) (hs : ∀ x, foldedSetIterable iter X.env x = pure x)
  (h : tLc wi g tt te (own.map (·.2)) σ H Q)
  (hRR : ∀ D C s' m H', Inv X pins σ H' s' -> Q (.ref D) H' -> s'.heap.Ns C m -> FpOk X pins H' C -> compPost (model X.prog X.w) X.A X.xe use Qf (.ref D) C (.ok .next) s') :
  wpAny (model X.prog X.w) X.A (comprehension (.ListComp elt [⟨tg, iter, ifs, 0⟩] scope pos) scope X.env pos' (newList []) false (eval iter X.env) use) Qf X.xe s := by
 have hfree : ∀ y ∈ scope.names, y.2 = .free -> ∃ c, X.env.cells.lookup y.1 = some c := fun y hy e => by
  rcases ok.free y hy e with k | k
  ·exact I.ok.has _ (.inl k)
  ·exact I.ok.has _ (.inr k)
 refine wpAny_comprehension_free (use := use) rfl hs (closure_ok hfree) ok.kind (fun y hy e => by rw [ok.uniq y hy, e])
  (thn (hi pins s σ H _ I h) fun xv s1 hx => thn hx fun itv s2 h2 => ?_)
 obtain ⟨it, fp, tn, J, H2, e, I2, T, st2, f2, q⟩ := h2
 subst e
 refine wpAny_newObj_type (newEnv_comp ?_) (by show 0 ≤ sizeLine; decide)
 generalize hD : s2.heap.objs.size = D
 have hDn : H2 D = none := I2.hok.fresh (Nat.le_of_eq hD)
 obtain ⟨W, ⟨m0, w0⟩, turn⟩ := q D hDn
 generalize hs3 : ({ s2 with heap := s2.heap.push { cls := .type "list", data := .seq ([] : List Value).toArray } } : Shared) = s3
 have I3 : Inv X pins σ (upd H2 D (.lst [])) s3 := by
  rw [<- hs3]
  refine I2.laid (t' := s2.toks) (fun b o e => Heap.get?_push_of_some _ e) (Nat.le_of_eq hD) ⟨Nat.zero_le _, [], 0, .nil, ?_⟩
  rw [<- hD]
  exact Heap.get?_push_size _ rfl
 have h3 : s3.heap = s2.heap.push { cls := .type "list", data := .seq ([] : List Value).toArray } := by rw [<- hs3]
 have sz : ∀ b ∈ fp, b < s2.heap.objs.size := fun b hb => by
  obtain ⟨o, e, _⟩ := T.obj _ _ st2 b hb
  exact Heap.lt_size e
 have f3 : ∀ b ∈ fp, FpOk X pins (upd H2 D (.lst [])) b /\ b < s3.heap.objs.size := fun b hb => by
  have hlt := sz b hb
  refine ⟨⟨?_, (f2 b hb).2⟩, by rw [h3, Heap.size_push]; exact Nat.lt_succ_of_lt hlt⟩
  rw [upd_ne (by rw [<- hD]; exact Nat.ne_of_lt hlt)]
  exact (f2 b hb).1
 have st3 : tn 0 s3.heap := T.keep _ _ _ st2 fun b _ o e => by rw [h3]; exact Heap.get?_push_of_some _ e
 have I4 := block_start I3 ok hN f3
 have pg := hg s3 (upd H2 D (.lst [])) s3.heap.objs.size (cellsFrom (s3.heap.objs.size + 1) scope.names (cloFrom X.env.cells scope.names [])) fp
 have pt := ht s3 (upd H2 D (.lst [])) s3.heap.objs.size (cellsFrom (s3.heap.objs.size + 1) scope.names (cloFrom X.env.cells scope.names [])) fp
 have pe := he s3 (upd H2 D (.lst [])) s3.heap.objs.size (cellsFrom (s3.heap.objs.size + 1) scope.names (cloFrom X.env.cells scope.names [])) fp
 show codeAny _ _ (.compStart (.ListComp elt [⟨tg, iter, ifs, 0⟩] scope pos) 0 (.ref it) (.ref D) (compEnvC scope (cellsFrom (s3.heap.objs.size + 1) scope.names (cloFrom X.env.cells scope.names [])) s3.heap.objs.size X.env)) (compPost (model X.prog X.w) X.A X.xe use Qf (.ref D) s3.heap.objs.size) { s3 with heap := pushCells (s3.heap.push { cls := .type "dict", data := .dict #[] }) scope.names }
 have nfp : ∀ b ∈ fp, (upd H2 D (.lst [])) b = none := fun b hb => (f3 b hb).1.1
 generalize hce : compEnvC scope (cellsFrom (s3.heap.objs.size + 1) scope.names (cloFrom X.env.cells scope.names [])) s3.heap.objs.size X.env = ce at I4 pg pt pe ⊢
 have cL : ce.locals = s3.heap.objs.size := by subst hce; rfl
 generalize hH3 : upd H2 D (.lst []) = H3 at I3 I4 pg pt pe w0 nfp f3
 generalize hs4 : ({ s3 with heap := pushCells (s3.heap.push { cls := .type "dict", data := .dict #[] }) scope.names } : Shared) = s4 at I4 ⊢
 have st4 : tn 0 s4.heap := T.keep _ _ _ st3 fun b _ o e => by rw [<- hs4]; exact pushCells_keeps _ _ _ _ (Heap.get?_push_of_some _ e)
 have stat : ∀ {σ' : St} {H' : Hp} {s' : Shared}, Inv (X.blk s3 H3 scope ce fp) [] σ' H' s' -> (∀ b ∈ fp, H' b = none) -> ∀ b ∈ fp, FpOk (X.blk s3 H3 scope ce fp) [] H' b := fun {σ' H' s'} I' hn b hb =>
  ⟨hn b hb, (I'.ok.exf b hb).1, I'.ok.exfs b hb, .inl hb, fun x c e => (I'.ok.exf b hb).2 x c e, fun p hp => absurd (show p ∈ ([] : List (Addr × Obj)) ++ [] from hp) (by simp)⟩
 have loop : codeAny (model X.prog X.w) X.A (.compLoop (.ListComp elt [⟨tg, iter, ifs, 0⟩] scope pos) 0 (.ref it) (.ref D) ce) (compPost (model X.prog X.w) X.A X.xe use Qf (.ref D) s3.heap.objs.size) s4 := by
  refine compLoop_any (fun n s' => ∃ i H', Inv (X.blk s3 H3 scope ce fp) [] (wipe σ (own.map (·.2))) H' s' /\ tn i s'.heap /\ (∀ b ∈ fp, H' b = none) /\ W i n H') ?_ m0 ⟨0, H3, I4, st4, nfp, w0⟩
  rintro n s5 ⟨i, H5, I5, st5, n5, w5⟩
  rcases turn i n H5 w5 with ⟨stop, qq⟩ | ⟨go, Nx, hNx, step⟩
  ·have td := T.done (X.blk s3 H3 scope ce fp) rfl rfl rfl hc i [] s5 _ H5 (fun _ _ => False) I5 (stat I5 n5) st5 stop
   refine thnF td fun r s6 ⟨hr, I6⟩ => ?_
   subst hr
   have I7 : Inv X pins σ H5 s6 := I3.call' (ch := fp) I6.os I6.base I6.hok I6.bare fun b hb => ⟨(f3 b hb).1.2.2.2.1, (f3 b hb).1.2.1, (f3 b hb).1.2.2.2.2.1, (f3 b hb).1.2.2.2.2.2⟩
   have nC : H5 s3.heap.objs.size = none := by
    have z : H5 ce.locals = none := I6.free
    rw [cL] at z
    exact z
   obtain ⟨m, hn, _⟩ := I6.loc
   have hn : s6.heap.Ns ce.locals m := hn
   rw [cL] at hn
   exact hRR D s3.heap.objs.size s6 m H5 I7 qq hn (I3.fpOk (Nat.le_refl _) nC)
  ·have ti := T.item (X.blk s3 H3 scope ce fp) rfl rfl rfl hc i [] s5 _ H5 (fun _ _ => False) I5 (stat I5 n5) st5 go
   refine thnF ti fun r s6 ⟨u, hr, h6⟩ => ?_
   subst hr
   refine thnF h6 fun _ s7 ⟨x, H7, I7, r7, y7, st7, n7⟩ => ?_
   have I7' := I7.pinned (stat I7 n7) (T.obj _ _ st7)
   refine thnF (pg _ s7 _ H7 x u _ I7' r7 (step x H7 y7)) fun _ s8 ⟨σ8, H8, I8, hw8, q8⟩ => ?_
   refine thnF (pt _ s8 σ8 H8 _ I8 q8) fun b s9 ⟨H9, I9, q9⟩ => ?_
   have fin : ∀ {s' : Shared} {H' : Hp}, Inv (X.blk s3 H3 scope ce fp) ([] ++ pinsAt fp s7.heap) σ8 H' s' -> Nx H' -> ∃ m, m < n /\ ∃ i H', Inv (X.blk s3 H3 scope ce fp) [] (wipe σ (own.map (·.2))) H' s' /\ tn i s'.heap /\ (∀ b ∈ fp, H' b = none) /\ W i m H' := fun {s' H'} I' nx => by
    obtain ⟨m', hm, w'⟩ := hNx H' nx
    have pin' : ∀ b ∈ fp, ∀ o, s7.heap.get? b = some o -> s'.heap.get? b = some o /\ H' b = none := fun b hb o e =>
     let z := I'.pin (b, o) (List.mem_append_right _ (List.mem_append_right _ (mem_pinsAt hb e)))
     ⟨z.1, z.2.1⟩
    have hl : (wipe σ (own.map (·.2))).length = σ8.length := by rw [<- hw8, wipe_length]
    refine ⟨m', hm, i + 1, H', (I'.unpinned (pins := [])).weak hl (fun j v e => ?_), T.keep _ _ _ st7 fun b hb o e => (pin' b hb o e).1, fun b hb => ?_, w'⟩
    ·rw [<- hw8] at e
     exact (wipe_some e).1
    ·obtain ⟨o, e, _⟩ := T.obj _ _ st7 b hb
     exact (pin' b hb o e).2
   cases b with
   | false =>
    simp only [Bool.false_eq_true, if_false] at q9 ⊢
    exact fin I9 q9
   | true =>
    simp only [if_true] at q9 ⊢
    refine thnF (pe _ s9 σ8 H9 _ I9 q9) fun z s10 ⟨yv, H10, I10, r10, acc, hD10, hz10, nx⟩ => ?_
    exact app_ok (X := X.blk s3 H3 scope ce fp) I10 hD10 hz10 r10 fun s11 I11 => fin I11 nx
 exact codeAny_compStart_list loop (T.self X.A 0 _ _ _ st4 loop)
theorem pe_lc {elt tg iter : Expr} {ifs : List Expr} {scope : Scope} {own : List (Str × Nat)} {pos : Pos} {wi : TI} {g : TG} {tt : TT} {te : TE} (hc : X.calm = true) (hN : X.N.Nodup) (hi : PI X tg iter wi) (ok : BlkOk X.N X.env.scope scope own)
  (hg : ∀ (s : Shared) (H : Hp) (C : Addr) (cl : List (Str × Addr)) (fp : List Addr), PG (X.blk s H scope (compEnvC scope cl C X.env) fp) tg g) (ht : ∀ (s : Shared) (H : Hp) (C : Addr) (cl : List (Str × Addr)) (fp : List Addr), PTs (X.blk s H scope (compEnvC scope cl C X.env) fp) ifs tt)
  (he : ∀ (s : Shared) (H : Hp) (C : Addr) (cl : List (Str × Addr)) (fp : List Addr), PE (X.blk s H scope (compEnvC scope cl C X.env) fp) elt te) (hs : ∀ x, foldedSetIterable iter X.env x = pure x := by intro _; rfl) :
  PE X (.ListComp elt [⟨tg, iter, ifs, 0⟩] scope pos) (tLc wi g tt te (own.map (·.2))) := by
 intro pins s σ H Q I h
 rw [eval_ListComp]
 refine lc_core hc hN I hi ok hg ht he hs h fun D C s' m H' I' q hn f => ⟨m, hn, fun h'' sb => ?_⟩
 obtain ⟨f0, f1, f2, f3, f4, f5⟩ := f
 exact ⟨.ref D, H', I'.turned (t' := s'.toks) (fun b o hb e => (sb.2 b hb).trans e) f0 f1 f3 f4 f5, rfl, q⟩
theorem ps_setLc {i : Nat} {y : Str} {py : Pos} {elt tg iter : Expr} {ifs : List Expr} {scope : Scope} {own : List (Str × Nat)} {pos spos : Pos} {wi : TI} {g : TG} {tt : TT} {te : TE} (hc : X.calm = true) (hN : X.N.Nodup) (hy : X.N[i]? = some y) (hyl : X.env.scope.names.lookup y = some .local)
  (hsw : swapsWith (.ListComp elt [⟨tg, iter, ifs, 0⟩] scope pos) (some (.Name y py)) spos.line X.env = pure true) (hi : PI X tg iter wi) (ok : BlkOk X.N X.env.scope scope own)
  (hg : ∀ (s : Shared) (H : Hp) (C : Addr) (cl : List (Str × Addr)) (fp : List Addr), PG (X.blk s H scope (compEnvC scope cl C X.env) fp) tg g) (ht : ∀ (s : Shared) (H : Hp) (C : Addr) (cl : List (Str × Addr)) (fp : List Addr), PTs (X.blk s H scope (compEnvC scope cl C X.env) fp) ifs tt)
  (he : ∀ (s : Shared) (H : Hp) (C : Addr) (cl : List (Str × Addr)) (fp : List Addr), PE (X.blk s H scope (compEnvC scope cl C X.env) fp) elt te) (hs : ∀ x, foldedSetIterable iter X.env x = pure x := by intro _; rfl) :
  PS X (.Assign [.Name y py] (.ListComp elt [⟨tg, iter, ifs, 0⟩] scope pos) spos) (tAsg (tLc wi g tt te (own.map (·.2))) (gName i)) := by
 intro pins s σ H D I h
 rw [exec_Assign_Name_used _ _ _ _ hsw]
 refine wpAny_bind (wpAny_standAt (wpAny_bind ?_))
 show wpAny _ X.A (do let _ <- comprehension (.ListComp elt [⟨tg, iter, ifs, 0⟩] scope pos) scope X.env (firstIterPos [⟨tg, iter, ifs, 0⟩] pos) (newList []) false (eval iter X.env) (some (assign (.Name y py) X.env))) _ _ s
 have h : tLc wi g tt te (own.map (·.2)) σ H (fun x H1 => gName i x σ H1 D.nx) := h
 refine wpAny_bind (thn (lc_core (Qf := fun _ s' => SP X pins D .next s') hc hN I hi ok hg ht he hs h fun L C s' m H' I' q hn f => ?_) fun _ s' hq => wpAny_pure (wpAny_pure hq))
 show wpAny _ _ (assign (.Name y py) X.env (.ref L)) _ _ _
 refine wpAny_assign_Name (store_ok2 (v := V.ref L) I' hN hy (.inl hyl) rfl (fun s2 I2 ⟨a, sb, ha⟩ => ?_) (.inr hyl))
 obtain ⟨f0, f1, f2, f3, f4, f5⟩ := f
 have haC : C ≠ a := by
  rcases ha with z | z
  ·rw [z]; exact f1
  ·exact fun e => f4 y a z e.symm
 refine ⟨m, hn.sameBut sb haC, fun h3 sb3 => ?_⟩
 exact ⟨_, H', I2.turned (t' := s2.toks) (fun b o hb e => (sb3.2 b hb).trans e) f0 f1 f3 f4 f5, q⟩
end
def blkC (N : List Str) (sc scope : Scope) (own : List (Str × Nat)) : Bool :=
 (match scope.kind with | .function => true | _ => false) && (scope.names.all fun y => decide (scope.names.lookup y.1 = some y.2)) && (own.all fun p => decide (N[p.2]? = some p.1)) &&
  (scope.names.all fun y => match y.2 with
   | .free => (match sc.names.lookup y.1 with | some .cell => true | some .free => true | _ => false)
   | .local => decide (y.1 ∈ own.map (·.1)) || decide (y.1 ∉ N)
   | .cell => decide (y.1 ∈ own.map (·.1)) || decide (y.1 ∉ N)
   | _ => true)
theorem blkOk_by {N : List Str} {sc scope : Scope} {own : List (Str × Nat)} (h : blkC N sc scope own = true) : BlkOk N sc scope own := by
 unfold blkC at h
 simp only [Bool.and_eq_true, List.all_eq_true, decide_eq_true_eq] at h
 obtain ⟨⟨⟨h1, h2⟩, h3⟩, h4⟩ := h
 refine ⟨?_, h2, h3, fun y hy e => ?_, fun y hy e => ?_⟩
 ·split at h1
  ·assumption
  ·cases h1
 ·have q := h4 y hy
  simp only [e] at q
  split at q <;> first | exact .inl (by assumption) | exact .inr (by assumption) | cases q
 ·have q := h4 y hy
  rcases e with e | e <;> (simp only [e, Bool.or_eq_true, decide_eq_true_eq] at q; exact q)
end L2
namespace L2
open PySem PySem.Spec PyProof.Rows
end L2
namespace L2
open PySem PySem.Spec PyProof.Rows
section
variable {κ : Type} [DecidableEq κ]
def valV (kvs : List (κ × V)) (k : κ) : Option V := (kvs.find? fun kv => decide (kv.1 = k)).map (·.2)
def putK (kvs : List (κ × V)) (k : κ) (v : V) : List (κ × V) :=
 if (kvs.any fun kv => decide (kv.1 = k)) = true then kvs.map (fun kv => if kv.1 = k then (kv.1, v) else kv) else kvs ++ [(k, v)]
theorem valV_pos {p : κ × V} {r : List (κ × V)} {k : κ} (e : p.1 = k) : valV (p :: r) k = some p.2 := by simp [valV, List.find?_cons, e]
theorem valV_neg {p : κ × V} {r : List (κ × V)} {k : κ} (e : ¬ p.1 = k) : valV (p :: r) k = valV r k := by simp [valV, List.find?_cons, e]
theorem valV_any (k : κ) : ∀ kvs : List (κ × V), (kvs.any fun kv => decide (kv.1 = k)) = (valV kvs k).isSome
 | [] => rfl
 | p :: r => by
  rw [List.any_cons]
  by_cases e : p.1 = k
  ·simp only [valV_pos e, decide_eq_true e, Bool.true_or, Option.isSome_some]
  ·rw [valV_neg e, decide_eq_false e, Bool.false_or]; exact valV_any k r
theorem valV_map (k j : κ) (y : V) : ∀ kvs : List (κ × V), valV (kvs.map fun kv => if kv.1 = k then (kv.1, y) else kv) j = (valV kvs j).map fun x => if j = k then y else x
 | [] => rfl
 | p :: r => by
  have ih := valV_map k j y r
  rw [List.map_cons]
  by_cases h : p.1 = k
  ·rw [if_pos h]
   by_cases e : p.1 = j
   ·rw [valV_pos (p := (p.1, y)) e, valV_pos e, Option.map_some, if_pos (e.symm.trans h)]
   ·rw [valV_neg (p := (p.1, y)) e, valV_neg e, ih]
  ·rw [if_neg h]
   by_cases e : p.1 = j
   ·rw [valV_pos (p := p) e, valV_pos e, Option.map_some, if_neg (fun z => h (e.trans z))]
   ·rw [valV_neg (p := p) e, valV_neg e, ih]
theorem valV_snoc (k j : κ) (y : V) : ∀ kvs : List (κ × V), valV kvs k = none -> valV (kvs ++ [(k, y)]) j = if j = k then some y else valV kvs j
 | [], _ => by
  by_cases e : k = j
  ·rw [if_pos e.symm]; exact valV_pos (p := (k, y)) e
  ·rw [if_neg (fun z => e z.symm)]; exact valV_neg (p := (k, y)) e
 | p :: r, hn => by
  rw [List.cons_append]
  have hk : ¬ p.1 = k := fun z => by rw [valV_pos z] at hn; cases hn
  rw [valV_neg hk] at hn
  have ih := valV_snoc k j y r hn
  by_cases e : p.1 = j
  ·rw [valV_pos e, valV_pos e, if_neg (fun z => hk (e.trans z))]
  ·rw [valV_neg e, valV_neg e, ih]
theorem valV_put (kvs : List (κ × V)) (k j : κ) (y : V) : valV (putK kvs k y) j = if j = k then some y else valV kvs j := by
 unfold putK
 by_cases a : (kvs.any fun kv => decide (kv.1 = k)) = true
 ·rw [if_pos a, valV_map]
  rw [valV_any] at a
  by_cases e : j = k
  ·obtain ⟨x, hx⟩ := Option.isSome_iff_exists.mp a
   rw [if_pos e, e, hx, Option.map_some, if_pos rfl]
  ·rw [if_neg e]
   cases valV kvs j with
   | none => rfl
   | some x => rw [Option.map_some, if_neg e]
 ·rw [if_neg a]
  refine valV_snoc k j y kvs ?_
  rw [valV_any] at a
  cases q : valV kvs k with
  | none => rfl
  | some x => rw [q] at a; exact (a rfl).elim
theorem length_putK (kvs : List (κ × V)) (k : κ) (v : V) : (putK kvs k v).length ≤ kvs.length + 1 := by
 unfold putK
 split
 ·rw [List.length_map]; omega
 ·rw [List.length_append, List.length_cons, List.length_nil]; omega
theorem RelO.isSome_eq {o : Option V} {u : Option Value} (r : RelO o u) : o.isSome = u.isSome := by
 cases o with
 | none => cases u with
  | none => rfl
  | some _ => exact (show False from r).elim
 | some _ => cases u with
  | none => exact (show False from r).elim
  | some _ => rfl
theorem KV.val {kvs : List (κ × V)} {vs : List (κ × Value)} (r : KV kvs vs) (k : κ) : RelO (valV kvs k) (valueAt vs k) := by
 unfold KV at r
 induction r with
 | nil => exact True.intro
 | @cons p q ps qs h t ih =>
  obtain ⟨h1, h2⟩ := h
  by_cases e : p.1 = k
  ·have e' : q.1 = k := h1.symm.trans e
   have b : valueAt (q :: qs) k = some q.2 := by simp [valueAt, List.find?_cons, e']
   rw [valV_pos e, b]; exact h2
  ·have e' : ¬ q.1 = k := fun z => e (h1.trans z)
   have b : valueAt (q :: qs) k = valueAt qs k := by simp [valueAt, List.find?_cons, e']
   rw [valV_neg e, b]; exact ih
theorem KV.any {kvs : List (κ × V)} {vs : List (κ × Value)} (r : KV kvs vs) (k : κ) : (kvs.any fun kv => decide (kv.1 = k)) = vs.any fun kv => decide (kv.1 = k) := by
 unfold KV at r
 induction r with
 | nil => rfl
 | cons h t ih => rw [List.any_cons, List.any_cons, ih, h.1]
theorem KV.repl {kvs : List (κ × V)} {vs : List (κ × Value)} (r : KV kvs vs) (k : κ) {y : V} {u : Value} (ry : RelV y u) :
  KV (kvs.map fun kv => if kv.1 = k then (kv.1, y) else kv) (vs.map fun kv => if kv.1 = k then (kv.1, u) else kv) := by
 unfold KV at r ⊢
 induction r with
 | nil => exact .nil
 | @cons p q ps qs h t ih =>
  rw [List.map_cons, List.map_cons]
  refine .cons ?_ ih
  obtain ⟨h1, h2⟩ := h
  by_cases e : p.1 = k
  ·rw [if_pos e, if_pos (h1.symm.trans e)]; exact ⟨h1, ry⟩
  ·rw [if_neg e, if_neg (fun z => e (h1.trans z))]; exact ⟨h1, h2⟩
theorem KV.put {kvs : List (κ × V)} {vs : List (κ × Value)} (r : KV kvs vs) (k : κ) {y : V} {u : Value} (ry : RelV y u) : KV (putK kvs k y) (stored vs k u) := by
 unfold putK stored
 rw [r.any k]
 by_cases e : (vs.any fun kv => decide (kv.1 = k)) = true
 ·rw [if_pos e, if_pos e]; exact r.repl k ry
 ·rw [if_neg e, if_neg e]; exact Paired.snoc r ⟨rfl, ry⟩
theorem KV.length {kvs : List (κ × V)} {vs : List (κ × Value)} (r : KV kvs vs) : kvs.length = vs.length := Paired.length r
end
theorem kV_is {P : Program} {w : World} {k : Key} {u : Value} (r : RelV (kV k) u) : (mixKind P w).is k u = true := by
 cases k with
 | inl i => obtain ⟨t, e⟩ := (show ∃ t, u = Value.int i t from r); subst e; exact mixKind_int P w i t
 | inr x => obtain ⟨t, e⟩ := (show ∃ t, u = Value.str x t from r); subst e; exact mixKind_str P w x t
theorem items_are {P : Program} {w : World} : ∀ {ks : List Key} {us : List Value}, Vals (ks.map kV) us -> ItemsAre (mixKind P w) ks us
 | [], _, r => by rw [List.map_nil] at r; cases r; exact .nil
 | k :: ks, _, r => by
  rw [List.map_cons] at r
  cases r with
  | cons h t => exact .cons (kV_is h) (items_are t)
abbrev KT (H : Hp) : List (List Key × V) -> List (List Key × Addr × Value) -> Prop := Paired fun p q => p.1 = q.1 /\ H q.2.1 = some (.tup (p.1.map kV)) /\ RelV p.2 q.2.2
theorem KT.val {H : Hp} {kvs : List (List Key × V)} {xs : List (List Key × Addr × Value)} (r : KT H kvs xs) (k : List Key) : RelO (valV kvs k) ((atKey xs k).map (·.2)) := by
 induction r with
 | nil => exact True.intro
 | @cons p q ps qs h t ih =>
  obtain ⟨h1, _, h2⟩ := h
  by_cases e : p.1 = k
  ·have e' : q.1 = k := h1.symm.trans e
   have b : atKey (q :: qs) k = some q.2 := by simp [atKey, List.find?_cons, e']
   rw [valV_pos e, b]; exact h2
  ·have e' : ¬ q.1 = k := fun z => e (h1.trans z)
   have b : atKey (q :: qs) k = atKey qs k := by simp [atKey, List.find?_cons, e']
   rw [valV_neg e, b]; exact ih
section
variable {P : Program} {w : World} {H : Hp} {h : Heap} {a : Addr}
theorem rd_of {u : HO} (ok : HOk P w H h) (e : Rd H a u) : ObjOk P w H h a u := e.ok ok
theorem dk_rd {kvs : List (Key × V)} (ok : HOk P w H h) (e : Rd H a (.dK kvs)) : kvs.length ≤ sizeLine /\ (a == sysModules) = false /\ ∃ vs, KV kvs vs /\ h.DictOf (mixKind P w) a vs :=
 show ObjOk P w H h a (.dK kvs) from rd_of ok e
theorem key_of {ks : List Key} (ok : HOk P w H h) (e : H a = some (.tup (ks.map kV))) : (tupleKind (mixKind P w)).is h ks a := by
 obtain ⟨_, its, r, o, h1, h2, n, h3⟩ := (show ObjOk P w H h a (.tup (ks.map kV)) from ok a _ e)
 exact ⟨o, its.toArray, n, h1, h2, h3, by simpa using items_are r⟩
theorem dt_rd {kvs : List (List Key × V)} (ok : HOk P w H h) (e : Rd H a (.dT kvs)) : kvs.length ≤ sizeLine /\ (a == sysModules) = false /\
  ∃ xs, KT H kvs xs /\ h.DictOfH (tupleKind (mixKind P w)) a xs := by
 obtain ⟨z, y, xs, r, o, es, ep, h1, h2, h3, h4, h5⟩ := (show ObjOk P w H h a (.dT kvs) from rd_of ok e)
 refine ⟨z, y, xs, r, o, es, ep, h1, h2, h3, h4, fun x hx => ?_, h5⟩
 have all : ∀ {l : List (List Key × V)} {m : List (List Key × Addr × Value)}, KT H l m -> ∀ x ∈ m, (tupleKind (mixKind P w)).is h x.1 x.2.1 := by
  intro l m q
  induction q with
  | nil => intro x hx; exact nomatch hx
  | @cons p q ps qs hq t ih =>
   intro x hx
   rcases List.mem_cons.mp hx with e | hx
   ·subst e
    exact key_of ok (by rw [<- hq.1]; exact hq.2.1)
   ·exact ih x hx
 exact all r x hx
end
def DGet (H : Hp) (a : Addr) (y : V) (r : Option V) : Prop :=
 (∃ kvs k, Rd H a (.dK kvs) /\ y = kV k /\ r = valV kvs k) \/ ∃ kvs k b, Rd H a (.dT kvs) /\ y = .ref b /\ H b = some (.tup (k.map kV)) /\ r = valV kvs k
section
variable {X : Cx} {pins : List (Addr × Obj)} {σ : St} {H : Hp} {s : Shared} {a : Addr} {y v : V} {u r : Value} {o : Option V} {A : Around} {E : Value -> Shared -> Prop}
theorem Inv.big (I : Inv X pins σ H s) : sysModules < s.heap.objs.size := by
 have h : mainGlobals < s.heap.objs.size := (I.mod.glob.keeps I.bk).lt
 exact Nat.lt_trans (by decide) h
theorem d_getItem {Q : Value -> Shared -> Prop} (hu : A.units + 1 < cLine) (I : Inv X pins σ H s) (g : DGet H a y (some v)) (ry : RelV y u) (h : ∀ w' s', Inv X pins σ H s' -> RelV v w' -> Q w' s') :
  wpAny (model X.prog X.w) A (getItem (.ref a) u) Q E s := by
 rcases g with ⟨kvs, k, e, ey, l⟩ | ⟨kvs, k, b, e, ey, eb, l⟩
 ·subst ey
  obtain ⟨z, hd, vs, rel, dd⟩ := dk_rd I.hok e
  obtain ⟨w', hw, rw'⟩ := RelO.some_of (v := v) (o := valueAt vs k) (by rw [l]; exact rel.val k)
  exact wpAny_getItem_of (kV_is ry) dd.mapOf hw (h w' _ (I.tok _) rw')
 ·subst ey
  cases (show u = Value.ref b from ry)
  obtain ⟨z, hd, xs, rel, dd⟩ := dt_rd I.hok e
  obtain ⟨w', hw, rw'⟩ := RelO.some_of (v := v) (o := (atKey xs k).map (·.2)) (by rw [l]; exact rel.val k)
  obtain ⟨p, hp, hp2⟩ := Option.map_eq_some_iff.mp hw
  refine wpAny_getItem_heap (tupleKind_room_in1 hu) (key_of I.hok eb) dd hp ?_
  rw [hp2]
  exact h w' _ (I.tok _) rw'
theorem d_in {Q : Value -> Shared -> Prop} (hu : A.units + 1 < cLine) (I : Inv X pins σ H s) (g : DGet H a y o) (ry : RelV y u) (h : ∀ s', Inv X pins σ H s' -> Q (.bool o.isSome) s') :
  wpAny (model X.prog X.w) A (compareOp .In u (.ref a)) Q E s := by
 rcases g with ⟨kvs, k, e, ey, l⟩ | ⟨kvs, k, b, e, ey, eb, l⟩
 ·subst ey
  obtain ⟨z, hd, vs, rel, dd⟩ := dk_rd I.hok e
  refine wpAny_in_of (kV_is ry) hd dd.mapOf ?_
  rw [<- (rel.val k).isSome_eq, <- l]
  exact h _ (I.tok _)
 ·subst ey
  cases (show u = Value.ref b from ry)
  obtain ⟨z, hd, xs, rel, dd⟩ := dt_rd I.hok e
  refine wpAny_in_heap (tupleKind_room_in1 hu) (key_of I.hok eb) hd dd ?_
  have q := (rel.val k).isSome_eq
  rw [Option.isSome_map] at q
  rw [<- q, <- l]
  exact h _ (I.tok _)
end
def NoSl (i : Expr) : Prop := ∀ ov iv, subscripted i false ov iv = operate [ov, iv] (getItem ov iv)
theorem subD_of {prog : Program} {w : World} {A : Around} {E : Value -> Shared -> Prop} {s : Shared} {env : Env} {value slice : Expr} {pos : Pos} {T id : String} {Q : Value -> Shared -> Prop}
  (hl : typeLookup (.type T) "__getitem__" = pure (some (.builtin id))) (hs : NoSl slice)
  (h : wpAny (model prog w) A (eval value env) (fun o s₁ => wpAny (model prog w) A (eval slice env) (fun i s₂ => s₂.TypeIs o T /\ wpAny (model prog w) A (getItem o i) Q E s₂) E s₁) E s) :
  wpAny (model prog w) A (eval (.Subscript value slice pos) env) Q E s := by
 refine Subscript_ (wpAny_mono h (fun o s₁ h₁ => wpAny_mono h₁ (fun i s₂ h₂ => ?_) fun _ _ x => x) fun _ _ x => x)
 obtain ⟨hT, h₂⟩ := h₂
 unfold subscriptTail
 refine wpAny_bind ?_
 rw [getitemInPython_of_ne hT.not_modules]
 refine wpAny_bind (wpAny_specialOf hT hl ?_)
 have fin : wpAny (model prog w) A (subscripted slice false o i) (fun r s₃ => wpAny (model prog w) A (letTemporaryGo value o r >>= fun _ => pure r) Q E s₃) E s₂ := by
  rw [hs o i]
  exact wpAny_operating (wpAny_mono h₂ (fun r s₃ h₃ => wpAny_bind (wpAny_letTemporaryGo (wpAny_pure h₃))) fun _ _ x => x)
 first
  | exact wpAny_pure (wpAny_bind fin)
  | exact wpAny_bind (wpAny_pure (wpAny_bind fin))
  | exact wpAny_bind fin
theorem dict_typeIs {X : Cx} {pins : List (Addr × Obj)} {σ : St} {H : Hp} {s : Shared} {a : Addr} {y : V} {o : Option V} (I : Inv X pins σ H s) (g : DGet H a y o) : s.TypeIs (.ref a) "dict" := by
 rcases g with ⟨kvs, k, e, _, _⟩ | ⟨kvs, k, b, e, _, _, _⟩
 ·obtain ⟨_, _, vs, _, dd⟩ := dk_rd I.hok e
  exact dd.typeIs
 ·obtain ⟨_, _, xs, _, dd⟩ := dt_rd I.hok e
  exact dd.typeIs
def tDGet (td ty : TE) : TE := fun σ H Q => td σ H fun x H1 => ty σ H1 fun y H2 => ∃ a v, x = .ref a /\ DGet H2 a y (some v) /\ Q v H2
def tDIn (ty td : TE) : TE := fun σ H Q => ty σ H fun y H1 => td σ H1 fun x H2 => ∃ a o, x = .ref a /\ DGet H2 a y o /\ Q (.bl o.isSome) H2
section
variable {X : Cx} {o i e value : Expr} {pos pos' tpos : Pos} {td ty tv : TE}
theorem pe_dget (hu : X.A.units + 1 < cLine) (ho : PE X o td) (hi : PE X i ty) (hs : NoSl i) : PE X (.Subscript o i pos) (tDGet td ty) := by
 intro pins s σ H Q I h
 refine subD_of PySem.F.slot_dict_getitem.lookup hs (thn (ho pins s σ H _ I h) fun u s1 ⟨x, H1, I1, rx, q1⟩ => thn (hi pins s1 σ H1 _ I1 q1) fun iv s2 ⟨y, H2, I2, ry, a, v, ex, g, q2⟩ => ?_)
 subst ex
 obtain rfl : u = Value.ref a := rx
 exact ⟨dict_typeIs I2 g, d_getItem hu I2 g ry fun w' s3 I3 rw' => ⟨v, H2, I3, rw', q2⟩⟩
theorem pc_din (hu : X.A.units + 1 < cLine) (hi : PE X i ty) (ho : PE X o td) : PC X .In i o (tDIn ty td) := by
 intro pins s σ H Q I h
 refine thn (hi pins s σ H _ I h) fun iv s1 ⟨y, H1, I1, ry, q1⟩ => thn (ho pins s1 σ H1 _ I1 q1) fun u s2 ⟨x, H2, I2, rx, a, ov, ex, g, q2⟩ => ?_
 subst ex
 obtain rfl : u = Value.ref a := rx
 exact d_in hu I2 g ry fun s3 I3 => ⟨.bl ov.isSome, H2, I3, rfl, q2⟩
end
def mergeK (kvs more : List (Key × V)) : List (Key × V) := more.foldl (fun acc kv => putK acc kv.1 kv.2) kvs
theorem KV.merge : ∀ {more : List (Key × V)} {rs : List (Key × Value)} {kvs : List (Key × V)} {vs : List (Key × Value)}, KV more rs -> KV kvs vs -> KV (mergeK kvs more) (merged vs rs) := by
 intro more rs kvs vs r
 unfold KV at r
 induction r generalizing kvs vs with
 | nil => intro q; exact q
 | @cons p q ps qs h t ih =>
  intro r0
  have e : KV (putK kvs p.1 p.2) (stored vs q.1 q.2) := by
   have := r0.put p.1 h.2
   rw [<- h.1]; exact this
  exact ih e
theorem length_mergeK : ∀ (more kvs : List (Key × V)), (mergeK kvs more).length ≤ kvs.length + more.length
 | [], kvs => by show kvs.length ≤ kvs.length + 0; omega
 | p :: r, kvs => by
  have h1 := length_mergeK r (putK kvs p.1 p.2)
  have h2 := length_putK kvs p.1 p.2
  show (mergeK (putK kvs p.1 p.2) r).length ≤ _
  rw [List.length_cons]; omega
end L2
namespace L2
open PySem PySem.Spec PyProof.Rows
theorem list_keys_none : typeLookup (.type "list") "keys" = pure none := am_miss_of_fast (by first | decide +kernel | rfl)
theorem ud_entry : entryFor table "dict.update.loop" = some Builtin.«dict.update.loop» := entryFor_of_tree (by kernel_rfl)
theorem ud_plain : plainId "dict.update.loop" = true := by decide +kernel
section
variable {prog : Program} {w : World} {A : Around} {E : Value -> Shared -> Prop}
theorem miss_list {s : Shared} {a : Addr} {o : Obj} {xs : Array Value} {k : Nat} {Q : Option Value -> Shared -> Prop} (hx : s.heap.get? a = some o) (hc : o.cls = .type "list") (hdat : o.data = .seq xs k) (hd : o.dict = none) (hA : A.handled = none)
  (h : ∀ h' tk, (∀ b ob, s.heap.get? b = some ob -> h'.get? b = some ob) -> Q none { s with heap := h', toks := tk }) : wpAny (model prog w) A (getAttr? (.ref a) "keys") Q E s := by
 obtain ⟨c, dct, dat, sl⟩ := o
 simp only at hc hdat hd
 subst hc hdat hd
 obtain ⟨hp, g, d, tk, os⟩ := s
 have hT : ∀ tk', (⟨hp, g, d, tk', os⟩ : Shared).TypeIs (.ref a) "list" := fun _ => ⟨_, hx, rfl⟩
 have hmiss := list_keys_none
 have hname : (["__module__", "__name__", "__qualname__", "__doc__", "__annotations__"] : List Str).contains "keys" = false := by decide +kernel
 have hsz : ("keys" : Str).length + 100 ≤ sizeLine := by first | size_fits | decide +kernel
 have f1 := sub_AttributeError
 have f3 := PySem.F.slot_list_getattribute.lookup
 have f4 := PySem.F.slot_list_getattribute.bind (.ref a)
 have f5 := am_list_getattr_none
 unfold getAttr? getAttrBy? getAttrBy
 repeat (any_goals (first | assumption | exact hT _ | ((with_reducible show wpAny _ _ (call (Value.builtin "list.__getattribute__") _ _) _ _ _); refine call_meets PySem.F.slot_list_getattribute (hT _) am_entry_list_getattribute (PySem.F.args_list_getattribute_2 _ _) (meets_getattribute_miss_list a xs k sl "keys" _ hmiss hname hsz) ⟨hx, hA, fun h' tk' e hx' => ?_⟩) | wp_step))
 obtain ⟨t', u', he⟩ := hx'.there
 show wpAny _ _ (getattributeRaised _ _ _ _ _ _ _) _ _ _
 unfold getattributeRaised
 repeat (any_goals (first | assumption | wp_step))
 all_goals first | exact h _ _ hx'.keeps | (dsimp only; repeat (any_goals (first | assumption | exact h _ _ hx'.keeps | wp_step)))
theorem upd_loop {R : Result -> Shared -> Prop} {S I l : Addr} {items : Array Value} {res : Value} (hh : A.handled = none) (hlI : l ≠ I) (hSI : S ≠ I) (hSl : S ≠ l) :
  ∀ (rest : List (Key × Value)) (i : Nat) (acc : List (Key × Value)) (ix : Int) (t : Tok) (s : Shared), items.size = i + rest.length -> acc.length + rest.length ≤ sizeLine ->
   (∀ (j : Nat) (q : Key × Value), rest[j]? = some q -> ∃ (b : Addr) (u : Value), items[i + j]? = some (.ref b) /\ b ≠ S /\ b ≠ I /\ IsTup s.heap b #[u, q.2] /\ keyIs q.1 u = true) ->
   s.heap.IsListIter I l i -> s.heap.IsList l items -> s.heap.DictOf (mixKind prog w) S acc ->
   (∀ h' tk, h'.DictOf (mixKind prog w) S (merged acc rest) -> (∀ b o, b ≠ S -> b ≠ I -> s.heap.get? b = some o -> h'.get? b = some o) -> R (.ok (.ret res)) { s with heap := h', toks := tk }) ->
   codeAny (model prog w) A (.builtin "dict.update.loop" ⟨[.ref S, .ref I, .int ix t, res], []⟩) R s
 | [], i, acc, ix, t, s, hsz, hln, ht, hit, hl, hm, hR => by
  refine codeAny_builtin ud_entry ?_
  rw [Around.under_plainId ud_plain _]
  show wpAny _ A.in1 (pyNext (.ref I) >>= _) _ _ s
  refine wpAny_bind (wpAny_pyNext_list_end (A := A.in1) hh hit hl (by first | exact Array.getElem?_eq_none (Nat.le_of_eq hsz) | (simp at hsz; simp; omega)) fun h' he => ?_)
  show wpAny _ A.in1 (Builtin.Dict.addKeywords S [] >>= _) _ _ _
  refine wpAny_bind (wpAny_pure (wpAny_pure ?_))
  exact hR h' s.toks (hm.extBut he hSI) fun b o _ hb e => he b o hb e
 | q :: rest, i, acc, ix, t, s, hsz, hln, ht, hit, hl, hm, hR => by
  obtain ⟨b, u, hb, hbS, hbI, htup, hk⟩ := ht 0 q rfl
  rw [List.length_cons] at hsz hln
  refine codeAny_builtin ud_entry ?_
  rw [Around.under_plainId ud_plain _]
  show wpAny _ A.in1 (pyNext (.ref I) >>= _) _ _ s
  refine wpAny_bind (wpAny_pyNext_list_item (x := .ref b) hit hl (by simpa using hb) fun h1 hit1 hs1 => ?_)
  have ht1 : IsTup h1 b #[u, q.2] := htup.extBut hs1.extBut hbI
  have hl1 : h1.IsList l items := hl.extBut hs1.extBut hlI
  have hm1 : h1.DictOf (mixKind prog w) S acc := hm.extBut hs1.extBut hSI
  obtain ⟨o, ho, hc, n, hd⟩ := id ht1
  show wpAny _ A.in1 (holding [Value.ref b] _ >>= _) _ _ _
  refine wpAny_bind (wpAny_holding ?_)
  refine wpAny_bind (wpAny_tryCatch ?_)
  unfold Builtin.Dict.pairItems
  refine wpAny_bind (wpAny_typeOf (T := "tuple") ⟨o, ho, hc⟩ ?_)
  rw [if_pos (by first | decide | rfl | simp)]
  refine wpAny_bind (wpAny_seqItems ho hd (wpAny_pure ?_))
  show wpAny _ A.in1 (holding [u, q.2] (dictSet S u q.2)) _ _ _
  refine wpAny_holding (wpAny_dictSet_pairs (knd := mixKind prog w) (k := q.1) hk hm1 (fun h2 hm2 hs2 => ?_) (by omega))
  refine wpAny_pure ⟨plainId_quiet ud_plain _, upd_loop (items := items) hh hlI hSI hSl rest (i + 1) (stored acc q.1 q.2) (ix + 1) 0 _ (show items.size = i + 1 + rest.length by omega) ?_ (fun j q' e => ?_) ?_ ?_ hm2 fun h' tk hd' k => ?_⟩
  ·have z := stored_length_le acc q.1 q.2
   omega
  ·obtain ⟨b', u', hb', hbS', hbI', htup', hk'⟩ := ht (j + 1) q' (by simpa using e)
   refine ⟨b', u', ?_, hbS', hbI', (htup'.extBut hs1.extBut hbI').extBut hs2.extBut hbS', hk'⟩
   rw [show i + 1 + j = i + (j + 1) by omega]
   exact hb'
  ·exact hit1.at fun o' e => hs2.extBut I o' (Ne.symm hSI) e
  ·exact hl1.extBut hs2.extBut (Ne.symm hSl)
  ·exact hR h' tk hd' fun c oc h3 h4 e => k c oc h3 h4 (hs2.extBut c oc h3 (hs1.extBut c oc h4 e))
theorem call_dict_pairs {s : Shared} {l : Addr} {ol : Obj} {items : Array Value} {n : Nat} {prs : List (Key × Value)} {Q : Value -> Shared -> Prop} (hh : A.handled = none) (hl : s.heap.get? l = some ol) (hc : ol.cls = .type "list") (hd : ol.dict = none)
  (hdat : ol.data = .seq items n) (hsz : items.size = prs.length) (hln : prs.length ≤ sizeLine)
  (ht : ∀ (j : Nat) (q : Key × Value), prs[j]? = some q -> ∃ (b : Addr) (u : Value), items[j]? = some (.ref b) /\ IsTup s.heap b #[u, q.2] /\ keyIs q.1 u = true)
  (h : ∀ h' tk, h'.DictOf (mixKind prog w) s.heap.objs.size (merged [] prs) -> (∀ b o, s.heap.get? b = some o -> h'.get? b = some o) -> Q (.ref s.heap.objs.size) { s with heap := h', toks := tk }) :
  wpAny (model prog w) A (call (.type "dict") [.ref l]) Q E s := by
 refine callType_codes (Q₁ := fun obj s₁ => obj = .ref s.heap.objs.size /\ s₁ = { s with heap := s.heap.push { cls := .type "dict", data := .dict #[] } }) PySem.F.kt_called_dict (PySem.F.kt_typeCall_dict_1 _) PySem.F.entry_dict_init (kt_code_dict_new _ ⟨rfl, rfl⟩) ?_
 rintro obj s₁ ⟨rfl, rfl⟩
 have hnew : (s.heap.push { cls := .type "dict", data := .dict #[] }).DictOf (mixKind prog w) s.heap.objs.size [] := Heap.DictOf.new s.heap
 have k0 : ∀ b o, s.heap.get? b = some o -> (s.heap.push { cls := .type "dict", data := .dict #[] }).get? b = some o := fun b o e => Heap.get?_push_of_some _ e
 refine ⟨hnew.typeIs, PySem.F.args_dict_init_2 _ _, ?_⟩
 unfold Builtin.«dict.__init__»
 refine wpAny_bind ?_
 unfold Builtin.Dict.selfAndRest
 refine wpAny_bind (wpAny_notOrdered_dict hnew.typeIs ?_)
 show wpAny _ _ (pure (s.heap.objs.size, [Value.ref l])) _ _ _
 refine wpAny_pure ?_
 show wpAny _ _ (Builtin.Dict.updateFrom "dict.__init__" s.heap.objs.size (.ref l) [] .none) _ _ _
 unfold Builtin.Dict.updateFrom
 refine wpAny_bind (wpAny_typeOf (T := "list") ⟨ol, k0 _ _ hl, hc⟩ ?_)
 rw [if_pos (by first | decide | rfl | simp)]
 refine wpAny_bind (miss_list (k0 _ _ hl) hc hdat hd hh fun h1 tk1 hk1 => ?_)
 rw [if_pos (show (none : Option Value).isNone = true from rfl)]
 refine wpAny_bind (wpAny_rule ?_)
 have hl1 : h1.IsList l items := ⟨ol, hk1 _ _ (k0 _ _ hl), hc, n, hdat⟩
 have hS1 : s.heap.objs.size < h1.objs.size := by
  have e : (s.heap.push { cls := .type "dict", data := .dict #[] }).get? s.heap.objs.size = some { cls := .type "dict", data := .dict #[] } := Heap.get?_push_size _ rfl
  exact Heap.lt_size (hk1 _ _ e)
 refine wpAny_bind (wpAny_pyIter_list hl1 ?_)
 have k2 : ∀ b o, h1.get? b = some o -> (h1.push { cls := .type "list_iterator", data := .fields #[.ref l, .int 0 0] }).get? b = some o := fun b o e => Heap.get?_push_of_some _ e
 have hlt : l < s.heap.objs.size := Heap.lt_size hl
 have key := upd_loop (prog := prog) (w := w) (A := A.in1) (R := wants (fun r s₂ => r = .none /\ Q (.ref s.heap.objs.size) s₂) E) (S := s.heap.objs.size) (I := h1.objs.size) (l := l) (items := items) (res := Value.none) hh
  (Nat.ne_of_lt (Nat.lt_trans hlt hS1)) (Nat.ne_of_lt hS1) (Nat.ne_of_gt hlt) prs 0 [] 0 0
  { s with heap := h1.push { cls := .type "list_iterator", data := .fields #[.ref l, .int 0 0] }, toks := tk1 } (by rw [hsz, Nat.zero_add]) (by rw [List.length_nil, Nat.zero_add]; exact hln)
  (fun j q e => by
   obtain ⟨b, u, e1, e2, e3⟩ := ht j q e
   have hb : b < s.heap.objs.size := e2.lt
   exact ⟨b, u, by rw [Nat.zero_add]; exact e1, Nat.ne_of_lt hb, Nat.ne_of_lt (Nat.lt_trans hb hS1), e2.keeps fun c o z => k2 _ _ (hk1 _ _ (k0 _ _ z)), e3⟩)
  ⟨_, Heap.get?_push_size _ rfl, rfl, rfl⟩ (hl1.at fun o e => k2 _ _ e) ((hnew.at fun o e => hk1 _ _ e).at fun o e => k2 _ _ e)
  (fun h' tk hd' k => ⟨rfl, h h' tk hd' fun b o e => k b o (Nat.ne_of_lt (Heap.lt_size e)) (Nat.ne_of_lt (Nat.lt_trans (Heap.lt_size e) hS1)) (k2 _ _ (hk1 _ _ (k0 _ _ e)))⟩)
 first
  | exact wpAny_pure ⟨plainId_quiet ud_plain _, key⟩
  | exact wpAny_bind (wpAny_pure (wpAny_pure ⟨plainId_quiet ud_plain _, key⟩))
end
section
variable {X : Cx}
theorem pairs_of {pins : List (Addr × Obj)} {σ : St} {H : Hp} {s : Shared} (I : Inv X pins σ H s) : ∀ {ps : List Addr} {kvs : List (Key × V)}, Paired (fun p kv => SqT X.K H p [kV kv.1, kv.2]) ps kvs ->
  ∃ prs : List (Key × Value), KV kvs prs /\ prs.length = ps.length /\ ∀ (j : Nat) (q : Key × Value), prs[j]? = some q -> ∃ (b : Addr) (u : Value), ps[j]? = some b /\ IsTup s.heap b #[u, q.2] /\ keyIs q.1 u = true
 | _, _, .nil => ⟨[], .nil, rfl, fun j q e => by simp at e⟩
 | _, _, .cons (a := p) (b := kv) h t => by
  obtain ⟨prs, r, hl, hp⟩ := pairs_of I t
  obtain ⟨its, rv, ht, _⟩ := I.tuple h
  obtain ⟨u, y, ei, ru, ry⟩ := vals2 rv
  subst ei
  refine ⟨(kv.1, y) :: prs, .cons ⟨rfl, ry⟩ r, by rw [List.length_cons, List.length_cons, hl], fun j q e => ?_⟩
  cases j with
  | zero =>
   have e' : (kv.1, y) = q := Option.some.inj e
   subst e'
   exact ⟨p, u, rfl, ht, kV_is (P := X.prog) (w := X.w) ru⟩
  | succ j =>
   obtain ⟨b, u', e1, e2, e3⟩ := hp j q (by simpa using e)
   exact ⟨b, u', by simpa using e1, e2, e3⟩
theorem refs_at : ∀ {ps : List Addr} {us : List Value}, Vals (ps.map V.ref) us -> us = ps.map Value.ref
 | [], us, r => by
  rw [List.map_nil] at r
  cases r
  rfl
 | p :: ps, us, r => by
  rw [List.map_cons] at r
  cases r with
  | cons h t =>
   cases h
   rw [List.map_cons, <- refs_at t]
theorem call_dictP (hcalm : X.calm = true) : CallR X (.type "dict") (fun xs H Q => ∃ (a : Addr) (ps : List Addr) (kvs : List (Key × V)), xs = [.ref a] /\ SqL X.K H a (ps.map V.ref) /\ Paired (fun p kv => SqT X.K H p [kV kv.1, kv.2]) ps kvs /\
  ∀ p, H p = none -> Q (.ref p) (upd H p (.dK (mergeK [] kvs)))) := by
 intro pins s σ H xs us Q I r q
 obtain ⟨a, ps, kvs, ex, hq, hp, q⟩ := q
 subst ex
 obtain ⟨u, eu, rx⟩ := vals1 r
 subst eu
 cases rx
 obtain ⟨its, rv, pl, hz⟩ := I.list hq
 have ei := refs_at rv
 subst ei
 rw [List.length_map] at hz
 obtain ⟨prs, rel, hl, hpr⟩ := pairs_of I hp
 obtain ⟨o, n, ho, hc, hd, hdat⟩ := pl
 refine call_dict_pairs (prs := prs) (I.ok.hd hcalm) ho hc hd hdat (by simp [hl]) (by rw [hl]; exact hz) (fun j q' e => ?_) fun h' tk hd' k => ?_
 ·obtain ⟨b, u, e1, e2, e3⟩ := hpr j q' e
  exact ⟨b, u, by simp [e1], e2, e3⟩
 ·have hm : (s.heap.objs.size == sysModules) = false := beq_eq_false_iff_ne.mpr (Nat.ne_of_gt I.big)
  have hlen : (mergeK [] kvs).length ≤ sizeLine := by
   refine Nat.le_trans (length_mergeK kvs []) ?_
   rw [List.length_nil, Nat.zero_add, rel.length, hl]
   exact hz
  exact ⟨.ref s.heap.objs.size, upd H s.heap.objs.size (.dK (mergeK [] kvs)), I.laid (t' := tk) k (Nat.le_refl _) (show ObjOk X.prog X.w _ _ _ (.dK (mergeK [] kvs)) from ⟨hlen, hm, merged [] prs, KV.merge rel .nil, hd'⟩), rfl, q _ (I.hok.fresh (Nat.le_refl _))⟩
end
end L2
namespace L2
open PySem PySem.Spec PyProof.Rows
section
variable {X : Cx}
theorem pi_one {tg : Expr} {pins : List (Addr × Obj)} {σ : St} {H : Hp} {s : Shared} {R : It -> Hp -> Prop} {J : It} {tn : Nat -> Heap -> Prop} {tk : Nat} (I : Inv X pins σ H s) (o : Obj)
  (T : Turn X.prog X.w X.K tg J [s.heap.objs.size] s.heap.objs.size tn) (st : tn 0 (s.heap.push o)) (q : R J H) : PIE X pins σ tg R (.ref s.heap.objs.size) { s with heap := s.heap.push o, toks := tk } := by
 refine ⟨s.heap.objs.size, [s.heap.objs.size], tn, J, H, rfl, I.kept fun b ob e => Heap.get?_push_of_some _ e, T, st, fun b hb => ?_, q⟩
 have e : b = s.heap.objs.size := by simpa using hb
 subst e
 exact I.fpOk (Nat.le_refl _) (I.hok.fresh (Nat.le_refl _))
end
def Itc (lo c : Int) (n : Nat) : It := ⟨fun i _ => i < n, fun i H x H' => H' = H /\ x = .int (lo + (i : Nat) * c), fun i _ => n ≤ i⟩
theorem turn_rangeC {P : Program} {w : World} {K : PySem.W.Frag} {tg : Expr} (it : Addr) (lo c : Int) (n : Nat) : Turn P w K tg (Itc lo c n) [it] it (fun i h => IsRangeIter h it (lo + (i : Nat) * c) ((n : Int) - (i : Nat)) c) where
 mem := by simp
 obj := fun i h st b hb => by
  have e : b = it := by simpa using hb
  subst e
  exact ⟨_, st, fun v z => nomatch z⟩
 keep := fun i h h' st k => k it (by simp) _ st
 item := by
  intro X hP hw hK hc i pins s σ H E I hf st hg
  subst hP hw hK
  obtain ⟨f0, f1, f2, f3, f4, f5⟩ := hf it (by simp)
  have W := Walks.range (prog := X.prog) (w := X.w) (I.ok.hd hc) it lo c n
  refine W.item i s _ _ hg st fun v h' tk hv st' kk => ?_
  obtain ⟨t, rfl⟩ := hv
  have I1 : Inv X pins σ H { s with heap := h', toks := tk } := I.turned (fun b o hb e => kk b o (by simpa using hb) e) f0 f1 f3 f4 f5
  exact ⟨_, rfl, go_of (s := { s with heap := h', toks := tk }) (n := "range_iterator") st' rfl rfl (by decide) ⟨.int (lo + (i : Nat) * c), H, I1, ⟨t, rfl⟩, ⟨rfl, rfl⟩, st', fun b hb => (hf b hb).1⟩⟩
 done := by
  intro X hP hw hK hc i pins s σ H E I hf st hg
  subst hP hw hK
  obtain ⟨f0, f1, f2, f3, f4, f5⟩ := hf it (by simp)
  exact wpAny_pyNext_range_end (I.ok.hd hc) st (by have : n ≤ i := hg; omega) fun h' eb => ⟨rfl, I.turned (t' := s.toks) (fun b o hb e => eb b o hb e) f0 f1 f3 f4 f5⟩
 self := fun A i s Q E st h => wpAny_pyIter_rangeiter st h
def RgC (i j c : Int) (n : Nat) : Prop := c ≠ 0 /\ c.natAbs < 1073741824 /\ Builtin.Range.small i j c = true /\ Builtin.Range.rangeSize i j c = n
def iRng3 (ta : TA) : TI := fun σ H R => ta σ H fun vs H1 => ∃ (i j c : Int) (n : Nat), vs = [.int i, .int j, .int c] /\ RgC i j c n /\ R (Itc i c n) H1
section
variable {X : Cx} {tg : Expr}
theorem pi_range3 {a b c : Expr} {ta : TA} {p pos : Pos} (hg : Gl X "range") (hm : X.mg "range" = none) (ha : PA X [a, b, c] ta)
  (hs : starEach [a, b, c] X.env = (false, eval a X.env) :: starEach [b, c] X.env := by rfl) (hpl : (backTo pos (starEach [b, c] X.env)).any (·.1) = false := by rfl) :
  PI X tg (.Call (.Name "range" p) [a, b, c] [] pos) (iRng3 ta) := by
 intro pins s σ H R I h
 refine Call_ (ld_blt I hg hm boot_range (PyProof.Rows.callWith_type1 (thn (ha pos pins s σ H _ I h) fun us s1 ⟨vs, H1, I1, r1, q1⟩ => ?_) hs hpl))
 obtain ⟨i, j, k, n, e, ⟨c0, c1, c2, c3⟩, q⟩ := q1
 subst e
 cases r1 with
 | cons r rr =>
  cases rr with
  | cons r' rr =>
   cases rr with
   | cons r'' rr =>
    cases rr
    obtain ⟨t, rfl⟩ := r
    obtain ⟨t', rfl⟩ := r'
    obtain ⟨t'', rfl⟩ := r''
    refine call_range_3 c0 ?_ (.inl (PyProof.noPylong_small c1))
    refine wpAny_pyIter_range (IsRange.new ..) c2 ?_
    have I2 : Inv X pins σ H1 { s1 with heap := s1.heap.push { cls := .type "range", data := .fields #[.int i t, .int j t', .int k t''] } } := I1.kept (t' := s1.toks) fun b o e => Heap.get?_push_of_some _ e
    refine pi_one (tk := s1.toks) I2 _ (turn_rangeC _ i k n) ?_ q
    have e1 : i + ((0 : Nat) : Int) * k = i := by simp
    have e2 : (n : Int) - ((0 : Nat) : Int) = Builtin.Range.rangeSize i j k := by rw [c3]; simp
    show IsRangeIter _ _ (i + ((0 : Nat) : Int) * k) ((n : Int) - ((0 : Nat) : Int)) k
    rw [e1, e2]
    exact Heap.get?_push_size _ rfl
end
theorem for_rangeC {lo c : Int} {n : Nat} {g : TG} {tb : TS} {D : Ends} {σ : St} {H : Hp} (Pv : Nat -> St -> Hp -> Prop) (h0 : Pv 0 σ H)
  (hs : ∀ i σ H, i < n -> Pv i σ H -> g (.int (lo + (i : Nat) * c)) σ H fun σ2 H2 => tb { D with nx := Pv (i + 1), ct := Pv (i + 1), bk := D.nx } σ2 H2) (hd : ∀ σ H, Pv n σ H -> D.nx σ H) :
  ∃ W : Nat -> Nat -> St -> Hp -> Prop, (∃ m, W 0 m σ H) /\ ∀ i m σ H, W i m σ H ->
   ((Itc lo c n).stop i H /\ D.nx σ H) \/ ((Itc lo c n).go i H /\ ∃ N : St -> Hp -> Prop, (∀ σ' H', N σ' H' -> ∃ m', m' < m /\ W (i + 1) m' σ' H') /\ ∀ x H', (Itc lo c n).yld i H x H' -> g x σ H' fun σ2 H2 => tb { D with nx := N, ct := N, bk := D.nx } σ2 H2) := by
 refine ⟨fun i m σ H => m = n - i /\ i ≤ n /\ Pv i σ H, ⟨n, by simp, Nat.zero_le _, h0⟩, ?_⟩
 rintro i m σ H ⟨rfl, hi, p⟩
 by_cases hlt : i < n
 ·refine .inr ⟨hlt, Pv (i + 1), fun σ' H' p' => ⟨n - (i + 1), by omega, rfl, hlt, p'⟩, fun x H' y => ?_⟩
  obtain ⟨e, y⟩ := y
  subst e y
  exact hs i σ _ hlt p
 ·have e : i = n := by omega
  subst e
  exact .inl ⟨Nat.le_refl _, hd σ H p⟩
def Its (x : Str) : It := ⟨fun i _ => i < x.cps.size, fun i H v H' => H' = H /\ ∃ c, x.cps[i]? = some c /\ v = .str ⟨#[c]⟩, fun i _ => x.cps.size ≤ i⟩
theorem turn_str {P : Program} {w : World} {K : PySem.W.Frag} {tg : Expr} (it : Addr) (x : Str) (t : Tok) (ty : String) (hty : ty = "str_ascii_iterator" \/ ty = "str_iterator") :
  Turn P w K tg (Its x) [it] it (fun i h => h.IsStrIter it ty x t i) where
 mem := by simp
 obj := fun i h st b hb => by
  have e : b = it := by simpa using hb
  subst e
  obtain ⟨o, e, c, d⟩ := st
  exact ⟨o, e, fun v z => by rw [d] at z; cases z⟩
 keep := fun i h h' st k => let ⟨o, ho, r⟩ := st; ⟨o, k it (by simp) o ho, r⟩
 item := by
  intro X hP hw hK hc i pins s σ H E I hf st hg
  subst hP hw hK
  obtain ⟨f0, f1, f2, f3, f4, f5⟩ := hf it (by simp)
  have W : Walks X.prog X.w X.A it [it] [it] x.cps.size (SignAt x) (fun i h => h.IsStrIter it ty x t i) := by
   rcases hty with e | e
   ·rw [e]; exact Walks.strAscii (I.ok.hd hc) it x t
   ·rw [e]; exact Walks.strWide (I.ok.hd hc) it x t
  have hno : ["enumerate", "zip", "dict_itemiterator", "dict_reverseitemiterator", "odict_iterator", "itertools.zip_longest", "itertools.pairwise"].contains ty = false := by
   rcases hty with e | e
   ·rw [e]; decide
   ·rw [e]; decide
  refine W.item i s _ _ hg st fun v h' tk hv st' kk => ?_
  obtain ⟨c, u, hcx, rfl⟩ := hv
  have I1 : Inv X pins σ H { s with heap := h', toks := tk } := I.turned (fun b o hb e => kk b o (by simpa using hb) e) f0 f1 f3 f4 f5
  obtain ⟨oi, e, cc, dd⟩ := id st'
  exact ⟨_, rfl, go_of (s := { s with heap := h', toks := tk }) e cc dd hno ⟨.str ⟨#[c]⟩, H, I1, ⟨u, rfl⟩, ⟨rfl, c, hcx, rfl⟩, st', fun b hb => (hf b hb).1⟩⟩
 done := by
  intro X hP hw hK hc i pins s σ H E I hf st hg
  subst hP hw hK
  obtain ⟨f0, f1, f2, f3, f4, f5⟩ := hf it (by simp)
  have hx : x.cps[i]? = none := Array.getElem?_eq_none hg
  rcases hty with e | e
  ·rw [e] at st
   exact wpAny_pyNext_ascii_end (I.ok.hd hc) st hx fun h' eb => ⟨rfl, I.turned (t' := s.toks) (fun b o hb e => eb b o hb e) f0 f1 f3 f4 f5⟩
  ·rw [e] at st
   exact wpAny_pyNext_wide_end (I.ok.hd hc) st hx fun h' eb => ⟨rfl, I.turned (t' := s.toks) (fun b o hb e => eb b o hb e) f0 f1 f3 f4 f5⟩
 self := fun A i s Q E st h => by
  rcases hty with e | e
  ·rw [e] at st; exact wpAny_pyIter_striter_ascii st h
  ·rw [e] at st; exact wpAny_pyIter_striter_wide st h
def iStr (te : TE) : TI := fun σ H R => te σ H fun v H1 => ∃ x, v = .str x /\ R (Its x) H1
theorem pi_str {X : Cx} {tg e : Expr} {te : TE} (he : PE X e te) : PI X tg e (iStr te) := by
 intro pins s σ H R I h
 refine thn (he pins s σ H _ I h) fun v s1 ⟨y, H1, I1, r1, x, ex, q⟩ => ?_
 subst ex
 obtain ⟨t, rfl⟩ := r1
 cases ha : x.cps.all (· < 128)
 ·exact wpAny_pyIter_wide ha (pi_one (tk := s1.toks) I1 _ (turn_str _ x t "str_iterator" (.inr rfl)) ⟨_, Heap.get?_push_size _ rfl, rfl, rfl⟩ q)
 ·exact wpAny_pyIter_ascii ha (pi_one (tk := s1.toks) I1 _ (turn_str _ x t "str_ascii_iterator" (.inl rfl)) ⟨_, Heap.get?_push_size _ rfl, rfl, rfl⟩ q)
end L2
section
namespace Bits
open PySem PyProof.Rows
end Bits
end
section
namespace TL
open PySem PySem.Builtin PySem.Builtin.Str PySem.StrLaws
abbrev tl (x : Str) : List Nat := x.cps.toList
theorem len_tl (x : Str) : x.length = (tl x).length := by simp [tl, Str.length]
theorem ext_tl {x y : Str} (h : tl x = tl y) : x = y := Str.ext' (Array.toList_inj.mp h)
theorem tl_append (x y : Str) : tl (x ++ y) = tl x ++ tl y := by
 show (x ++ y).cps.toList = _
 rw [Str.cps_append, Array.toList_append]
theorem tl_mk (l : List Nat) : tl ⟨l.toArray⟩ = l := rfl
theorem map_tl_inj : ∀ {l m : List Str}, l.map tl = m.map tl -> l = m
 | [], [], _ => rfl
 | [], _ :: _, h => by simp at h
 | _ :: _, [], h => by simp at h
 | x :: l, y :: m, h => by
  rw [List.map_cons, List.map_cons] at h
  injection h with h1 h2
  rw [ext_tl h1, map_tl_inj h2]
theorem tl_ofString (s : String) : tl (Str.ofString s) = s.toList.map Char.toNat := PyProof.Rows.signs_ofString s
def pre (S l : List Nat) : Bool := l.take S.length == S
def spl (S : List Nat) : Nat -> List Nat -> List Nat -> List (List Nat)
 | _, acc, [] => [acc]
 | 0, acc, c :: r => if pre S (c :: r) = true then acc :: spl S (S.length - 1) [] r else spl S 0 (acc ++ [c]) r
 | k + 1, acc, _ :: r => spl S k acc r
theorem spl_nil (S : List Nat) (k : Nat) (acc : List Nat) : spl S k acc [] = [acc] := by cases k <;> rfl
theorem spl_hit {S acc r : List Nat} {c : Nat} (h : pre S (c :: r) = true) : spl S 0 acc (c :: r) = acc :: spl S (S.length - 1) [] r := by
 show (if pre S (c :: r) = true then acc :: spl S (S.length - 1) [] r else spl S 0 (acc ++ [c]) r) = _
 rw [if_pos h]
theorem spl_miss {S acc r : List Nat} {c : Nat} (h : pre S (c :: r) = false) : spl S 0 acc (c :: r) = spl S 0 (acc ++ [c]) r := by
 show (if pre S (c :: r) = true then acc :: spl S (S.length - 1) [] r else spl S 0 (acc ++ [c]) r) = _
 rw [if_neg (by rw [h]; exact Bool.false_ne_true)]
theorem spl_pass (S : List Nat) : ∀ (k : Nat) (acc l : List Nat), spl S k acc l = spl S 0 acc (l.drop k)
 | 0, _, _ => by rw [List.drop_zero]
 | k + 1, acc, [] => by rw [List.drop_nil, spl_nil, spl_nil]
 | k + 1, acc, c :: r => by
  show spl S k acc r = spl S 0 acc (r.drop k)
  exact spl_pass S k acc r
theorem pre_nil {S : List Nat} (hS : S ≠ []) : pre S [] = false := by
 cases S with
 | nil => exact absurd rfl hS
 | cons s S => rfl
theorem pre_of_head {s c : Nat} (S r : List Nat) (h : c ≠ s) : pre (s :: S) (c :: r) = false := by
 cases hp : pre (s :: S) (c :: r) with
 | false => rfl
 | true =>
  have e : (c :: r).take (s :: S).length = s :: S := eq_of_beq hp
  rw [List.length_cons, List.take_succ_cons] at e
  injection e with e1 e2
  exact absurd e1 h
theorem getElem_drop_cons {L : List Nat} {a : Nat} (h : a < L.length) : ∃ c, L.drop a = c :: L.drop (a + 1) := ⟨L[a], List.drop_eq_getElem_cons h⟩
theorem spl_run (S L : List Nat) : ∀ (m a : Nat) (acc : List Nat), a + m ≤ L.length -> (∀ k, a ≤ k -> k < a + m -> pre S (L.drop k) = false) ->
  spl S 0 acc (L.drop a) = spl S 0 (acc ++ (L.drop a).take m) (L.drop (a + m))
 | 0, a, acc, _, _ => by rw [List.take_zero, List.append_nil, Nat.add_zero]
 | m + 1, a, acc, h, hn => by
  have hlt : a < L.length := by omega
  obtain ⟨c, e⟩ := getElem_drop_cons hlt
  have h0 := hn a (Nat.le_refl _) (by omega)
  have ih := spl_run S L m (a + 1) (acc ++ [c]) (by omega) (fun k h1 h2 => hn k (by omega) (by omega))
  have e2 : a + 1 + m = a + (m + 1) := by omega
  rw [e2] at ih
  rw [e] at h0
  rw [e, spl_miss h0, ih, List.take_succ_cons, List.append_assoc] <;> rfl
theorem drop_two (L : List Nat) (a b : Nat) : (L.drop a).drop b = L.drop (a + b) := by
 first
  | rw [List.drop_drop]
  | rw [List.drop_drop, Nat.add_comm]
theorem spl_at {S L : List Nat} (hS : S ≠ []) {c : Nat} {acc : List Nat} (h : pre S (L.drop c) = true) : spl S 0 acc (L.drop c) = acc :: spl S 0 [] (L.drop (c + S.length)) := by
 rw [<- drop_two]
 cases e : L.drop c with
 | nil => rw [e, pre_nil hS] at h; cases h
 | cons d r =>
  rw [e] at h
  rw [spl_hit h, spl_pass]
  cases S with
  | nil => exact absurd rfl hS
  | cons s S => rfl
theorem at_iff {x y : Str} (hy : tl y ≠ []) (i : Nat) : At x y x.length i ↔ pre (tl y) ((tl x).drop i) = true := by
 have hx := len_tl x
 have hl := len_tl y
 constructor
 ·intro h
  have h2 := h.2
  rw [subAt_eq, hl] at h2
  exact h2
 ·intro h
  have e : ((tl x).drop i).take (tl y).length = tl y := eq_of_beq h
  have e1 := congrArg List.length e
  rw [List.length_take, List.length_drop] at e1
  have e2 : 0 < (tl y).length := List.length_pos_iff.mpr hy
  refine ⟨by omega, ?_⟩
  rw [subAt_eq, hl]
  exact h
theorem no_at {x y : Str} (hy : tl y ≠ []) {i : Nat} (h : ¬ At x y x.length i) : pre (tl y) ((tl x).drop i) = false := by
 cases hp : pre (tl y) ((tl x).drop i) with
 | false => rfl
 | true => exact absurd ((at_iff hy i).mpr hp) h
theorem len1 {y : Str} (hy : tl y ≠ []) : 1 ≤ y.length := by
 have e2 : 0 < (tl y).length := List.length_pos_iff.mpr hy
 rw [len_tl y]
 exact e2
theorem tl_strSub (x : Str) (i j : Nat) : tl (strSub x i j) = ((tl x).drop i).take (j - i) := strSub_toList x i j
theorem tl_strSub_end (x : Str) (i : Nat) : tl (strSub x i x.length) = (tl x).drop i := by
 rw [tl_strSub, len_tl x]
 exact List.take_of_length_le (by rw [List.length_drop] <;> omega)
theorem parts_spl {x y : Str} (hy : tl y ≠ []) : ∀ (cuts : List Nat) (a f : Nat), a ≤ (tl x).length -> ChainG x y x.length a cuts f -> (∀ k, f ≤ k -> ¬ At x y x.length k) ->
  (partsFrom x y.length a cuts).map tl = spl (tl y) 0 [] ((tl x).drop a)
 | [], a, f, ha, h, hn => by
  have e : f = a := h
  subst e
  show [tl (strSub x f x.length)] = _
  have run := spl_run (tl y) (tl x) ((tl x).length - f) f [] (by omega) (fun k h1 _ => no_at hy (hn k h1))
  have e2 : f + ((tl x).length - f) = (tl x).length := by omega
  rw [e2, List.drop_length, spl_nil, List.nil_append, List.take_of_length_le (by rw [List.length_drop] <;> omega)] at run
  rw [run, tl_strSub_end]
 | c :: r, a, f, ha, h, hn => by
  obtain ⟨h1, h2, h3, h4⟩ := h
  have hc : c + y.length ≤ x.length := h2.1
  have hx := len_tl x
  have hl := len_tl y
  have ih := parts_spl hy r (c + y.length) f (by omega) h4 hn
  show tl (strSub x a c) :: (partsFrom x y.length (c + y.length) r).map tl = _
  have run := spl_run (tl y) (tl x) (c - a) a [] (by omega) (fun k k1 k2 => no_at hy (h3 k k1 (by omega)))
  have e2 : a + (c - a) = c := by omega
  rw [e2, List.nil_append, spl_at hy ((at_iff hy c).mp h2)] at run
  rw [run, ih, tl_strSub, hl]
theorem split_spl (x y : Str) (hy : tl y ≠ []) (hk : ¬ Builtin.Str.strKind x < Builtin.Str.strKind y) : (Txt.split x y).map tl = spl (tl y) 0 [] (tl x) := by
 obtain ⟨f, g, hn⟩ := occ_tight x y (len1 hy)
 have key := parts_spl hy _ 0 f (Nat.zero_le _) g hn
 rw [List.drop_zero] at key
 have none_case : occurrences x y 0 x.length (x.length + 1) = [] -> [x].map tl = spl (tl y) 0 [] (tl x) := fun ho => by
  rw [ho] at key
  rw [<- key]
  show [tl x] = [tl (strSub x 0 x.length)]
  rw [sub_whole]
 unfold Txt.split
 by_cases h1 : (decide (x.length < y.length) || decide (Builtin.Str.strKind x < Builtin.Str.strKind y)) = true
 ·rw [if_pos h1]
  have hlt : x.length < y.length := by
   simp only [Bool.or_eq_true, decide_eq_true_eq] at h1
   rcases h1 with h | h
   ·exact h
   ·exact absurd h hk
  refine none_case ?_
  cases ho : occurrences x y 0 x.length (x.length + 1) with
  | nil => rfl
  | cons c r =>
   rw [ho] at g
   have hc : c + y.length ≤ x.length := g.2.1.1
   omega
 ·rw [if_neg h1]
  by_cases h2 : (occurrences x y 0 x.length (x.length + 1)).isEmpty = true
  ·rw [if_pos h2]
   exact none_case (List.isEmpty_iff.mp h2)
  ·rw [if_neg h2, partsBetween_eq]
   exact key
theorem kind_ok {x y : Str} (h : y.cps.all (· < 256) = true) : ¬ Builtin.Str.strKind x < Builtin.Str.strKind y := by
 have e : Builtin.Str.strKind y = 1 := by unfold PySem.Builtin.Str.strKind; rw [if_pos h]
 rw [e]
 unfold PySem.Builtin.Str.strKind
 split
 ·omega
 ·split <;> omega
def joinL (S : List Nat) : List (List Nat) -> List Nat
 | [] => []
 | [p] => p
 | p :: q :: r => p ++ (S ++ joinL S (q :: r))
theorem tl_join (y : Str) : ∀ parts : List Str, tl (Str.join y parts) = joinL (tl y) (parts.map tl)
 | [] => rfl
 | [_] => rfl
 | x :: z :: r => by
  show tl (x ++ y ++ Str.join y (z :: r)) = tl x ++ (tl y ++ joinL (tl y) ((z :: r).map tl))
  rw [tl_append, tl_append, tl_join y (z :: r), List.append_assoc]
theorem join_eq (y : Str) (parts : List Str) : Txt.join y parts = Str.join y parts := glued_eq_join y parts
end TL
end
namespace L2
open PySem PySem.Spec PyProof.Rows
theorem vals_strs : ∀ l : List (Str × Tok), Vals ((l.map (·.1)).map V.str) (strValues l)
 | [] => .nil
 | p :: r => .cons ⟨p.2, rfl⟩ (vals_strs r)
theorem strs_of_vals : ∀ {ys : List Str} {us : List Value}, Vals (ys.map V.str) us -> StrsAre us ys
 | [], _, .nil => .nil
 | y :: ys, _, .cons r t => by
  obtain ⟨k, rfl⟩ := r
  exact .cons y k (strs_of_vals t)
def rNewStrs (ys : List Str) : Hp -> VK -> Prop := fun H Q => ∀ p, H p = none -> Q (.ref p) (upd H p (.lst (ys.map V.str)))
section
variable {X : Cx} {pins : List (Addr × Obj)} {σ : St} {H : Hp} {s : Shared} {Q : VK}
theorem laid_strs {l : List (Str × Tok)} {ys : List Str} {k : Nat} (I : Inv X pins σ H s) (e : l.map (·.1) = ys) (hz : ys.length ≤ sizeLine) (h : rNewStrs ys H Q) :
  EP X pins σ Q (.ref s.heap.objs.size) { s with toks := k, heap := s.heap.push { cls := .type "list", data := .seq (strValues l).toArray } } := by
 have hp := I.hok.fresh (Nat.le_refl _)
 refine ⟨.ref s.heap.objs.size, upd H s.heap.objs.size (.lst (ys.map V.str)), I.laid (fun b u q => Heap.get?_push_of_some _ q) (Nat.le_refl _) ⟨by rw [List.length_map]; exact hz, strValues l, _, ?_, Heap.get?_push_size _ rfl⟩, rfl, h _ hp⟩
 rw [<- e]
 exact vals_strs l
end
section
variable {X : Cx}
theorem mt_split : MtR X "str.split" (fun x xs H Q => ∃ a b, x = .str a /\ xs = [.str b] /\ (b.length == 0) = false /\ a.length + 2 ≤ sizeLine /\ rNewStrs (Txt.split a b) H Q) := by
 intro pins s σ H x xs v us Q I rx rs h
 obtain ⟨a, b, rfl, rfl, hb, hz, h⟩ := h
 obtain ⟨t, rfl⟩ := rx
 cases rs with
 | cons r1 rs =>
  cases rs
  obtain ⟨u, rfl⟩ := r1
  have hl : (Txt.split a b).length ≤ sizeLine := Nat.le_trans (PyProof.Rows.split_le a b) hz
  have hn : (Builtin.Str.partsBetween a (Builtin.Str.occurrences a b 0 a.length (a.length + 1)) b.length).length ≤ sizeLine := by
   have e1 := StrLaws.occ_length_le a b 0 a.length (a.length + 1)
   rw [length_partsBetween]; omega
  cases h1 : (decide (a.length < b.length) || decide (Builtin.Str.strKind a < Builtin.Str.strKind b))
  ·cases hf : (Builtin.Str.occurrences a b 0 a.length (a.length + 1)).isEmpty
   ·refine call_meets F.slot_str_split (typeIs_str _ _ _) F.entry_str_split (F.args_str_split_2 _ _) (meets_str_split_sep a b t u h1 hb hf (by omega) hn) ?_
    show EP X pins σ Q (.ref s.heap.objs.size) { s with toks := _, heap := s.heap.push { cls := .type "list", data := .seq (strsFrom s.toks (Builtin.Str.partsBetween a (Builtin.Str.occurrences a b 0 a.length (a.length + 1)) b.length)).toArray } }
    rw [strsFrom_eq]
    exact laid_strs (ys := Txt.split a b) I ((numbered_texts _ _).trans ((if_neg (ne_true_of_eq_false h1)).trans (if_neg (ne_true_of_eq_false hf))).symm) hl h
   ·refine call_meets F.slot_str_split (typeIs_str _ _ _) F.entry_str_split (F.args_str_split_2 _ _) (meets_str_split_not_found a b t u h1 hb hf) ?_
    exact laid_strs (l := [(a, t)]) (ys := Txt.split a b) (k := s.toks) I ((if_neg (ne_true_of_eq_false h1)).trans (if_pos hf)).symm hl h
  ·refine call_meets F.slot_str_split (typeIs_str _ _ _) F.entry_str_split (F.args_str_split_2 _ _) (meets_str_split_cannot_occur a b t u h1) ?_
   exact laid_strs (l := [(a, t)]) (ys := Txt.split a b) (k := s.toks) I (if_pos h1).symm hl h
theorem mt_join : MtR X "str.join" (fun x xs H Q => ∃ a p, ∃ ys : List Str, x = .str a /\ xs = [.ref p] /\ (SqL X.K H p (ys.map V.str) \/ SqT X.K H p (ys.map V.str)) /\
  (ys.map (·.length)).sum + ys.length * a.length ≤ 16777216 /\ Q (.str (Txt.join a ys)) H) := by
 intro pins s σ H x xs v us Q I rx rs h
 obtain ⟨a, p, ys, rfl, rfl, hp, hz, h⟩ := h
 obtain ⟨t, rfl⟩ := rx
 cases rs with
 | cons r1 rs =>
  cases rs
  cases r1
  rcases hp with hp | hp
  ·obtain ⟨its, r, ⟨o, n, ho, hc, _, hd⟩, _⟩ := I.list hp
   exact PyProof.Rows.join_list (items := its.toArray) ⟨o, ho, hc, n, hd⟩ (by rw [List.toList_toArray]; exact strs_of_vals r) hz fun t' k => ⟨.str _, H, I.tok k, ⟨t', rfl⟩, h⟩
  ·obtain ⟨its, r, ht, _⟩ := I.tuple hp
   exact PyProof.Rows.join_tuple (items := its.toArray) ht (by rw [List.toList_toArray]; exact strs_of_vals r) hz fun t' k => ⟨.str _, H, I.tok k, ⟨t', rfl⟩, h⟩
theorem mt0 {id : String} {C : Str -> Prop} {g : Str -> V} (rule : ∀ (a : Str) (t : Tok) (s : Shared) (Q : Value -> Shared -> Prop), C a -> (∀ (u : Value) (k : Nat), RelV (g a) u -> Q u { s with toks := k }) ->
  wpAny (model X.prog X.w) X.A (call (.builtin id) [.str a t]) Q X.xe s) : MtR X id (fun x xs H Q => ∃ a, x = .str a /\ xs = [] /\ C a /\ Q (g a) H) := by
 intro pins s σ H x xs v us Q I rx rs h
 obtain ⟨a, rfl, rfl, hc, h⟩ := h
 obtain ⟨t, rfl⟩ := rx
 cases rs
 exact rule a t s _ hc fun u k r => ⟨g a, H, I.tok k, r, h⟩
theorem mt_isdigit : MtR X "str.isdigit" (fun x xs H Q => ∃ a, x = .str a /\ xs = [] /\ True /\ Q (.bl (Txt.isdigit a)) H) :=
 mt0 (C := fun _ => True) (g := fun a => .bl (Txt.isdigit a)) fun _ _ s _ _ h => PySem.SC.isdigit (h _ s.toks rfl)
theorem mt1 {id : String} {g : Str -> Str -> V} (rule : ∀ (a b : Str) (t u : Tok) (s : Shared) (Q : Value -> Shared -> Prop), (∀ (v : Value) (k : Nat), RelV (g a b) v -> Q v { s with toks := k }) ->
  wpAny (model X.prog X.w) X.A (call (.builtin id) [.str a t, .str b u]) Q X.xe s) : MtR X id (fun x xs H Q => ∃ a b, x = .str a /\ xs = [.str b] /\ Q (g a b) H) := by
 intro pins s σ H x xs v us Q I rx rs h
 obtain ⟨a, b, rfl, rfl, h⟩ := h
 obtain ⟨t, rfl⟩ := rx
 cases rs with
 | cons r1 rs =>
  cases rs
  obtain ⟨u, rfl⟩ := r1
  exact rule a b t u s _ fun v k r => ⟨g a b, H, I.tok k, r, h⟩
theorem mt_startswith : MtR X "str.startswith" (fun x xs H Q => ∃ a b, x = .str a /\ xs = [.str b] /\ Q (.bl (Txt.startswith a b)) H) :=
 mt1 (g := fun a b => .bl (Txt.startswith a b)) fun _ _ _ _ s _ h => PySem.SC.startswith (h _ s.toks rfl)
theorem mt_endswith : MtR X "str.endswith" (fun x xs H Q => ∃ a b, x = .str a /\ xs = [.str b] /\ Q (.bl (Txt.endswith a b)) H) :=
 mt1 (g := fun a b => .bl (Txt.endswith a b)) fun _ _ _ _ s _ h => PySem.SC.endswith (h _ s.toks rfl)
theorem call_int_str : CallR X (.type "int") (fun xs H Q => ∃ a n, xs = [.str a] /\ PySem.intText? a = some n /\ a.length ≤ 640 /\ Q (.int n) H) := by
 intro pins s σ H xs us Q I rs h
 obtain ⟨a, n, rfl, hn, hl, h⟩ := h
 cases rs with
 | cons r1 rs =>
  cases rs
  obtain ⟨t, rfl⟩ := r1
  exact PySem.W.KIN.call_text hn hl ⟨.int n, H, I.tok _, ⟨_, rfl⟩, h⟩
end
section
variable {X : Cx} {o e : Expr} {to te : TE}
def tM0 (r : V -> List V -> Hp -> VK -> Prop) (to : TE) : TE := fun σ H Q => to σ H fun x H1 => (∃ a, x = .str a) /\ r x [] H1 Q
def tM1 (r : V -> List V -> Hp -> VK -> Prop) (to te : TE) : TE := fun σ H Q => to σ H fun x H1 => (∃ a, x = .str a) /\ te σ H1 fun y H2 => r x [y] H2 Q
theorem pe_m0 {id : String} {name : Str} {apos pos : Pos} {r : V -> List V -> Hp -> VK -> Prop} (slot : Slot "str" name id) (ty : typeOf (.builtin id) = pure (.type "method_descriptor")) (rule : MtR X id r) (ho : PE X o to)
  (hbase : attributeBase o name X.env (eval o X.env) = eval o X.env := by rfl) (hline : (apos.endLine == pos.line) = true := by rfl) : PE X (.Call (.Attribute o name apos) [] [] pos) (tM0 r to) := by
 intro pins s σ H Q I h
 refine PySem.Call_method0 hbase hline (thn (ho pins s σ H _ I h) fun v s1 ⟨x, H1, I1, r1, q1⟩ => ?_)
 obtain ⟨⟨a, rfl⟩, q1⟩ := q1
 obtain ⟨t, rfl⟩ := _root_.id r1
 exact ⟨"str", _, F.plainAttrs_str, slot, ty, typeIs_str _ _ _, (fun _ e => nomatch e), Calls.callWith_builtin rfl (PySem.evalArgs_none (rule pins s1 σ H1 _ [] _ [] Q I1 r1 .nil q1))⟩
theorem pe_m1 {id : String} {name : Str} {apos pos : Pos} {r : V -> List V -> Hp -> VK -> Prop} (slot : Slot "str" name id) (ty : typeOf (.builtin id) = pure (.type "method_descriptor")) (rule : MtR X id r) (ho : PE X o to) (he : PE X e te)
  (hs : starEach [e] X.env = [(false, eval e X.env)] := by rfl) (hbase : attributeBase o name X.env (eval o X.env) = eval o X.env := by rfl) (hline : (apos.endLine == pos.line) = true := by rfl) :
  PE X (.Call (.Attribute o name apos) [e] [] pos) (tM1 r to te) := by
 intro pins s σ H Q I h
 refine PySem.Call_method1 hbase hs hline (thn (ho pins s σ H _ I h) fun v s1 ⟨x, H1, I1, r1, q1⟩ => ?_)
 obtain ⟨⟨a, rfl⟩, q1⟩ := q1
 obtain ⟨t, rfl⟩ := _root_.id r1
 refine ⟨"str", _, F.plainAttrs_str, slot, ty, typeIs_str _ _ _, (fun _ e => nomatch e), Calls.callWith_builtin rfl (Calls.evalArgs_plain (Calls.spliced_cons ?_))⟩
 exact thn (he pins s1 σ H1 _ I1 q1) fun u s2 ⟨y, H2, I2, r2, q2⟩ => Calls.spliced_nil (rule pins s2 σ H2 _ [y] _ [u] Q I2 r1 (.cons r2 .nil) q2)
theorem pe_split {apos pos : Pos} (ho : PE X o to) (he : PE X e te) (hs : starEach [e] X.env = [(false, eval e X.env)] := by rfl) (hbase : attributeBase o "split" X.env (eval o X.env) = eval o X.env := by rfl) (hline : (apos.endLine == pos.line) = true := by rfl) :
  PE X (.Call (.Attribute o "split" apos) [e] [] pos) (tM1 (fun x xs H Q => ∃ a b, x = .str a /\ xs = [.str b] /\ (b.length == 0) = false /\ a.length + 2 ≤ sizeLine /\ rNewStrs (Txt.split a b) H Q) to te) :=
 pe_m1 F.slot_str_split F.type_str_split mt_split ho he hs hbase hline
theorem pe_join {apos pos : Pos} (ho : PE X o to) (he : PE X e te) (hs : starEach [e] X.env = [(false, eval e X.env)] := by rfl) (hbase : attributeBase o "join" X.env (eval o X.env) = eval o X.env := by rfl) (hline : (apos.endLine == pos.line) = true := by rfl) :
  PE X (.Call (.Attribute o "join" apos) [e] [] pos) (tM1 (fun x xs H Q => ∃ a p, ∃ ys : List Str, x = .str a /\ xs = [.ref p] /\ (SqL X.K H p (ys.map V.str) \/ SqT X.K H p (ys.map V.str)) /\
   (ys.map (·.length)).sum + ys.length * a.length ≤ 16777216 /\ Q (.str (Txt.join a ys)) H) to te) :=
 pe_m1 F.slot_str_join F.type_str_join mt_join ho he hs hbase hline
end
end L2
namespace L2
open PySem PySem.Spec PyProof.Rows
section
variable {X : Cx}
theorem op_in_sign : OpR X (compareOp .In) (fun x y H Q => ∃ (c : Nat) (z : Str), x = .str ⟨#[c]⟩ /\ y = .str z /\ Q (.bl (decide (c ∈ z.cps.toList))) H) := by
 intro pins s σ H x y v u Q I rx ry h
 obtain ⟨c, z, rfl, rfl, q⟩ := h
 obtain ⟨t, rfl⟩ := rx
 obtain ⟨t', rfl⟩ := ry
 exact PyProof.Rows.in_str (fin_bl I q (PySem.StrLaws.found_one z c).symm)
end
theorem IsPart.raw {v : Value} {o : Option Int} (p : IsPart v o) : ∃ l : Option (Int × Tok), v = partValue l /\ l.map (·.1) = o := by
 cases p with
 | none => exact ⟨none, rfl, rfl⟩
 | int i t => exact ⟨some (i, t), rfl, rfl⟩
def clipS (n d : Nat) : Option Int -> Int
 | none => (d : Int)
 | some i => max 0 (min (if i < 0 then i + (n : Int) else i) (n : Int))
theorem clipS_eq (n d : Nat) (o : Option Int) : clipS n d o = ((HT.sIx n d o : Nat) : Int) := by
 cases o with
 | none => rfl
 | some v =>
  show max (0 : Int) (min (if v < 0 then v + (n : Int) else v) (n : Int)) = (((if v < 0 then (v + (n : Int)).toNat else min v.toNat n) : Nat) : Int)
  by_cases hv : v < 0
  ·simp only [if_pos hv]
   omega
  ·simp only [if_neg hv]
   omega
theorem sidx_clip (a b : Option Int) (n : Nat) : Builtin.Str.strSliceIndices a b 1 n = sliceRange (clipS n 0 a) (clipS n n b) 1 := by
 have h1 : ((1 : Int) > 0) = True := by simp
 cases a <;> cases b <;> first
  | rfl
  | (simp only [Builtin.Str.strSliceIndices, clipS, h1, if_true]; rfl)
  | simp [Builtin.Str.strSliceIndices, clipS]
theorem sidx (a b : Option Int) (n : Nat) : Builtin.Str.strSliceIndices a b 1 n = (List.range (HT.sIx n n b - HT.sIx n 0 a)).map (fun k => HT.sIx n 0 a + k) := by
 rw [sidx_clip, clipS_eq, clipS_eq]
 generalize HT.sIx n 0 a = p
 generalize HT.sIx n n b = q
 simp only [sliceRange, show ((1 : Int) > 0) = True from by simp, if_true]
 by_cases hlt : (p : Int) < q
 ·have e3 : (((q : Int) - p + 1 - 1) / 1).toNat = q - p := by first | omega | (simp; done) | (simp; omega)
  simp only [hlt, if_true, e3]
  refine List.map_congr_left fun k _ => ?_
  omega
 ·have : q - p = 0 := by omega
  simp [hlt, this]
def cutS (z : Str) (lo hi : Option Int) : Str :=
 ⟨((z.cps.toList.drop (HT.sIx z.length 0 lo)).take (HT.sIx z.length z.length hi - HT.sIx z.length 0 lo)).toArray⟩
theorem sliceText_cut (z : Str) (lo hi : Option Int) : PySem.StrLaws.sliceText z lo hi = cutS z lo hi := by
 have h1 : HT.sIx z.length 0 lo ≤ z.length := HT.sIx_le _ _ (Nat.zero_le _) _
 have h2 : HT.sIx z.length z.length hi ≤ z.length := HT.sIx_le _ _ (Nat.le_refl _) _
 have hp : HT.sIx z.length 0 lo ≤ max (HT.sIx z.length 0 lo) (HT.sIx z.length z.length hi) := Nat.le_max_left _ _
 have hq : max (HT.sIx z.length 0 lo) (HT.sIx z.length z.length hi) ≤ z.length := Nat.max_le.mpr ⟨h1, h2⟩
 have hd : max (HT.sIx z.length 0 lo) (HT.sIx z.length z.length hi) - HT.sIx z.length 0 lo = HT.sIx z.length z.length hi - HT.sIx z.length 0 lo := by omega
 have e : Builtin.Str.strSliceIndices lo hi 1 z.length =
   Builtin.Str.strSliceIndices (some ((HT.sIx z.length 0 lo : Nat) : Int)) (some ((max (HT.sIx z.length 0 lo) (HT.sIx z.length z.length hi) : Nat) : Int)) 1 z.length := by
  rw [PySem.StrLaws.strSliceIndices_plain hp hq, hd, sidx]
 have e2 : PySem.StrLaws.sliceText z lo hi =
   PySem.StrLaws.sliceText z (some ((HT.sIx z.length 0 lo : Nat) : Int)) (some ((max (HT.sIx z.length 0 lo) (HT.sIx z.length z.length hi) : Nat) : Int)) := by
  unfold PySem.StrLaws.sliceText
  rw [e]
 rw [e2, PySem.StrLaws.sliceText_nat z hp hq, hd]
 rfl
theorem cutS_length (z : Str) (lo hi : Option Int) : (cutS z lo hi).length ≤ z.length := by
 show (((z.cps.toList.drop (HT.sIx z.length 0 lo)).take (HT.sIx z.length z.length hi - HT.sIx z.length 0 lo)).toArray).size ≤ z.cps.size
 rw [List.size_toArray, List.length_take, List.length_drop, Array.length_toList]
 omega
def rSlS : V -> Option Int -> Option Int -> Hp -> VK -> Prop := fun x lo hi H Q => ∃ z, x = .str z /\ z.length ≤ sizeLine /\ Q (.str (cutS z lo hi)) H
theorem sl_str {X : Cx} : SlR X rSlS := by
 intro pins s σ H x v vl vu lo hi sl Q I rx hs pl pu h
 obtain ⟨z, rfl, hz, q⟩ := h
 obtain ⟨t, rfl⟩ := rx
 obtain ⟨os, hos, hcs, hds⟩ := hs
 obtain ⟨l, rfl, rfl⟩ := IsPart.raw pl
 obtain ⟨u, rfl, rfl⟩ := IsPart.raw pu
 refine ⟨"str", _, F.slot_str_getitem.lookup, typeIs_str _ _ _, ?_⟩
 refine wpAny_getItem_str_slice (l := l) (u := u) (st := none) ⟨os, hos, hcs, hds⟩ rfl ?_
 have hl : (PySem.StrLaws.sliceText z (l.map (·.1)) (u.map (·.1))).length ≤ sizeLine := by
  rw [sliceText_cut]
  exact Nat.le_trans (cutS_length z _ _) hz
 rw [<- sliceText_cut] at q
 unfold PySem.StrLaws.sliceText at q hl
 show Made.post (if ((1 : Int) == 1 && (Builtin.Str.strSliceIndices (l.map (·.1)) (u.map (·.1)) 1 z.length).length == z.length) = true then Made.val (.str z t)
  else Made.str ⟨((Builtin.Str.strSliceIndices (l.map (·.1)) (u.map (·.1)) 1 z.length).filterMap (z.cps[·]?)).toArray⟩) (EP X pins σ Q) s
 by_cases c : ((1 : Int) == 1 && (Builtin.Str.strSliceIndices (l.map (·.1)) (u.map (·.1)) 1 z.length).length == z.length) = true
 ·rw [if_pos c] at q ⊢
  exact ⟨.str z, H, I, ⟨t, rfl⟩, q⟩
 ·rw [if_neg c] at q hl ⊢
  exact ⟨hl, .str _, H, I.tok _, ⟨_, rfl⟩, q⟩
end L2
namespace Att
open PySem PySem.W PySem.Calls PyProof.Rows
end Att
namespace L2
open PySem PySem.Spec PyProof.Rows
end L2
namespace L2
open PySem PySem.Spec PyProof.Rows
end L2
/- THE LAST THEOREM (shape; LID, My.* are yours):
   My.Adr: a structure of the addresses that your layer names (classes, functions); My.Txt K t: a structure (Prop) of the equations over K;
   My.txt_mk : {K} {implicit addresses ..} (e1 : nsIn K mainGlobals "law" = some (some (.ref f))) (e2 : K.lookup f = some ⟨oc, od, .func (fnOf "law" "law" params body scope dV kV doc pm an cdv ct), sl⟩) (e3 : codeIn K cdv "law" = true) .. : ∃ t, My.Txt K t
set_option maxRecDepth 100000 in
set_option maxHeartbeats 0 in
theorem PySem.Challenge.cw_LID_holds : PySem.Challenge.rw_LID.Holds := by
 w_on; o_law; k_head; (case hw => w_witness2)
 k_fill
 refine L2.walk_of (l := PySem.Challenge.rw_LID) (n := 63) (k := 40) (x := "script") (CX := fun w => ..) (sp := fun _ => My.sp_law) rfl (by decide) rfl ⟨rfl, by decide, by decide⟩ (fun w h Y => PySem.W.kIn_of Y) ?F ?S ?C
 case F =>
  intro w mg fa h KX G hmg
  have T : ∃ t, My.Txt (L2.KOf KX) t := by
   dsimp only [L2.KOf]                          -- K must stand as «<heap const> w.params» for k_is
   refine' My.txt_mk ?e1 ?e2 ?e3 ..
   (case e1 => PySem.W.k_is)                    -- in the order: a name -> its address -> its object -> its parts
   (case e2 => PySem.W.k_is)
   ..
  obtain ⟨t, T⟩ := T
  have e0 := hmg.symm.trans (PySem.W.mg_of KX G T.law)
  cases e0                                       -- fa is the law's own address
  exact ⟨_, fun s u => .of_eq rfl, fun base kb nb => My.law_fn T kb nb⟩     -- if «.of_eq rfl» comes too early: refine' ⟨_, ?b, fun base kb nb => My.law_fn T kb nb⟩; exact fun s u => .of_eq rfl
 case S => exact fun w H a ns hl hO hS => ..
 case C => exact ..
(the tactic k_is has no namespace: write k_is) -/
namespace L2
open PySem PySem.Spec PyProof.Rows
def inClass (s : Stmt) (j : Nat) : Stmt := match s with
 | .ClassDef _ _ _ body _ _ _ _ _ _ _ => body.getD j (.Pass ⟨0, 0, 0, 0⟩)
 | _ => .Pass ⟨0, 0, 0, 0⟩
def defArgs (s : Stmt) : Arguments := match s with
 | .FunctionDef _ a _ _ _ _ _ _ _ _ => a
 | _ => { posonlyargs := [], args := [], vararg := none, kwonlyargs := [], kw_defaults := [], kwarg := none, defaults := [] }
def defBody (s : Stmt) : List Stmt := match s with
 | .FunctionDef _ _ b _ _ _ _ _ _ _ => b
 | _ => []
def defScope (s : Stmt) : Scope := match s with
 | .FunctionDef _ _ _ _ _ _ sc _ _ _ => sc
 | _ => { kind := .function, names := [], isGenerator := false, isCoroutine := false }
abbrev CX0 : CXT := fun _ _ _ _ _ _ => False
abbrev E0 : XK := fun _ _ _ => False
theorem pass0 {X : Cx} : Passes CX0 X E0 := fun _ _ _ _ _ _ _ h => h.elim
structure Fun (K : PySem.W.Frag) (x qual : Str) (st : Stmt) (f : Addr) (fd : FuncData) : Prop where
 ex : ∃ (oc : Value) (od : Option Addr) (kV doc pm : Value) (an : Option Addr) (cdv ct : Value) (osl : Array (Option Value)),
  fd = PySem.W.fnOf x qual (defArgs st) (defBody st) (defScope st) .none kV doc pm an cdv ct /\ K.lookup f = some ⟨oc, od, .func fd, osl⟩ /\ PySem.W.codeIn K cdv qual = true
 kp : PySem.W.keepIn K (.ref f) = true
section
variable {P : Program} {w : World} {K : PySem.W.Frag} {mg : Str -> Option Value} {base : Heap}
theorem Fun.ok {x qual : Str} {st : Stmt} {f : Addr} {fd : FuncData} {N ps : List Str} {k : Nat} {sp : Sp} (F : Fun K x qual st f fd) (S : FnScope N ps (defScope st)) (len : ∀ vs H Q E, sp vs H Q E -> vs.length = ps.length)
  (hbody : ∀ (cdv : Value) (A : Around) (outer : List Env) (s : Shared) (H : Hp) (vs : List V) (Q : VK) (E : XK), Room k (A.deeper (envOfC qual (defScope st) s.heap.objs.size f cdv)) -> sp vs H Q E ->
   ∃ t, PSs (cxOf CX0 P w K mg base N qual (defScope st) f cdv A outer s H E).nox (defBody st) t /\ t { nx := fun _ H' => Q .non H', rt := Q } (start N vs) H) : FnOk P w K mg base CX0 (k + 1) f fd ps sp := by
 obtain ⟨oc, od, kV, doc, pm, an, cdv, ct, osl, rfl, lk, hcd⟩ := F.ex
 refine fn_of lk hcd S len fun A outer s H vs Q E hr hsp => ?_
 obtain ⟨t, h, q⟩ := hbody cdv A outer s H vs Q E hr hsp
 exact ⟨t, h.nox, q⟩
theorem Fun.binds {x qual : Str} {st : Stmt} {f : Addr} {fd : FuncData} {ps : List Str} (F : Fun K x qual st f fd)
  (h : ∀ (kV doc pm : Value) (an : Option Addr) (cdv ct : Value) (us : List Value), us.length = ps.length -> bindArgs (PySem.W.fnOf x qual (defArgs st) (defBody st) (defScope st) .none kV doc pm an cdv ct) ⟨us, []⟩ = pure (ps.zip us)) : Binds K fd ps [] := by
 obtain ⟨oc, od, kV, doc, pm, an, cdv, ct, osl, rfl, lk, hcd⟩ := F.ex
 exact .all (h kV doc pm an cdv ct)
theorem fun_mk {x qual : Str} {st : Stmt} {f : Addr} {oc : Value} {od an : Option Addr} {osl : Array (Option Value)} {kV doc pm cdv ct : Value} (l : K.lookup f = some ⟨oc, od, .func (PySem.W.fnOf x qual (defArgs st) (defBody st) (defScope st) .none kV doc pm an cdv ct), osl⟩)
  (c : PySem.W.codeIn K cdv qual = true) (k : PySem.W.keepIn K (.ref f) = true) : Fun K x qual st f (PySem.W.fnOf x qual (defArgs st) (defBody st) (defScope st) .none kV doc pm an cdv ct) := ⟨⟨oc, od, kV, doc, pm, an, cdv, ct, osl, rfl, l, c⟩, k⟩
end
section
variable {X : Cx}
theorem pv (i : Nat) {x : Str} {pos : Pos} (hN : X.N[i]? = some x := by rfl) (hv : Vis X.env.scope x := by first | exact Or.inl rfl | exact Or.inr (Or.inl rfl) | exact Or.inr (Or.inr rfl)) (hd : (x == ("__debug__" : Str)) = false := by decide)
  (hcd : (x == ("__classdict__" : Str)) = false := by decide) : PE X (.Name x pos) (tVar i) := pe_var hN hv hd hcd
end
theorem iteF {A B : Prop} (h : B) : if false = true then A else B := by
 rw [if_neg Bool.false_ne_true]
 exact h
theorem iteT {A B : Prop} (h : A) : if true = true then A else B := by
 rw [if_pos rfl]
 exact h
def Same (H H' : Hp) : Prop := ∀ b o, H b = some o -> H' b = some o
theorem Same.refl (H : Hp) : Same H H := fun _ _ h => h
theorem Same.trans {H H1 H2 : Hp} (a : Same H H1) (b : Same H1 H2) : Same H H2 := fun c o h => b c o (a c o h)
theorem Same.free {H H' : Hp} (e : Same H H') {l : Addr} (h : H' l = Option.none) : H l = Option.none := by
 cases q : H l with
 | none => rfl
 | some o =>
  rw [e l o q] at h
  cases h
theorem Same.seq {K : PySem.W.Frag} {H H' : Hp} {a : Addr} {xs : List V} (e : Same H H') (h : SqL K H a xs) : SqL K H' a xs := by
 rcases h with (h | ⟨o, h⟩) | h
 ·exact .inl (.inl (e _ _ h))
 ·exact .inl (.inr ⟨o, e _ _ h⟩)
 ·exact .inr h
theorem at_of {xs : List V} {z : Int} {j : Nat} {v : V} (e : z = (j : Int)) (h : xs[j]? = some v) : atI xs z = some v := by
 rw [e]
 exact atI_nat h
end L2
section
set_option Elab.async false
set_option linter.all false
set_option maxRecDepth 100000
set_option maxHeartbeats 2000000
namespace L2
open PySem PySem.Spec PyProof.Rows
open PySem.W (WData Codec OpenSpec Well WellAll ReadsW ReadsAllW)
mutual
inductive Dw (K : PySem.W.Frag) (H : Hp) : V -> WData -> Prop
 | non : Dw K H .non .none
 | bl (b : Bool) : Dw K H (.bl b) (.bool b)
 | int (i : Int) : Dw K H (.int i) (.int i)
 | str (x : Str) : Dw K H (.str x) (.str x)
 | byt (b : Array UInt8) : Dw K H (.byt b) (.bytes b.toList)
 | lst {a : Addr} {xs : List V} {ds : List WData} : SqL K H a xs -> DwAll K H xs ds -> Dw K H (.ref a) (.list ds)
 | tup {a : Addr} {xs : List V} {ds : List WData} : SqT K H a xs -> DwAll K H xs ds -> Dw K H (.ref a) (.tuple ds)
inductive DwAll (K : PySem.W.Frag) (H : Hp) : List V -> List WData -> Prop
 | nil : DwAll K H [] []
 | cons {v : V} {vs : List V} {d : WData} {ds : List WData} : Dw K H v d -> DwAll K H vs ds -> DwAll K H (v :: vs) (d :: ds)
end
theorem dw_ints {K : PySem.W.Frag} {H : Hp} : ∀ ns : List Int, DwAll K H (ns.map V.int) (ns.map WData.int)
 | [] => .nil
 | n :: r => .cons (.int n) (dw_ints r)
theorem ints_dw {K : PySem.W.Frag} {H : Hp} : ∀ (ns : List Int) (xs : List V), DwAll K H xs (ns.map WData.int) -> xs = ns.map V.int
 | [], xs, h => by
  cases h
  rfl
 | n :: r, xs, h => by
  cases h with
  | cons h1 h2 =>
   cases h1
   rw [ints_dw r _ h2] <;> rfl
section
variable {P : Program} {w : World} {K : PySem.W.Frag} {H : Hp} {h : Heap} {R : PySem.W.WRecords} {cl : Str -> Option Addr}
theorem sqL_at {a : Addr} {xs : List V} (hok : HOk P w H h) (KX : K.In h) (q : SqL K H a xs) : ∃ (its : List Value) (o : Obj) (n : Nat), Vals xs its /\ h.get? a = some o /\ o.cls = .type "list" /\ o.data = .seq its.toArray n := by
 rcases q with q | ⟨o, its, n, e, hc, _, hd, _, hv⟩
 ·obtain ⟨_, its, n, hv, e⟩ := (show ObjOk P w H h a (.lst xs) from q.ok hok)
  exact ⟨its, _, n, hv, e, rfl, rfl⟩
 ·exact ⟨its.toList, o, n, hv, KX _ _ e, hc, by simp [hd]⟩
theorem sqT_at {a : Addr} {xs : List V} (hok : HOk P w H h) (KX : K.In h) (q : SqT K H a xs) : ∃ (its : List Value) (o : Obj) (n : Nat), Vals xs its /\ h.get? a = some o /\ o.cls = .type "tuple" /\ o.data = .seq its.toArray n := by
 rcases q with q | ⟨o, its, n, e, hc, hd, _, hv⟩
 ·obtain ⟨_, its, hv, o, e, hc, n, hd⟩ := (show ObjOk P w H h a (.tup xs) from q.ok hok)
  exact ⟨its, o, n, hv, e, hc, hd⟩
 ·exact ⟨its.toList, o, n, hv, KX _ _ e, hc, by simp [hd]⟩
mutual
theorem Dw.reads (hok : HOk P w H h) (KX : K.In h) : ∀ (d : WData) (v : V) (u : Value), Dw K H v d -> RelV v u -> ∃ as, ReadsW R cl h u d as
 | .none, _, _, x, r => by
  cases x
  cases r
  exact ⟨_, ReadsW.none⟩
 | .bool b, _, _, x, r => by
  cases x
  cases r
  exact ⟨_, ReadsW.bool b⟩
 | .int i, _, _, x, r => by
  cases x
  obtain ⟨t, rfl⟩ := r
  exact ⟨_, ReadsW.int i t⟩
 | .str s, _, _, x, r => by
  cases x
  obtain ⟨t, rfl⟩ := r
  exact ⟨_, ReadsW.str s t⟩
 | .bytes b, _, _, x, r => by
  cases x
  obtain ⟨t, rfl⟩ := r
  exact ⟨_, ReadsW.bytes _ t⟩
 | .list ds, _, _, x, r => by
  cases x with
  | lst hs ha =>
   cases r
   obtain ⟨its, o, n, rv, ho, hc, hd⟩ := sqL_at hok KX hs
   obtain ⟨as, hr⟩ := Dw.readsAll hok KX ds _ its ha rv
   exact ⟨_, ReadsW.list ho hc hd hr⟩
 | .tuple ds, _, _, x, r => by
  cases x with
  | tup hs ha =>
   cases r
   obtain ⟨its, o, n, rv, ho, hc, hd⟩ := sqT_at hok KX hs
   obtain ⟨as, hr⟩ := Dw.readsAll hok KX ds _ its ha rv
   exact ⟨_, ReadsW.tuple ho hc hd hr⟩
 | .float _, _, _, x, _ => by cases x
 | .dict _, _, _, x, _ => by cases x
 | .bytearray _, _, _, x, _ => by cases x
 | .set _, _, _, x, _ => by cases x
 | .frozenset _, _, _, x, _ => by cases x
 | .obj _ _, _, _, x, _ => by cases x
theorem Dw.readsAll (hok : HOk P w H h) (KX : K.In h) : ∀ (ds : List WData) (vs : List V) (us : List Value), DwAll K H vs ds -> Vals vs us -> ∃ as, ReadsAllW R cl h us ds as
 | [], _, _, x, r => by
  cases x
  cases r
  exact ⟨_, ReadsAllW.nil⟩
 | d :: ds, _, _, x, r => by
  cases x with
  | cons h1 h2 =>
   cases r with
   | cons r1 r2 =>
    obtain ⟨as, q1⟩ := Dw.reads hok KX d _ _ h1 r1
    obtain ⟨bs, q2⟩ := Dw.readsAll hok KX ds _ _ h2 r2
    exact ⟨_, ReadsAllW.cons q1 q2⟩
end
end
mutual
def plW : WData -> Bool
 | .none => true
 | .bool _ => true
 | .int _ => true
 | .str _ => true
 | .bytes _ => true
 | .list xs => plWs xs
 | .tuple xs => plWs xs
 | _ => false
def plWs : List WData -> Bool
 | [] => true
 | x :: r => plW x && plWs r
end
theorem plWs_map {α : Type} {f : α -> WData} (h : ∀ a, plW (f a) = true) : ∀ l : List α, plWs (l.map f) = true
 | [] => rfl
 | x :: r => by
  show (plW (f x) && plWs (r.map f)) = true
  rw [h x, plWs_map h r] <;> rfl
theorem pl_enc : ∀ (c : Codec) (a : c.denote), plW (c.enc a) = true
 | .unit, _ => rfl
 | .bool, _ => rfl
 | .int _ _, _ => rfl
 | .nat _ _, _ => rfl
 | .u8, _ => rfl
 | .bytes _ _, _ => rfl
 | .text _ _ _ _, _ => rfl
 | .list _ _ c, a => plWs_map (fun x => pl_enc c x) a
 | .pair c d, a => by
  show (plW (c.enc a.1) && (plW (d.enc a.2) && true)) = true
  rw [pl_enc c a.1, pl_enc d a.2] <;> rfl
 | .triple c d e, a => by
  show (plW (c.enc a.1) && (plW (d.enc a.2.1) && (plW (e.enc a.2.2) && true))) = true
  rw [pl_enc c a.1, pl_enc d a.2.1, pl_enc e a.2.2] <;> rfl
 | .option c, none => rfl
 | .option c, some x => pl_enc c x
theorem pl_encAll : ∀ (cs : List Codec) (a : Codec.denoteAll cs), plWs (Codec.encAll cs a) = true
 | [], _ => rfl
 | c :: cs, a => by
  show (plW (c.enc a.1) && plWs (Codec.encAll cs a.2)) = true
  rw [pl_enc c a.1, pl_encAll cs a.2] <;> rfl
theorem weight_mem : ∀ {xs : List WData} {d : WData}, d ∈ xs -> d.weight ≤ WData.weightAll xs
 | [], d, h => absurd h (by simp)
 | x :: r, d, h => by
  show d.weight ≤ x.weight + 1 + WData.weightAll r
  rcases List.mem_cons.mp h with e | m
  ·rw [e]
   omega
  ·have z := weight_mem m
   omega
def toV : Value -> V
 | .none => .non
 | .bool b => .bl b
 | .int i _ => .int i
 | .str x _ => .str x
 | .bytes b _ => .byt b
 | .ref a => .ref a
 | _ => .non
def OkU (A : List Addr) : Value -> Prop
 | .none => True
 | .bool _ => True
 | .int _ _ => True
 | .str _ _ => True
 | .bytes _ _ => True
 | .ref a => a ∈ A
 | _ => False
theorem OkU.mono {A B : List Addr} (h : ∀ a ∈ A, a ∈ B) : ∀ {u : Value}, OkU A u -> OkU B u := fun {u} x => by
 cases u with
 | ref a => exact h a x
 | none => trivial
 | bool b => trivial
 | int i t => trivial
 | str s t => trivial
 | bytes b t => trivial
 | _ => exact False.elim x
theorem relV_toV {A : List Addr} {u : Value} (x : OkU A u) : RelV (toV u) u := by
 cases u with
 | ref a => rfl
 | none => rfl
 | bool b => rfl
 | int i t => exact ⟨t, rfl⟩
 | str s t => exact ⟨t, rfl⟩
 | bytes b t => exact ⟨t, rfl⟩
 | _ => exact False.elim x
theorem vals_toV {A : List Addr} : ∀ {vs : List Value}, (∀ u ∈ vs, OkU A u) -> Vals (vs.map toV) vs
 | [], _ => .nil
 | u :: r, h => .cons (relV_toV (h u (List.mem_cons_self ..))) (vals_toV fun x hx => h x (List.mem_cons_of_mem _ hx))
def ArgOb (h : Heap) (A : List Addr) (a : Addr) : Prop := ∃ vs : List Value, vs.length ≤ sizeLine /\ (∀ u ∈ vs, OkU A u) /\
 (h.get? a = some { cls := .type "list", data := .seq vs.toArray } \/ h.get? a = some { cls := .type "tuple", data := .seq vs.toArray })
theorem ArgOb.mono {h : Heap} {A B : List Addr} {a : Addr} (k : ∀ a ∈ A, a ∈ B) (x : ArgOb h A a) : ArgOb h B a := by
 obtain ⟨vs, h1, h2, h3⟩ := x
 exact ⟨vs, h1, fun u hu => (h2 u hu).mono k, h3⟩
theorem wellAll_len {P : Params} {h : Heap} : ∀ {vs : List Value} {ds : List WData}, WellAll P h vs ds -> vs.length = ds.length
 | _, _, .nil => rfl
 | _, _, .cons _ b => by
  show _ + 1 = _ + 1
  rw [wellAll_len b]
theorem well_list {P : Params} {h : Heap} {v : Value} {ds : List WData} (x : Well P h v (.list ds)) : ∃ (a : Addr) (vs : List Value), v = .ref a /\ h.get? a = some { cls := .type "list", data := .seq vs.toArray } /\ WellAll P h vs ds := by
 cases x with
 | list ho hall => exact ⟨_, _, rfl, ho, hall⟩
theorem well_tuple {P : Params} {h : Heap} {v : Value} {ds : List WData} (x : Well P h v (.tuple ds)) : ∃ (a : Addr) (vs : List Value), v = .ref a /\ h.get? a = some { cls := .type "tuple", data := .seq vs.toArray } /\ WellAll P h vs ds := by
 cases x with
 | tuple ho hall => exact ⟨_, _, rfl, ho, hall⟩
theorem well_cons {P : Params} {h : Heap} {us : List Value} {d : WData} {ds : List WData} (x : WellAll P h us (d :: ds)) : ∃ (v : Value) (vs : List Value), us = v :: vs /\ Well P h v d /\ WellAll P h vs ds := by
 cases x with
 | cons a b => exact ⟨_, _, rfl, a, b⟩
theorem line_of {n : Nat} (h : n ≤ 1048576) : n ≤ sizeLine := Nat.le_trans h (by decide)
section
variable {P : Params} {h : Heap}
mutual
theorem area_one : ∀ (d : WData) (v : Value), Well P h v d -> plW d = true -> d.weight ≤ 1048576 -> ∃ A : List Addr, OkU A v /\ ∀ a ∈ A, ArgOb h A a
 | .none, _, x, _, _ => by
  cases x
  exact ⟨[], trivial, fun a m => absurd m (by simp)⟩
 | .bool b, _, x, _, _ => by
  cases x
  exact ⟨[], trivial, fun a m => absurd m (by simp)⟩
 | .int i, _, x, _, _ => by
  cases x
  exact ⟨[], trivial, fun a m => absurd m (by simp)⟩
 | .str s, _, x, _, _ => by
  cases x
  exact ⟨[], trivial, fun a m => absurd m (by simp)⟩
 | .bytes b, _, x, _, _ => by
  cases x
  exact ⟨[], trivial, fun a m => absurd m (by simp)⟩
 | .list ds, _, x, p, z => by
  obtain ⟨a, vs, rfl, ho, hall⟩ := well_list x
  have z2 : WData.weightAll ds ≤ 1048576 := z
  obtain ⟨A, h1, h2⟩ := area_all ds _ hall p fun d hd => Nat.le_trans (weight_mem hd) z2
  have k : ∀ b ∈ A, b ∈ a :: A := fun b hb => List.mem_cons_of_mem _ hb
  refine ⟨a :: A, List.mem_cons_self .., fun b hb => ?_⟩
  rcases List.mem_cons.mp hb with e | m
  ·rw [e]
   exact ⟨vs, line_of (by rw [wellAll_len hall]; exact Nat.le_trans (PySem.W.length_le_weightAllW ds) z2), fun u hu => (h1 u hu).mono k, .inl ho⟩
  ·exact (h2 b m).mono k
 | .tuple ds, _, x, p, z => by
  obtain ⟨a, vs, rfl, ho, hall⟩ := well_tuple x
  have z2 : WData.weightAll ds ≤ 1048576 := z
  obtain ⟨A, h1, h2⟩ := area_all ds _ hall p fun d hd => Nat.le_trans (weight_mem hd) z2
  have k : ∀ b ∈ A, b ∈ a :: A := fun b hb => List.mem_cons_of_mem _ hb
  refine ⟨a :: A, List.mem_cons_self .., fun b hb => ?_⟩
  rcases List.mem_cons.mp hb with e | m
  ·rw [e]
   exact ⟨vs, line_of (by rw [wellAll_len hall]; exact Nat.le_trans (PySem.W.length_le_weightAllW ds) z2), fun u hu => (h1 u hu).mono k, .inr ho⟩
  ·exact (h2 b m).mono k
 | .float _, _, _, p, _ => Bool.noConfusion (show false = true from p)
 | .dict _, _, _, p, _ => Bool.noConfusion (show false = true from p)
 | .bytearray _, _, _, p, _ => Bool.noConfusion (show false = true from p)
 | .set _, _, _, p, _ => Bool.noConfusion (show false = true from p)
 | .frozenset _, _, _, p, _ => Bool.noConfusion (show false = true from p)
 | .obj _ _, _, _, p, _ => Bool.noConfusion (show false = true from p)
theorem area_all : ∀ (ds : List WData) (vs : List Value), WellAll P h vs ds -> plWs ds = true -> (∀ d ∈ ds, d.weight ≤ 1048576) -> ∃ A : List Addr, (∀ u ∈ vs, OkU A u) /\ ∀ a ∈ A, ArgOb h A a
 | [], _, x, _, _ => by
  cases x
  exact ⟨[], fun u m => absurd m (by simp), fun a m => absurd m (by simp)⟩
 | d :: ds, _, x, p, z => by
  obtain ⟨v, vs, rfl, x1, x2⟩ := well_cons x
  have q : plW d = true /\ plWs ds = true := Bool.and_eq_true_iff.mp p
  obtain ⟨A, a1, a2⟩ := area_one d v x1 q.1 (z d (List.mem_cons_self ..))
  obtain ⟨B, b1, b2⟩ := area_all ds vs x2 q.2 fun e he => z e (List.mem_cons_of_mem _ he)
  have kA : ∀ b ∈ A, b ∈ A ++ B := fun b hb => List.mem_append.mpr (.inl hb)
  have kB : ∀ b ∈ B, b ∈ A ++ B := fun b hb => List.mem_append.mpr (.inr hb)
  refine ⟨A ++ B, fun u hu => ?_, fun b hb => ?_⟩
  ·rcases List.mem_cons.mp hu with e | m
   ·rw [e]
    exact a1.mono kA
   ·exact (b1 u m).mono kB
  ·rcases List.mem_append.mp hb with m | m
   ·exact (a2 b m).mono kA
   ·exact (b2 b m).mono kB
end
end
def hoOf (o : Obj) : Option HO := match o.data with
 | .seq vs _ => if (o.cls == Value.type "list") = true then some (.frz o (.lst (vs.toList.map toV))) else some (.frz o (.tup (vs.toList.map toV)))
 | _ => none
def argH (K : PySem.W.Frag) (h : Heap) (A : List Addr) : Hp := fun b => if b ∈ A then (if (K.lookup b).isNone = true then (h.get? b).bind hoOf else none) else none
def OnlyF (H : Hp) : Prop := ∀ b, H b = none \/ ∃ o u, H b = some (.frz o u)
theorem hoOf_lst (vs : List Value) : hoOf { cls := .type "list", data := .seq vs.toArray } = some (.frz { cls := .type "list", data := .seq vs.toArray } (.lst (vs.map toV))) := by
 show (if (Value.type "list" == Value.type "list") = true then some (HO.frz { cls := .type "list", data := .seq vs.toArray } (.lst (vs.toArray.toList.map toV))) else some (HO.frz { cls := .type "list", data := .seq vs.toArray } (.tup (vs.toArray.toList.map toV)))) = _
 rw [if_pos (beq_self_eq_true _)]
theorem hoOf_tup (vs : List Value) : hoOf { cls := .type "tuple", data := .seq vs.toArray } = some (.frz { cls := .type "tuple", data := .seq vs.toArray } (.tup (vs.map toV))) := by
 show (if (Value.type "tuple" == Value.type "list") = true then some (HO.frz { cls := .type "tuple", data := .seq vs.toArray } (.lst (vs.toArray.toList.map toV))) else some (HO.frz { cls := .type "tuple", data := .seq vs.toArray } (.tup (vs.toArray.toList.map toV)))) = _
 rw [if_neg (by decide)]
section
variable {P : Program} {w : World} {K : PySem.W.Frag} {h : Heap} {A : List Addr}
theorem argH_at {b : Addr} {o : Obj} (hb : b ∈ A) (hk : K.lookup b = none) (e : h.get? b = some o) : argH K h A b = hoOf o := by
 unfold argH
 rw [if_pos hb, hk, if_pos (show (none : Option Obj).isNone = true from rfl), e] <;> rfl
theorem of_argH {b : Addr} {u : HO} (q : argH K h A b = some u) : b ∈ A /\ K.lookup b = none := by
 unfold argH at q
 by_cases hb : b ∈ A
 ·rw [if_pos hb] at q
  cases hk : K.lookup b with
  | none => exact ⟨hb, rfl⟩
  | some o =>
   rw [hk, if_neg (by simp)] at q
   cases q
 ·rw [if_neg hb] at q
  cases q
theorem argH_is (ar : ∀ a ∈ A, ArgOb h A a) {b : Addr} {u : HO} (q : argH K h A b = some u) : K.lookup b = none /\ ∃ vs : List Value, vs.length ≤ sizeLine /\ (∀ u ∈ vs, OkU A u) /\
    ((h.get? b = some { cls := .type "list", data := .seq vs.toArray } /\ u = .frz { cls := .type "list", data := .seq vs.toArray } (.lst (vs.map toV))) \/
     (h.get? b = some { cls := .type "tuple", data := .seq vs.toArray } /\ u = .frz { cls := .type "tuple", data := .seq vs.toArray } (.tup (vs.map toV)))) := by
  obtain ⟨hb, hk⟩ := of_argH q
  obtain ⟨vs, h1, h2, h3⟩ := ar b hb
  refine ⟨hk, vs, h1, h2, ?_⟩
  rcases h3 with e | e
  · rw [argH_at hb hk e, hoOf_lst] at q
    exact .inl ⟨e, (Option.some.inj q).symm⟩
  · rw [argH_at hb hk e, hoOf_tup] at q
    exact .inr ⟨e, (Option.some.inj q).symm⟩
theorem argH_only (ar : ∀ a ∈ A, ArgOb h A a) : OnlyF (argH K h A) := fun b => by
 cases q : argH K h A b with
 | none => exact .inl rfl
 | some u =>
  obtain ⟨_, vs, _, _, ⟨_, e⟩ | ⟨_, e⟩⟩ := argH_is ar q
  ·exact .inr ⟨_, _, by rw [e]⟩
  ·exact .inr ⟨_, _, by rw [e]⟩
theorem argH_ok (ar : ∀ a ∈ A, ArgOb h A a) : HOk P w (argH K h A) h := fun b u q => by
 obtain ⟨_, vs, h1, h2, ⟨e, rfl⟩ | ⟨e, rfl⟩⟩ := argH_is ar q
 ·exact ⟨e, by rw [List.length_map]; exact h1, vs, _, vals_toV h2, e⟩
 ·exact ⟨e, by rw [List.length_map]; exact h1, vs, vals_toV h2, _, e, rfl, _, rfl⟩
theorem seq_inj {c c' : Value} {vs us : List Value} (e : (some { cls := c, data := .seq vs.toArray } : Option Obj) = some { cls := c', data := .seq us.toArray }) : c = c' /\ vs = us := by
 have e1 := Option.some.inj e
 have e2 : c = c' := congrArg Obj.cls e1
 have e3 : Data.seq vs.toArray = Data.seq us.toArray := congrArg Obj.data e1
 injection e3 with e4
 refine ⟨e2, ?_⟩
 have e5 := congrArg Array.toList e4
 simpa using e5
theorem argL (KX : K.In h) (ar : ∀ a ∈ A, ArgOb h A a) {a : Addr} {vs : List Value} (ha : a ∈ A) (e : h.get? a = some { cls := .type "list", data := .seq vs.toArray }) : (∀ u ∈ vs, OkU A u) /\ SqL K (argH K h A) a (vs.map toV) := by
 obtain ⟨us, h1, h2, h3⟩ := ar a ha
 have hu : us = vs := by
  rcases h3 with q | q
  ·rw [e] at q
   exact (seq_inj q).2.symm
  ·rw [e] at q
   exact absurd (Value.type.inj (seq_inj q).1) (by decide)
 subst hu
 refine ⟨h2, ?_⟩
 cases hk : K.lookup a with
 | none => exact .inl (.inr ⟨_, by rw [argH_at ha hk e, hoOf_lst]⟩)
 | some o =>
  have e2 := KX a o hk
  rw [e] at e2
  obtain rfl := Option.some.inj e2
  exact .inr ⟨_, us.toArray, _, hk, rfl, rfl, rfl, by rw [List.size_toArray]; exact h1, by simpa using vals_toV h2⟩
theorem argT (KX : K.In h) (ar : ∀ a ∈ A, ArgOb h A a) {a : Addr} {vs : List Value} (ha : a ∈ A) (e : h.get? a = some { cls := .type "tuple", data := .seq vs.toArray }) : (∀ u ∈ vs, OkU A u) /\ SqT K (argH K h A) a (vs.map toV) := by
 obtain ⟨us, h1, h2, h3⟩ := ar a ha
 have hu : us = vs := by
  rcases h3 with q | q
  ·rw [e] at q
   exact absurd (Value.type.inj (seq_inj q).1) (by decide)
  ·rw [e] at q
   exact (seq_inj q).2.symm
 subst hu
 refine ⟨h2, ?_⟩
 cases hk : K.lookup a with
 | none => exact .inl (.inr ⟨_, by rw [argH_at ha hk e, hoOf_tup]⟩)
 | some o =>
  have e2 := KX a o hk
  rw [e] at e2
  obtain rfl := Option.some.inj e2
  exact .inr ⟨_, us.toArray, _, hk, rfl, rfl, by rw [List.size_toArray]; exact h1, by simpa using vals_toV h2⟩
mutual
theorem dw_one {Pm : Params} (KX : K.In h) (ar : ∀ a ∈ A, ArgOb h A a) : ∀ (d : WData) (v : Value), Well Pm h v d -> plW d = true -> OkU A v -> Dw K (argH K h A) (toV v) d
 | .none, _, x, _, _ => by
  cases x
  exact .non
 | .bool b, _, x, _, _ => by
  cases x
  exact .bl b
 | .int i, _, x, _, _ => by
  cases x
  exact .int i
 | .str s, _, x, _, _ => by
  cases x
  exact .str s
 | .bytes b, _, x, _, _ => by
  cases x
  have z := Dw.byt (K := K) (H := argH K h A) b.toArray
  exact z
 | .list ds, _, x, p, hu => by
  obtain ⟨a, vs, rfl, ho, hall⟩ := well_list x
  obtain ⟨h2, hs⟩ := argL KX ar hu ho
  exact .lst hs (dw_all KX ar ds _ hall p h2)
 | .tuple ds, _, x, p, hu => by
  obtain ⟨a, vs, rfl, ho, hall⟩ := well_tuple x
  obtain ⟨h2, hs⟩ := argT KX ar hu ho
  exact .tup hs (dw_all KX ar ds _ hall p h2)
 | .float _, _, _, p, _ => Bool.noConfusion (show false = true from p)
 | .dict _, _, _, p, _ => Bool.noConfusion (show false = true from p)
 | .bytearray _, _, _, p, _ => Bool.noConfusion (show false = true from p)
 | .set _, _, _, p, _ => Bool.noConfusion (show false = true from p)
 | .frozenset _, _, _, p, _ => Bool.noConfusion (show false = true from p)
 | .obj _ _, _, _, p, _ => Bool.noConfusion (show false = true from p)
theorem dw_all {Pm : Params} (KX : K.In h) (ar : ∀ a ∈ A, ArgOb h A a) : ∀ (ds : List WData) (vs : List Value), WellAll Pm h vs ds -> plWs ds = true -> (∀ u ∈ vs, OkU A u) -> DwAll K (argH K h A) (vs.map toV) ds
 | [], _, x, _, _ => by
  cases x
  exact .nil
 | d :: ds, _, x, p, hu => by
  obtain ⟨v, vs, rfl, x1, x2⟩ := well_cons x
  have q : plW d = true /\ plWs ds = true := Bool.and_eq_true_iff.mp p
  exact .cons (dw_one KX ar d v x1 q.1 (hu _ (List.mem_cons_self ..))) (dw_all KX ar ds vs x2 q.2 fun u m => hu u (List.mem_cons_of_mem _ m))
end
end
theorem layable_weight {ds : List WData} (h : WData.layableAll ds = true) : ∀ d ∈ ds, d.weight ≤ 1048576 := fun d hd =>
 (PySem.W.layableW_iff.mp (List.all_eq_true.mp h d hd)).2.2
theorem encAll_len : ∀ (cs : List Codec) (a : Codec.denoteAll cs), (Codec.encAll cs a).length = cs.length
 | [], _ => rfl
 | c :: cs, a => by
  show (Codec.encAll cs a.2).length + 1 = cs.length + 1
  rw [encAll_len cs a.2]
end L2
end
end
section
set_option linter.all false
set_option autoImplicit false
namespace My
open Kwc (Bytes Wind Wx Cloud Sky Change Report)
abbrev T := List Nat
def isD (b : Nat) : Bool := decide (48 ≤ b) && decide (b ≤ 57)
def val (l : T) : Nat := l.foldl (fun n b => 10 * n + (b - 48)) 0
theorem number_eq (l : T) : Kwc.number l = if l.isEmpty || !(l.all isD) then none else some (val l) := rfl
theorem number_some {l : T} {n : Nat} (h : Kwc.number l = some n) : l.all isD = true /\ val l = n /\ l ≠ [] := by
 rw [number_eq] at h
 split at h
 ·cases h
 ·rename_i hc
  simp at hc
  refine ⟨by simpa using hc.2, Option.some.inj h, fun e => by simp [e] at hc⟩
theorem val_snoc (l : T) (b : Nat) : val (l ++ [b]) = 10 * val l + (b - 48) := by
 simp [val, List.foldl_append]
theorem digits_length : ∀ (k n : Nat), (Kwc.digits k n).length = k
 | 0, _ => rfl
 | k + 1, n => by simp [Kwc.digits, digits_length k]
theorem digits_all : ∀ (k n : Nat), (Kwc.digits k n).all isD = true
 | 0, _ => rfl
 | k + 1, n => by
  have := Nat.mod_lt n (show 0 < 10 by decide)
  simp only [Kwc.digits, List.all_append, digits_all k, Bool.true_and]
  simp [isD]; omega
theorem digits_val : ∀ (k n : Nat), n < 10 ^ k -> val (Kwc.digits k n) = n
 | 0, n, h => by
  have : n = 0 := by simpa using h
  subst this; rfl
 | k + 1, n, h => by
  have h1 : n / 10 < 10 ^ k := by
   rw [Nat.pow_succ] at h
   exact Nat.div_lt_of_lt_mul (by omega)
  rw [Kwc.digits, val_snoc, digits_val k _ h1]
  omega
theorem snoc_of : ∀ (l : T) (k : Nat), l.length = k + 1 -> ∃ i x, l = i ++ [x] /\ i.length = k := fun l k h => by
 have hne : l ≠ [] := by intro e; simp [e] at h
 exact ⟨l.dropLast, l.getLast hne, (List.dropLast_concat_getLast hne).symm, by simp [h]⟩
theorem digits_of_val : ∀ (k : Nat) (l : T), l.length = k -> l.all isD = true -> Kwc.digits k (val l) = l /\ val l < 10 ^ k
 | 0, l, h, _ => by
  have : l = [] := List.length_eq_zero_iff.mp h
  subst this; exact ⟨rfl, by decide⟩
 | k + 1, l, h, ha => by
  obtain ⟨i, x, rfl, hi⟩ := snoc_of l k h
  rw [List.all_append, Bool.and_eq_true] at ha
  obtain ⟨e, lt⟩ := digits_of_val k i hi ha.1
  have hx : 48 ≤ x /\ x ≤ 57 := by simpa [isD] using ha.2
  have e1 : (10 * val i + (x - 48)) / 10 = val i := by omega
  have e2 : 48 + (10 * val i + (x - 48)) % 10 = x := by omega
  rw [val_snoc, Kwc.digits, e1, e2, e]
  refine ⟨rfl, ?_⟩
  rw [Nat.pow_succ]; omega
theorem whole_digits {k n : Nat} (hk : 0 < k) (h : n < 10 ^ k) : Kwc.whole k (Kwc.digits k n) = some n := by
 unfold Kwc.whole
 rw [if_pos (digits_length k n), number_eq, if_neg, digits_val k n h]
 have hl := digits_length k n
 have hne : (Kwc.digits k n).isEmpty = false := by
  cases e : Kwc.digits k n with
  | nil => rw [e] at hl; simp at hl; omega
  | cons a b => rfl
 rw [digits_all, hne]; decide
theorem digits_whole {k n : Nat} {l : T} (h : Kwc.whole k l = some n) : l = Kwc.digits k n /\ n < 10 ^ k := by
 unfold Kwc.whole at h
 split at h
 ·rename_i hl
  obtain ⟨h1, h2, _⟩ := number_some h
  obtain ⟨e, lt⟩ := digits_of_val k l hl h1
  rw [h2] at e lt
  exact ⟨e.symm, lt⟩
 ·cases h
theorem whole_none_of {k : Nat} {l : T} {b : Nat} (hb : b ∈ l) (h : isD b = false) : Kwc.whole k l = none := by
 cases e : Kwc.whole k l with
 | none => rfl
 | some n =>
  have := digits_whole e
  rw [this.1] at hb
  have h2 := List.all_eq_true.mp (digits_all k n) b hb
  rw [h] at h2; cases h2
theorem whole_none_len {k : Nat} {l : T} (h : l.length ≠ k) : Kwc.whole k l = none := by
 unfold Kwc.whole; rw [if_neg h]
def nw (p : T) (k lo hi : Nat) : Option Nat := match Kwc.whole k p with
 | some n => if lo ≤ n /\ n ≤ hi then some n else none
 | none => none
theorem nw_some {p : T} {k lo hi n : Nat} (h : nw p k lo hi = some n) : p = Kwc.digits k n /\ lo ≤ n /\ n ≤ hi /\ n < 10 ^ k := by
 unfold nw at h
 split at h
 ·rename_i m e
  split at h
  ·rename_i hc
   cases h
   have := digits_whole e
   exact ⟨this.1, hc.1, hc.2, this.2⟩
  ·cases h
 ·cases h
theorem nw_digits {k lo hi n : Nat} (hk : 0 < k) (h : n < 10 ^ k) (h1 : lo ≤ n) (h2 : n ≤ hi) : nw (Kwc.digits k n) k lo hi = some n := by
 unfold nw; rw [whole_digits hk h]; simp [h1, h2]
def stationOf (w : T) : Option T := if w.length = 4 /\ w.all Kwc.letter = true then some w else none
def clockOf (p : T) : Option (Nat × Nat) := match nw (p.take 2) 2 0 23, nw (p.drop 2) 2 0 59 with
 | some h, some m => some (h, m)
 | _, _ => none
theorem clockOf_some {p : T} {h m : Nat} (e : clockOf p = some (h, m)) : p = Kwc.digits 2 h ++ Kwc.digits 2 m /\ h ≤ 23 /\ m ≤ 59 := by
 unfold clockOf at e
 split at e
 ·rename_i a b e1 e2
  cases e
  have := nw_some e1
  have := nw_some e2
  refine ⟨?_, by omega, by omega⟩
  rw [<- (nw_some e1).1, <- (nw_some e2).1, List.take_append_drop]
 ·cases e
theorem take_digits (k n : Nat) (l : T) : (Kwc.digits k n ++ l).take k = Kwc.digits k n := by
 have := digits_length k n
 rw [List.take_append_of_le_length (by omega), List.take_of_length_le (by omega)]
theorem drop_digits (k n : Nat) (l : T) : (Kwc.digits k n ++ l).drop k = l := by
 have := digits_length k n
 rw [List.drop_append_of_le_length (by omega), List.drop_of_length_le (by omega), List.nil_append]
theorem clockOf_digits {h m : Nat} (hh : h ≤ 23) (hm : m ≤ 59) : clockOf (Kwc.digits 2 h ++ Kwc.digits 2 m) = some (h, m) := by
 unfold clockOf
 rw [take_digits, drop_digits, nw_digits (by decide) (by omega) (by omega) hh, nw_digits (by decide) (by omega) (by omega) hm]
def momentOf (w : T) : Option (Nat × Nat × Nat) := if w.getLast? = some 90 then match nw (w.take 2) 2 1 31, clockOf (w.dropLast.drop 2) with
  | some d, some c => some (d, c.1, c.2)
  | _, _ => none
 else none
def markedMinutes (w p : T) : Option Nat := if w.take p.length = p then match clockOf (w.drop p.length) with
  | some c => some (c.1 * 60 + c.2)
  | none => none
 else none
def metresFit (n : Nat) : Bool := if n < 800 then n % 50 == 0 else if n < 5000 then n % 100 == 0 else n == 9999 || (decide (n ≤ 9000) && n % 1000 == 0)
theorem metresFit_eq (n : Nat) : metresFit n = Kwc.okSight n := by
 unfold metresFit Kwc.okSight
 split
 ·rfl
 ·split
  ·rfl
  ·rw [Bool.or_comm]
def sightOf (w : T) : Option Nat := if w = Kwc.text "CAVOK" then some 10000 else match nw w 4 0 9999 with
 | some n => if metresFit n = true then some n else none
 | none => none
def degreeOf (p : T) : Option Int := if p.take 1 = [77] then match nw (p.drop 1) 2 1 60 with
  | some n => some (-(n : Int))
  | none => none
 else match nw p 2 0 60 with
  | some n => some (n : Int)
  | none => none
def spl (c : Nat) : T -> T -> List T
 | w, [] => [w.reverse]
 | w, b :: l => if b = c then w.reverse :: spl c [] l else spl c (b :: w) l
theorem spl_split : ∀ (l w : T), spl 32 w l = Kwc.split w l
 | [], w => rfl
 | b :: l, w => by
  unfold spl Kwc.split
  split
  ·rw [spl_split l []]
  ·rw [spl_split l (b :: w)]
def degreesOf (w : T) : Option (Int × Int) := match spl 47 [] w with
 | [a, b] => match degreeOf a, degreeOf b with
  | some t, some d => if t < d then none else some (t, d)
  | _, _ => none
 | _ => none
def pressureOf (w : T) : Option Nat := if w.take 1 = [81] then nw (w.drop 1) 4 850 1100 else none
def plainSkyOf (w : T) : Option Sky := if w = Kwc.text "NSC" then some .clear else if w.take 2 = [86, 86] then match nw (w.drop 2) 3 0 100 with
  | some h => some (.up h)
  | none => none
 else none
def layerOf (w : T) : Option Cloud := match Kwc.placeIn (Kwc.amounts.drop 1) (w.take 3) 1, nw ((w.drop 3).take 3) 3 0 300, Kwc.placeIn Kwc.cloudKinds (w.drop 6) 0 with
 | some a, some h, some k => some ⟨a, h, k⟩
 | _, _, _ => none
def directionOf (p : T) : Option Nat := match nw p 3 10 360 with
 | some d => if d % 10 = 0 then some d else none
 | none => none
def windDegrees (p : T) : Option Nat := if p = Kwc.text "VRB" then some 999 else if p = Kwc.text "000" then some 0 else directionOf p
def gustsOf (p : T) : Option Nat := if p = [] then some 0 else if p.take 1 = [71] then nw (p.drop 1) 2 1 99 else none
def windFits (d s g : Nat) : Bool := if s = 0 then d == 0 && g == 0 else d != 0 && (g == 0 || decide (s < g))
def windOf (w : T) : Option Wind := if w.drop (w.length - 2) = [75, 84] then
  match windDegrees ((w.take (w.length - 2)).take 3), nw (((w.take (w.length - 2)).drop 3).take 2) 2 0 99, gustsOf ((w.take (w.length - 2)).drop 5) with
  | some d, some s, some g => if windFits d s g = true then some ⟨d, s, g, 999, 999⟩ else none
  | _, _, _ => none
 else none
def sectorOf (w : T) : Option (Nat × Nat) := if w.length = 7 /\ w.getD 3 0 = 86 then match directionOf (w.take 3), directionOf (w.drop 4) with
  | some a, some b => if a = b then none else some (a, b)
  | _, _ => none
 else none
def changeMannerOf (w : T) : Option Nat := if w = Kwc.text "BECMG" then some 1 else if w = Kwc.text "TEMPO" then some 2 else none
theorem stationOf_S {w x : T} (h : stationOf w = some x) : x = w /\ x.length = 4 /\ x.all Kwc.letter = true := by
 unfold stationOf at h
 split at h
 ·cases h; exact ⟨rfl, by assumption⟩
 ·cases h
theorem momentOf_S {w : T} {d h m : Nat} (e : momentOf w = some (d, h, m)) : w = Kwc.digits 2 d ++ Kwc.digits 2 h ++ Kwc.digits 2 m ++ Kwc.text "Z" /\ 1 ≤ d /\ d ≤ 31 /\ h ≤ 23 /\ m ≤ 59 := by
 unfold momentOf at e
 split at e
 ·rename_i hz
  split at e
  ·rename_i a b e1 e2
   cases e
   have h1 := nw_some e1
   have h2 := clockOf_some (show clockOf _ = some (b.1, b.2) from e2)
   refine ⟨?_, h1.2.1, h1.2.2.1, h2.2.1, h2.2.2⟩
   have hne : w ≠ [] := by intro q; simp [q] at hz
   have hw : w.dropLast ++ [90] = w := by
    have := List.dropLast_concat_getLast hne
    rw [List.getLast?_eq_some_getLast hne] at hz
    rw [Option.some.inj hz] at this
    exact this
   have ht : w.take 2 = w.dropLast.take 2 := by
    have l2 : (w.take 2).length = 2 := by rw [h1.1, digits_length]
    have l3 : 2 ≤ w.dropLast.length := by
     have l4 : (w.dropLast.drop 2).length = 4 := by rw [h2.1]; simp [digits_length]
     simp at l4 ⊢; omega
    rw [<- hw, List.take_append_of_le_length l3]
    simp
   rw [<- hw]
   rw [ht] at h1
   rw [List.append_assoc (Kwc.digits 2 d), <- h1.1, <- h2.1, List.take_append_drop]
   rfl
  ·cases e
 ·cases e
theorem momentOf_R {d h m : Nat} (h1 : 1 ≤ d) (h2 : d ≤ 31) (h3 : h ≤ 23) (h4 : m ≤ 59) : momentOf (Kwc.digits 2 d ++ Kwc.digits 2 h ++ Kwc.digits 2 m ++ Kwc.text "Z") = some (d, h, m) := by
 unfold momentOf
 have e0 : Kwc.text "Z" = [90] := rfl
 rw [e0, if_pos (by simp), List.dropLast_concat, List.append_assoc (Kwc.digits 2 d), List.append_assoc (Kwc.digits 2 d), take_digits, drop_digits,
  nw_digits (by decide) (by omega) h1 h2, clockOf_digits h3 h4]
theorem markedMinutes_S {w p : T} {n : Nat} (e : markedMinutes w p = some n) : w = p ++ Kwc.clock n /\ n < 1440 := by
 unfold markedMinutes at e
 split at e
 ·rename_i hp
  split at e
  ·rename_i c ec
   cases e
   have h2 := clockOf_some (show clockOf _ = some (c.1, c.2) from ec)
   have e1 : (c.1 * 60 + c.2) / 60 = c.1 := by omega
   have e2 : (c.1 * 60 + c.2) % 60 = c.2 := by omega
   refine ⟨?_, by omega⟩
   unfold Kwc.clock
   rw [e1, e2, <- h2.1]
   conv => lhs; rw [<- List.take_append_drop p.length w]
   rw [hp]
  ·cases e
 ·cases e
theorem markedMinutes_R {p : T} {n : Nat} (h : n < 1440) : markedMinutes (p ++ Kwc.clock n) p = some n := by
 unfold markedMinutes
 rw [if_pos (by simp), List.drop_left, Kwc.clock, clockOf_digits (by omega) (by omega)]
 simp; omega
theorem sightOf_S {w : T} {n : Nat} (e : sightOf w = some n) : w = Kwc.sightWord n /\ (n == Kwc.cavok || Kwc.okSight n) = true := by
 unfold sightOf at e
 split at e
 ·rename_i hw
  cases e
  exact ⟨hw, rfl⟩
 ·split at e
  ·rename_i m em
   split at e
   ·rename_i hf
    cases e
    have h1 := nw_some em
    rw [metresFit_eq] at hf
    refine ⟨?_, by rw [hf]; simp⟩
    unfold Kwc.sightWord Kwc.cavok
    rw [if_neg (by omega), <- h1.1]
   ·cases e
  ·cases e
theorem okSight_le {n : Nat} (h : Kwc.okSight n = true) : n ≤ 9999 := by
 unfold Kwc.okSight at h
 split at h
 ·omega
 ·split at h
  ·omega
  ·simp at h; omega
theorem digits_ne_of {k n : Nat} {w : T} {b : Nat} (hb : b ∈ w) (h : isD b = false) : Kwc.digits k n ≠ w := fun e => by
 rw [<- e] at hb
 have h2 := List.all_eq_true.mp (digits_all k n) b hb
 rw [h] at h2; cases h2
theorem sightOf_R {n : Nat} (h : (n == Kwc.cavok || Kwc.okSight n) = true) : sightOf (Kwc.sightWord n) = some n := by
 unfold Kwc.sightWord sightOf
 by_cases e : n = Kwc.cavok
 ·rw [if_pos e, if_pos rfl, e]; rfl
 ·rw [if_neg e]
  have h' : Kwc.okSight n = true := by
   rw [Bool.or_eq_true] at h
   rcases h with h | h
   ·exact absurd (by simpa using h) e
   ·exact h
  have := okSight_le h'
  rw [if_neg (digits_ne_of (b := 67) (by decide) (by decide)), nw_digits (by decide) (by omega) (by omega) (by omega)]
  simp [metresFit_eq, h']
theorem degreeOf_S {p : T} {t : Int} (e : degreeOf p = some t) : p = Kwc.degrees t /\ Kwc.okDegrees t = true := by
 unfold degreeOf at e
 split at e
 ·rename_i hp
  split at e
  ·rename_i n en
   cases e
   have h1 := nw_some en
   refine ⟨?_, by simp [Kwc.okDegrees]; omega⟩
   unfold Kwc.degrees
   rw [if_pos (by omega)]
   have : (-(-(n : Int))).toNat = n := by omega
   rw [this, <- h1.1]
   conv => lhs; rw [<- List.take_append_drop 1 p]
   rw [hp]; rfl
  ·cases e
 ·split at e
  ·rename_i n en
   cases e
   have h1 := nw_some en
   refine ⟨?_, by simp [Kwc.okDegrees]; omega⟩
   unfold Kwc.degrees
   rw [if_neg (by omega)]
   have : ((n : Int)).toNat = n := by omega
   rw [this, <- h1.1]
  ·cases e
theorem degreeOf_R {t : Int} (h : Kwc.okDegrees t = true) : degreeOf (Kwc.degrees t) = some t := by
 have hb : -60 ≤ t /\ t ≤ 60 := by simpa [Kwc.okDegrees] using h
 unfold Kwc.degrees degreeOf
 by_cases e : t < 0
 ·rw [if_pos e]
  rw [if_pos (show List.take 1 (Kwc.text "M" ++ Kwc.digits 2 (-t).toNat) = [77] from rfl)]
  rw [show List.drop 1 (Kwc.text "M" ++ Kwc.digits 2 (-t).toNat) = Kwc.digits 2 (-t).toNat from rfl, nw_digits (by decide) (by omega) (by omega) (by omega)]
  simp; omega
 ·rw [if_neg e, if_neg, nw_digits (by decide) (by omega) (by omega) (by omega)]
  ·simp; omega
  ·intro q
   have h2 : (77 : Nat) ∈ List.take 1 (Kwc.digits 2 t.toNat) := by rw [q]; simp
   exact digits_ne_of (k := 2) (n := t.toNat) (List.mem_of_mem_take h2) (by decide) rfl
end My
end
section
set_option linter.all false
set_option autoImplicit false
namespace My
open Kwc (Bytes Wind Wx Cloud Sky Change Report)
def joinC (c : Nat) : List T -> T
 | [] => []
 | [w] => w
 | w :: l => w ++ c :: joinC c l
theorem joinC_cons (c : Nat) (w : T) {l : List T} (h : l ≠ []) : joinC c (w :: l) = w ++ c :: joinC c l := by
 cases l with
 | nil => exact absurd rfl h
 | cons a b => rfl
theorem spl_ne (c : Nat) : ∀ (l acc : T), spl c acc l ≠ []
 | [], _ => by simp [spl]
 | b :: l, acc => by
  unfold spl
  split
  ·simp
  ·exact spl_ne c l _
theorem spl_join (c : Nat) : ∀ (l acc : T), joinC c (spl c acc l) = acc.reverse ++ l
 | [], acc => by simp [spl, joinC]
 | b :: l, acc => by
  unfold spl
  split
  ·rename_i h
   rw [joinC_cons c _ (spl_ne c l []), spl_join c l [], h]; simp
  ·rw [spl_join c l]; simp
theorem spl_skip (c : Nat) : ∀ (w acc l : T), c ∉ w -> spl c acc (w ++ l) = spl c (w.reverse ++ acc) l
 | [], acc, l, _ => rfl
 | b :: w, acc, l, h => by
  have hb : b ≠ c := fun e => h (by simp [e])
  have hw : c ∉ w := fun e => h (by simp [e])
  rw [List.cons_append, spl, if_neg hb, spl_skip c w _ l hw]; simp
theorem spl_joinC (c : Nat) : ∀ (ws : List T), ws ≠ [] -> (∀ w ∈ ws, c ∉ w) -> spl c [] (joinC c ws) = ws
 | [], h, _ => absurd rfl h
 | [w], _, h => by
  have := spl_skip c w [] [] (h w (by simp))
  simp [joinC] at this ⊢
  rw [this]; simp [spl]
 | w :: v :: l, _, h => by
  rw [joinC_cons c w (by simp), spl_skip c w [] _ (h w (by simp)), spl, if_pos rfl, spl_joinC c (v :: l) (by simp) fun x hx => h x (by simp [hx])]
  simp
theorem joinC_joined : ∀ ws : List T, joinC 32 ws = Kwc.joined ws
 | [] => rfl
 | [w] => rfl
 | w :: v :: l => by rw [joinC_cons 32 w (by simp), joinC_joined (v :: l)]; rfl
theorem split_joined {ws : List T} (h : ws ≠ []) (hb : ∀ w ∈ ws, 32 ∉ w) : Kwc.split [] (Kwc.joined ws) = ws := by
 rw [<- spl_split, <- joinC_joined, spl_joinC 32 ws h hb]
theorem joined_split (t : T) : Kwc.joined (Kwc.split [] t) = t := by
 rw [<- spl_split, <- joinC_joined, spl_join]; rfl
theorem not_mem_digits {k n b : Nat} (h : isD b = false) : b ∉ Kwc.digits k n := fun hb => digits_ne_of hb h rfl
theorem degrees_47 (t : Int) : 47 ∉ Kwc.degrees t := by
 unfold Kwc.degrees
 split
 ·simp only [List.mem_append, not_or]
  exact ⟨by decide, not_mem_digits (by decide)⟩
 ·exact not_mem_digits (by decide)
theorem degreesOf_S {w : T} {t d : Int} (e : degreesOf w = some (t, d)) : w = Kwc.degrees t ++ Kwc.text "/" ++ Kwc.degrees d /\ Kwc.okDegrees t = true /\ Kwc.okDegrees d = true /\ d ≤ t := by
 unfold degreesOf at e
 split at e
 ·rename_i a b es
  split at e
  ·rename_i x y e1 e2
   split at e
   ·cases e
   ·cases e
    have h1 := degreeOf_S e1
    have h2 := degreeOf_S e2
    have hj := spl_join 47 w []
    rw [es] at hj
    refine ⟨?_, h1.2, h2.2, by omega⟩
    rw [<- h1.1, <- h2.1]
    have hj' : a ++ 47 :: b = w := hj
    rw [<- hj']; simp [Kwc.text]
  ·cases e
 ·cases e
theorem degreesOf_R {t d : Int} (h1 : Kwc.okDegrees t = true) (h2 : Kwc.okDegrees d = true) (h : d ≤ t) : degreesOf (Kwc.degrees t ++ Kwc.text "/" ++ Kwc.degrees d) = some (t, d) := by
 have e : spl 47 [] (Kwc.degrees t ++ Kwc.text "/" ++ Kwc.degrees d) = [Kwc.degrees t, Kwc.degrees d] := by
  have := spl_joinC 47 [Kwc.degrees t, Kwc.degrees d] (by simp) (by simp [degrees_47])
  rw [<- this]
  simp [joinC, Kwc.text]
 unfold degreesOf
 rw [e]
 simp only
 rw [degreeOf_R h1, degreeOf_R h2]
 simp; omega
theorem pressureOf_S {w : T} {n : Nat} (e : pressureOf w = some n) : w = Kwc.text "Q" ++ Kwc.digits 4 n /\ 850 ≤ n /\ n ≤ 1100 := by
 unfold pressureOf at e
 split at e
 ·rename_i hp
  have h1 := nw_some e
  refine ⟨?_, h1.2.1, h1.2.2.1⟩
  rw [<- h1.1]
  conv => lhs; rw [<- List.take_append_drop 1 w]
  rw [hp]; rfl
 ·cases e
theorem pressureOf_R {n : Nat} (h1 : 850 ≤ n) (h2 : n ≤ 1100) : pressureOf (Kwc.text "Q" ++ Kwc.digits 4 n) = some n := by
 unfold pressureOf
 rw [if_pos (show List.take 1 (Kwc.text "Q" ++ Kwc.digits 4 n) = [81] from rfl), show List.drop 1 (Kwc.text "Q" ++ Kwc.digits 4 n) = Kwc.digits 4 n from rfl, nw_digits (by decide) (by omega) h1 h2]
theorem plainSkyOf_S {w : T} {s : Sky} (e : plainSkyOf w = some s) : [w] = Kwc.skyWords s /\ Kwc.okSky s = true := by
 unfold plainSkyOf at e
 split at e
 ·rename_i h
  cases e; rw [h]; exact ⟨rfl, rfl⟩
 ·split at e
  ·rename_i hp
   split at e
   ·rename_i n en
    cases e
    have h1 := nw_some en
    refine ⟨?_, by simp [Kwc.okSky]; omega⟩
    show [w] = [Kwc.text "VV" ++ Kwc.digits 3 n]
    rw [<- h1.1]
    conv => lhs; rw [<- List.take_append_drop 2 w]
    rw [hp]; rfl
   ·cases e
  ·cases e
theorem plainSkyOf_up {n : Nat} (h : n ≤ 100) : plainSkyOf (Kwc.text "VV" ++ Kwc.digits 3 n) = some (.up n) := by
 unfold plainSkyOf
 rw [if_neg, if_pos (show List.take 2 (Kwc.text "VV" ++ Kwc.digits 3 n) = [86, 86] from rfl), show List.drop 2 (Kwc.text "VV" ++ Kwc.digits 3 n) = Kwc.digits 3 n from rfl, nw_digits (by decide) (by omega) (by omega) h]
 intro q
 have h86 : (86 : Nat) = 78 := congrArg (fun l => l.getD 0 0) q
 omega
theorem placeIn_S : ∀ (l : List String) (w : T) (k j : Nat), Kwc.placeIn l w k = some j -> k ≤ j /\ j < k + l.length /\ Kwc.text (l.getD (j - k) "") = w
 | [], w, k, j, h => by cases h
 | s :: l, w, k, j, h => by
  unfold Kwc.placeIn at h
  split at h
  ·rename_i e
   cases h
   simp only [List.length_cons]
   refine ⟨by omega, by omega, ?_⟩
   simpa using e
  ·have := placeIn_S l w (k + 1) j h
   simp only [List.length_cons]
   refine ⟨by omega, by omega, ?_⟩
   have e : j - k = (j - (k + 1)) + 1 := by omega
   rw [e]; simpa using this.2.2
theorem layerOf_S {w : T} {c : Cloud} (e : layerOf w = some c) : w = Kwc.cloudWord c /\ 1 ≤ c.amount /\ c.amount ≤ 4 /\ c.height ≤ 300 /\ c.kind ≤ 2 := by
 unfold layerOf at e
 split at e
 ·rename_i a h k e1 e2 e3
  cases e
  have h1 := placeIn_S _ _ _ _ e1
  have h2 := nw_some e2
  have h3 := placeIn_S _ _ _ _ e3
  simp [Kwc.amounts] at h1
  simp [Kwc.cloudKinds] at h3
  refine ⟨?_, by simp; omega, by simp; omega, by simp; omega, by simp; omega⟩
  unfold Kwc.cloudWord Kwc.nameOf
  have ea : Kwc.text (Kwc.amounts.getD a "") = w.take 3 := by
   rw [<- h1.2.2]
   obtain ⟨b, rfl⟩ : ∃ b, a = b + 1 := ⟨a - 1, by omega⟩
   rfl
  have ek : Kwc.text (Kwc.cloudKinds.getD k "") = w.drop 6 := by
   rw [<- h3.2]
   simp [Kwc.cloudKinds]
  simp only
  rw [ea, ek, <- h2.1]
  conv => lhs; rw [<- List.take_append_drop 3 w, <- List.take_append_drop 3 (w.drop 3)]
  simp
 ·cases e
theorem amount_len : ∀ a, a < 5 -> 1 ≤ a -> (Kwc.nameOf Kwc.amounts a).length = 3 := by decide
theorem amount_place : ∀ a, a < 5 -> 1 ≤ a -> Kwc.placeIn (Kwc.amounts.drop 1) (Kwc.nameOf Kwc.amounts a) 1 = some a := by decide
theorem ckind_place : ∀ a, a < 3 -> Kwc.placeIn Kwc.cloudKinds (Kwc.nameOf Kwc.cloudKinds a) 0 = some a := by decide
theorem cloud_take {c : Cloud} (h1 : 1 ≤ c.amount) (h2 : c.amount ≤ 4) : (Kwc.cloudWord c).take 3 = Kwc.nameOf Kwc.amounts c.amount /\ (Kwc.cloudWord c).drop 3 = Kwc.digits 3 c.height ++ Kwc.nameOf Kwc.cloudKinds c.kind := by
 have l := amount_len c.amount (by omega) h1
 unfold Kwc.cloudWord
 rw [List.append_assoc]
 constructor
 ·rw [List.take_append_of_le_length (by omega), List.take_of_length_le (by omega)]
 ·rw [List.drop_append_of_le_length (by omega), List.drop_of_length_le (by omega), List.nil_append]
theorem cloud_drop6 {c : Cloud} (h1 : 1 ≤ c.amount) (h2 : c.amount ≤ 4) : (Kwc.cloudWord c).drop 6 = Kwc.nameOf Kwc.cloudKinds c.kind := by
 have : (Kwc.cloudWord c).drop 6 = ((Kwc.cloudWord c).drop 3).drop 3 := by simp
 rw [this, (cloud_take h1 h2).2, drop_digits]
theorem layerOf_R {c : Cloud} (h1 : 1 ≤ c.amount) (h2 : c.amount ≤ 4) (h3 : c.height ≤ 300) (h4 : c.kind ≤ 2) : layerOf (Kwc.cloudWord c) = some c := by
 unfold layerOf
 rw [cloud_drop6 h1 h2, (cloud_take h1 h2).1, (cloud_take h1 h2).2, take_digits, amount_place _ (by omega) h1, ckind_place _ (by omega), nw_digits (by decide) (by omega) (by omega) h3]
theorem readCloud_R {c : Cloud} (h1 : 1 ≤ c.amount) (h2 : c.amount ≤ 4) (h3 : c.height ≤ 300) (h4 : c.kind ≤ 2) : Kwc.readCloud (Kwc.cloudWord c) = some c := by
 unfold Kwc.readCloud
 rw [cloud_drop6 h1 h2, (cloud_take h1 h2).1, (cloud_take h1 h2).2, take_digits, amount_place _ (by omega) h1, ckind_place _ (by omega), whole_digits (by decide) (by omega)]
theorem directionOf_S {p : T} {d : Nat} (e : directionOf p = some d) : p = Kwc.digits 3 d /\ Kwc.tens d = true := by
 unfold directionOf at e
 split at e
 ·rename_i n en
  split at e
  ·rename_i h
   cases e
   have := nw_some en
   exact ⟨this.1, by simp [Kwc.tens, h]; omega⟩
  ·cases e
 ·cases e
theorem tens_le {d : Nat} (h : Kwc.tens d = true) : 10 ≤ d /\ d ≤ 360 /\ d % 10 = 0 := by
 simp [Kwc.tens] at h; exact ⟨h.1.1, h.1.2, h.2⟩
theorem directionOf_R {d : Nat} (h : Kwc.tens d = true) : directionOf (Kwc.digits 3 d) = some d := by
 have := tens_le h
 unfold directionOf
 rw [nw_digits (by decide) (by omega) this.1 this.2.1]
 simp [this.2.2]
theorem gustsOf_S {p : T} {g : Nat} (e : gustsOf p = some g) : p = (if g = 0 then [] else Kwc.text "G" ++ Kwc.digits 2 g) /\ g ≤ 99 := by
 unfold gustsOf at e
 split at e
 ·rename_i h; cases e; exact ⟨by rw [h]; rfl, by decide⟩
 ·split at e
  ·rename_i hp
   have h1 := nw_some e
   refine ⟨?_, h1.2.2.1⟩
   rw [if_neg (by omega), <- h1.1]
   conv => lhs; rw [<- List.take_append_drop 1 p]
   rw [hp]; rfl
  ·cases e
theorem gustsOf_R {g : Nat} (h : g ≤ 99) : gustsOf (if g = 0 then [] else Kwc.text "G" ++ Kwc.digits 2 g) = some g := by
 by_cases e : g = 0
 ·rw [if_pos e, e]; rfl
 ·rw [if_neg e]
  unfold gustsOf
  rw [if_neg (by simp [Kwc.text]), if_pos (show List.take 1 (Kwc.text "G" ++ Kwc.digits 2 g) = [71] from rfl), show List.drop 1 (Kwc.text "G" ++ Kwc.digits 2 g) = Kwc.digits 2 g from rfl, nw_digits (by decide) (by omega) (by omega) h]
def dirW (d : Nat) : T := if d = 999 then Kwc.text "VRB" else Kwc.digits 3 d
theorem dirW_length (d : Nat) : (dirW d).length = 3 := by
 unfold dirW; split
 ·rfl
 ·exact digits_length 3 d
theorem windDegrees_S {p : T} {d : Nat} (e : windDegrees p = some d) : p = dirW d /\ (d = 999 \/ d = 0 \/ Kwc.tens d = true) := by
 unfold windDegrees at e
 split at e
 ·rename_i h; cases e; exact ⟨h, .inl rfl⟩
 ·split at e
  ·rename_i h; cases e; exact ⟨h, .inr (.inl rfl)⟩
  ·have := directionOf_S e
   refine ⟨?_, .inr (.inr this.2)⟩
   unfold dirW
   rw [if_neg (by have := tens_le this.2; omega)]
   exact this.1
theorem windDegrees_R {d : Nat} (h : d = 999 \/ d = 0 \/ Kwc.tens d = true) : windDegrees (dirW d) = some d := by
 rcases h with rfl | rfl | h
 ·rfl
 ·rfl
 ·have h' := tens_le h
  have e : dirW d = Kwc.digits 3 d := by unfold dirW; rw [if_neg (by omega)]
  unfold windDegrees
  rw [e, if_neg (digits_ne_of (b := 86) (by decide) (by decide)), if_neg, directionOf_R h]
  intro q
  have h3 : Kwc.whole 3 (Kwc.digits 3 d) = some d := whole_digits (by decide) (by omega)
  rw [q] at h3
  have : Kwc.whole 3 (Kwc.text "000") = some 0 := by decide
  rw [this] at h3; cases h3; omega
theorem windWord_eq (w : Wind) : Kwc.windWord w = (dirW w.dir ++ Kwc.digits 2 w.speed ++ (if w.gust = 0 then [] else Kwc.text "G" ++ Kwc.digits 2 w.gust)) ++ [75, 84] := rfl
theorem windOf_S {w : T} {x : Wind} (e : windOf w = some x) : w = Kwc.windWord x /\ Kwc.okWind false x = true /\ x.from_ = 999 /\ x.to = 999 := by
 unfold windOf at e
 split at e
 ·rename_i hk
  split at e
  ·rename_i d s g e1 e2 e3
   split at e
   ·rename_i hf
    cases e
    have h1 := windDegrees_S e1
    have h2 := nw_some e2
    have h3 := gustsOf_S e3
    refine ⟨?_, ?_, rfl, rfl⟩
    ·rw [windWord_eq]
     simp only
     rw [<- h1.1, <- h2.1, <- h3.1]
     conv => lhs; rw [<- List.take_append_drop (w.length - 2) w, hk]
     congr 1
     generalize w.take (w.length - 2) = b
     conv => lhs; rw [<- List.take_append_drop 3 b, <- List.take_append_drop 2 (b.drop 3)]
     simp
    ·unfold windFits at hf
     unfold Kwc.okWind
     simp only [if_true]
     by_cases hs : s = 0
     ·rw [if_pos hs] at hf
      simp at hf
      obtain ⟨hd, hg⟩ := hf
      subst hs hd hg; rfl
     ·rw [if_neg hs] at hf
      rw [if_neg hs]
      simp at hf
      have hd : d = 999 \/ Kwc.tens d = true := by
       rcases h1.2 with h | h | h
       ·exact .inl h
       ·exact absurd h hf.1
       ·exact .inr h
      have a1 : decide (s ≤ 99) = true := by simp; omega
      have a2 : (g == 0 || (decide (s < g) && decide (g ≤ 99))) = true := by
       rcases hf.2 with h | h
       ·simp [h]
       ·simp [h]; omega
      have a3 : (d == 999 || Kwc.tens d) = true := by
       rcases hd with h | h
       ·simp [h]
       ·simp [h]
      simp [a1, a2, a3]
   ·cases e
  ·cases e
 ·cases e
theorem okWind_parts {b : Bool} {x : Wind} (h : Kwc.okWind b x = true) : x.speed ≤ 99 /\ x.gust ≤ 99 /\ (x.dir = 999 \/ x.dir = 0 \/ Kwc.tens x.dir = true) /\ windFits x.dir x.speed x.gust = true := by
 unfold Kwc.okWind at h
 simp only [Bool.and_eq_true] at h
 obtain ⟨⟨⟨h1, h2⟩, h3⟩, h4⟩ := h
 have h1' : x.speed ≤ 99 := by simpa using h1
 have h2' : x.gust = 0 \/ x.speed < x.gust /\ x.gust ≤ 99 := by simpa using h2
 refine ⟨h1', by omega, ?_, ?_⟩
 ·split at h3
  ·simp at h3; exact .inr (.inl h3.1)
  ·simp at h3; rcases h3 with h | h
   ·exact .inl h
   ·exact .inr (.inr h)
 ·unfold windFits
  split
  ·rename_i hs
   rw [if_pos hs] at h3; exact h3
  ·rename_i hs
   rw [if_neg hs] at h3
   simp at h3 ⊢
   refine ⟨?_, by omega⟩
   rcases h3 with h | h
   ·omega
   ·have := tens_le h; omega
theorem wind_pieces (x : Wind) : (Kwc.windWord x).drop ((Kwc.windWord x).length - 2) = [75, 84] /\
  (Kwc.windWord x).take ((Kwc.windWord x).length - 2) = dirW x.dir ++ Kwc.digits 2 x.speed ++ (if x.gust = 0 then [] else Kwc.text "G" ++ Kwc.digits 2 x.gust) := by
 rw [windWord_eq]
 generalize (dirW x.dir ++ Kwc.digits 2 x.speed ++ (if x.gust = 0 then [] else Kwc.text "G" ++ Kwc.digits 2 x.gust)) = b
 have : (b ++ [75, 84]).length - 2 = b.length := by simp
 rw [this]
 exact ⟨by simp, by simp⟩
theorem dir_take (d : Nat) (l : T) : (dirW d ++ l).take 3 = dirW d /\ (dirW d ++ l).drop 3 = l := by
 have := dirW_length d
 constructor
 ·rw [List.take_append_of_le_length (by omega), List.take_of_length_le (by omega)]
 ·rw [List.drop_append_of_le_length (by omega), List.drop_of_length_le (by omega), List.nil_append]
theorem windOf_R {b : Bool} {x : Wind} (h : Kwc.okWind b x = true) : windOf (Kwc.windWord x) = some ⟨x.dir, x.speed, x.gust, 999, 999⟩ := by
 obtain ⟨h1, h2, h3, h4⟩ := okWind_parts h
 unfold windOf
 rw [if_pos (wind_pieces x).1, (wind_pieces x).2, List.append_assoc]
 have e5 : ∀ l : T, l.drop 5 = (l.drop 3).drop 2 := fun l => by simp
 rw [e5, (dir_take _ _).1, (dir_take _ _).2, take_digits, drop_digits, windDegrees_R h3, nw_digits (by decide) (by omega) (by omega) h1, gustsOf_R h2]
 simp [h4]
theorem sectorOf_S {w : T} {a b : Nat} (e : sectorOf w = some (a, b)) : w = Kwc.digits 3 a ++ Kwc.text "V" ++ Kwc.digits 3 b /\ Kwc.tens a = true /\ Kwc.tens b = true /\ a ≠ b := by
 unfold sectorOf at e
 split at e
 ·rename_i hl
  split at e
  ·rename_i x y e1 e2
   split at e
   ·cases e
   ·cases e
    have h1 := directionOf_S e1
    have h2 := directionOf_S e2
    refine ⟨?_, h1.2, h2.2, by assumption⟩
    rw [<- h1.1, <- h2.1]
    have h7 := hl.1
    match w, h7, hl.2 with
    | [a, b, c, d, e, f, g], _, h =>
     have h : d = 86 := h
     subst h; rfl
  ·cases e
 ·cases e
theorem sector_pieces (a b : Nat) : (Kwc.digits 3 a ++ Kwc.text "V" ++ Kwc.digits 3 b).length = 7 /\ (Kwc.digits 3 a ++ Kwc.text "V" ++ Kwc.digits 3 b).getD 3 0 = 86 /\
  (Kwc.digits 3 a ++ Kwc.text "V" ++ Kwc.digits 3 b).take 3 = Kwc.digits 3 a /\ (Kwc.digits 3 a ++ Kwc.text "V" ++ Kwc.digits 3 b).drop 4 = Kwc.digits 3 b := by
 simp only [Kwc.digits]
 exact ⟨rfl, rfl, rfl, rfl⟩
theorem sectorOf_R {a b : Nat} (h1 : Kwc.tens a = true) (h2 : Kwc.tens b = true) (h : a ≠ b) : sectorOf (Kwc.digits 3 a ++ Kwc.text "V" ++ Kwc.digits 3 b) = some (a, b) := by
 obtain ⟨p1, p2, p3, p4⟩ := sector_pieces a b
 unfold sectorOf
 rw [if_pos ⟨p1, p2⟩, p3, p4, directionOf_R h1, directionOf_R h2]
 simp [h]
theorem changeMannerOf_S {w : T} {k : Nat} (e : changeMannerOf w = some k) : (k = 1 \/ k = 2) /\ w = Kwc.text (if k = 1 then "BECMG" else "TEMPO") := by
 unfold changeMannerOf at e
 split at e
 ·rename_i h; cases e; exact ⟨.inl rfl, h⟩
 ·split at e
  ·rename_i h; cases e; exact ⟨.inr rfl, h⟩
  ·cases e
end My
end
section
set_option linter.all false
set_option autoImplicit false
namespace My
open Kwc (Bytes Wind Wx Cloud Sky Change Report)
def MANN : List T := [Kwc.text "MI", Kwc.text "BC", Kwc.text "PR", Kwc.text "DR", Kwc.text "BL", Kwc.text "SH", Kwc.text "TS", Kwc.text "FZ"]
def RAIN : List T := [Kwc.text "DZ", Kwc.text "RA", Kwc.text "SN", Kwc.text "SG", Kwc.text "PL", Kwc.text "GR", Kwc.text "GS"]
def OTHR : List T := [Kwc.text "BR", Kwc.text "FG", Kwc.text "FU", Kwc.text "VA", Kwc.text "DU", Kwc.text "SA", Kwc.text "HZ", Kwc.text "PO", Kwc.text "SQ", Kwc.text "FC", Kwc.text "SS", Kwc.text "DS"]
def KN : List T := RAIN ++ OTHR
def chop2 : T -> List T
 | [] => []
 | [a] => [[a]]
 | a :: b :: l => [a, b] :: chop2 l
theorem chop2_flat : ∀ l : T, (chop2 l).flatten = l
 | [] => rfl
 | [a] => rfl
 | a :: b :: l => by simp [chop2, chop2_flat l]
def allRain (ks : List T) : Bool := ks.all fun k => RAIN.contains k
def noTw : List T -> Bool
 | [] => true
 | k :: l => !(l.contains k) && noTw l
def kindsFit (ks : List T) : Bool := if 3 < ks.length \/ noTw ks = false then false else decide (ks.length < 2) || allRain ks
def strengthFits (s : Nat) (ks : List T) : Bool := s == 1 || (decide (0 < ks.length) && RAIN.contains (ks.headD []))
def mannerFits (m : T) (ks : List T) : Bool :=
 if m = Kwc.text "TS" then allRain ks
 else if ks.length = 0 then false
 else if [Kwc.text "MI", Kwc.text "BC", Kwc.text "PR"].contains m then ks == [Kwc.text "FG"]
 else if [Kwc.text "DR", Kwc.text "BL"].contains m then ks.length == 1 && [Kwc.text "SN", Kwc.text "DU", Kwc.text "SA"].contains (ks.headD [])
 else if m = Kwc.text "SH" then allRain ks && !(ks.contains (Kwc.text "DZ"))
 else if m = Kwc.text "FZ" then [Kwc.text "DZ", Kwc.text "RA"].contains (ks.headD []) || ks == [Kwc.text "FG"]
 else true
def wxFits (s : Nat) (m : T) (ks : List T) : Bool := kindsFit ks && strengthFits s ks && mannerFits m ks
def strengthOf (w : T) : Nat := if w.take 1 = [45] then 0 else if w.take 1 = [43] then 2 else 1
def bodyOf (w : T) : T := if strengthOf w = 1 then w else w.drop 1
def mannerOf (b : T) : T := if MANN.contains (b.take 2) then b.take 2 else []
def ix (l : List T) (k : T) : Nat := l.idxOf k + 1
def weatherOf (w : T) : Option Wx :=
 let s := strengthOf w
 let b := bodyOf w
 let m := mannerOf b
 let ks := chop2 (b.drop m.length)
 if (ks.all fun k => RAIN.contains k || OTHR.contains k) = false then none
 else if wxFits s m ks = false then none
 else some ⟨s, if m = [] then 0 else ix MANN m, ks.map (ix KN)⟩
theorem kn_name : ∀ k ∈ KN, Kwc.nameOf Kwc.kinds (ix KN k) = k := by decide
theorem kn_rng : ∀ k ∈ KN, 1 ≤ ix KN k /\ ix KN k ≤ 19 := by decide
theorem kn_rain : ∀ k ∈ KN, Kwc.rain (ix KN k) = RAIN.contains k := by decide
theorem kn_fg : ∀ k ∈ KN, (ix KN k == 9) = (k == Kwc.text "FG") := by decide
theorem kn_sds : ∀ k ∈ KN, (ix KN k == 3 || ix KN k == 12 || ix KN k == 13) = [Kwc.text "SN", Kwc.text "DU", Kwc.text "SA"].contains k := by decide
theorem kn_dr : ∀ k ∈ KN, (ix KN k == 1 || ix KN k == 2) = [Kwc.text "DZ", Kwc.text "RA"].contains k := by decide
theorem kn_inj {k j : T} (hk : k ∈ KN) (hj : j ∈ KN) (e : ix KN k = ix KN j) : k = j := by
 rw [<- kn_name k hk, <- kn_name j hj, e]
theorem kn_beq {k j : T} (hk : k ∈ KN) (hj : j ∈ KN) : (ix KN k == ix KN j) = (k == j) := by
 by_cases e : k = j
 ·subst e
  rw [beq_self_eq_true, beq_self_eq_true]
 ·have : ix KN k ≠ ix KN j := fun q => e (kn_inj hk hj q)
  rw [beq_eq_false_iff_ne.mpr this, beq_eq_false_iff_ne.mpr e]
theorem contains_kn {k : T} (hk : k ∈ KN) : ∀ {l : List T}, (∀ x ∈ l, x ∈ KN) -> (l.map (ix KN)).contains (ix KN k) = l.contains k
 | [], _ => rfl
 | x :: l, h => by
  rw [List.map_cons, List.contains_cons, List.contains_cons, contains_kn hk fun y hy => h y (by simp [hy]), kn_beq hk (h x (by simp))]
theorem noTw_kn : ∀ {l : List T}, (∀ x ∈ l, x ∈ KN) -> Kwc.noTwice (l.map (ix KN)) = noTw l
 | [], _ => rfl
 | x :: l, h => by
  have hl : ∀ y ∈ l, y ∈ KN := fun y hy => h y (by simp [hy])
  rw [List.map_cons, Kwc.noTwice, noTw, contains_kn (h x (by simp)) hl, noTw_kn hl]
theorem allRain_kn : ∀ {l : List T}, (∀ x ∈ l, x ∈ KN) -> (l.map (ix KN)).all Kwc.rain = allRain l
 | [], _ => rfl
 | x :: l, h => by
  have hl : ∀ y ∈ l, y ∈ KN := fun y hy => h y (by simp [hy])
  have ih := allRain_kn hl
  unfold allRain at ih ⊢
  rw [List.map_cons, List.all_cons, List.all_cons, ih, kn_rain x (h x (by simp))]
theorem rng_kn : ∀ {l : List T}, (∀ x ∈ l, x ∈ KN) -> ((l.map (ix KN)).all fun k => decide (1 ≤ k) && decide (k ≤ 19)) = true := fun {l} h => by
 rw [List.all_map, List.all_eq_true]
 intro x hx
 have := kn_rng x (h x hx)
 simp [this.1, this.2]
def dname (d : Nat) : T := Kwc.nameOf Kwc.descs d
theorem dname_mann : ∀ d, d < 9 -> 1 ≤ d -> MANN.contains (dname d) = true /\ (dname d).length = 2 /\ ix MANN (dname d) = d /\ dname d ≠ [] := by decide
theorem mann_dname : ∀ m ∈ MANN, dname (ix MANN m) = m /\ 1 ≤ ix MANN m /\ ix MANN m ≤ 8 /\ m.length = 2 := by decide
theorem kn_not_mann : ∀ k ∈ KN, MANN.contains k = false /\ k.length = 2 := by decide
theorem kind_kn : ∀ i, i < 20 -> 1 ≤ i -> Kwc.nameOf Kwc.kinds i ∈ KN /\ ix KN (Kwc.nameOf Kwc.kinds i) = i := by decide
set_option maxHeartbeats 1000000 in
theorem okWx_fits {s d : Nat} {ks : List T} (hs : s ≤ 2) (hd : d ≤ 8) (h : ∀ x ∈ ks, x ∈ KN) : Kwc.okWx ⟨s, d, ks.map (ix KN)⟩ = wxFits s (dname d) ks := by
 have hs' : decide (s ≤ 2) = true := by simp [hs]
 have hd' : decide (d ≤ 8) = true := by simp [hd]
 unfold Kwc.okWx wxFits
 simp only [hs', hd', rng_kn h, noTw_kn h, Bool.true_and, Bool.and_true, List.length_map]
 match ks, h with
 | [], _ =>
  have e1 : kindsFit [] = true := rfl
  simp only [List.map_nil, e1, noTw, Bool.true_and]
  have : ∀ d, d < 9 -> ∀ s, s < 3 -> (decide (([] : List T).length ≤ 3) && true && (d == 7 && s == 1)) = (strengthFits s [] && mannerFits (dname d) []) := by decide
  exact this d (by omega) s (by omega)
 | k :: l, h =>
  have hk : k ∈ KN := h k (by simp)
  have hl : ∀ y ∈ l, y ∈ KN := fun y hy => h y (by simp [hy])
  have hc : ((k :: l).map (ix KN)).contains 1 = (k :: l).contains (Kwc.text "DZ") := contains_kn (k := Kwc.text "DZ") (by decide) h
  have hr := kn_rain k hk
  have hrl := allRain_kn hl
  have hmt : (l.map (ix KN)).isEmpty = l.isEmpty := by cases l <;> rfl
  have hfg := kn_fg k hk
  have hsds := kn_sds k hk
  have hdr := kn_dr k hk
  have hfgl : (k :: l == [Kwc.text "FG"]) = (k == Kwc.text "FG" && l.isEmpty) := by cases l <;> simp
  have hall : allRain (k :: l) = (RAIN.contains k && allRain l) := rfl
  have hl1 : ((k :: l).length == 1) = l.isEmpty := by cases l <;> simp
  have hl2 : decide ((k :: l).length < 2) = l.isEmpty := by cases l <;> simp
  have hl0 : ¬ ((k :: l).length = 0) := by simp
  have hl0' : decide (0 < (k :: l).length) = true := by simp
  have e1 : kindsFit (k :: l) = (decide ((k :: l).length ≤ 3) && noTw (k :: l) && (l.isEmpty || (RAIN.contains k && allRain l))) := by
   unfold kindsFit
   rw [hl2, hall]
   by_cases a : (k :: l).length ≤ 3
   ·by_cases b : noTw (k :: l) = true
    ·rw [if_neg (fun q => by
      rcases q with q | q
      ·omega
      ·rw [b] at q; cases q), decide_eq_true a, b, Bool.true_and, Bool.true_and]
    ·have b' : noTw (k :: l) = false := by simpa using b
     rw [if_pos (.inr b'), b', Bool.and_false, Bool.false_and]
   ·rw [if_pos (.inl (by omega)), decide_eq_false a, Bool.false_and, Bool.false_and]
  rw [e1]
  unfold strengthFits
  have hER : l.isEmpty = true -> allRain l = true := fun e => by
   have : l = [] := List.isEmpty_iff.mp e
   subst this; rfl
  have m0 : mannerFits (dname 0) (k :: l) = true := rfl
  have m1 : ∀ d, d = 1 \/ d = 2 \/ d = 3 -> mannerFits (dname d) (k :: l) = (k == Kwc.text "FG" && l.isEmpty) := fun d h => by
   rw [<- hfgl]
   rcases h with rfl | rfl | rfl <;> rfl
  have m4 : ∀ d, d = 4 \/ d = 5 -> mannerFits (dname d) (k :: l) = (l.isEmpty && [Kwc.text "SN", Kwc.text "DU", Kwc.text "SA"].contains k) := fun d h => by
   rw [<- hl1]
   rcases h with rfl | rfl <;> rfl
  have m6 : mannerFits (dname 6) (k :: l) = ((RAIN.contains k && allRain l) && !((k :: l).contains (Kwc.text "DZ"))) := rfl
  have m7 : mannerFits (dname 7) (k :: l) = (RAIN.contains k && allRain l) := rfl
  have m8 : mannerFits (dname 8) (k :: l) = ([Kwc.text "DZ", Kwc.text "RA"].contains k || (k == Kwc.text "FG" && l.isEmpty)) := by
   rw [<- hfgl]; rfl
  simp only [List.map_cons, hr, hrl, hmt, List.headD_cons, hl0', Bool.true_and]
  rw [List.map_cons] at hc
  generalize (decide ((k :: l).length ≤ 3) && noTw (k :: l)) = AN
  have hd9 : d = 0 \/ (d = 1 \/ d = 2 \/ d = 3) \/ (d = 4 \/ d = 5) \/ d = 6 \/ d = 7 \/ d = 8 := by omega
  rcases hd9 with rfl | h1 | h4 | rfl | rfl | rfl
  ·rw [m0]
   generalize RAIN.contains k = R; generalize (s == 1) = S1; generalize allRain l = AR; generalize l.isEmpty = E
   cases AN <;> cases R <;> cases S1 <;> cases AR <;> cases E <;> rfl
  ·rw [m1 d h1, <- hfg]
   rcases h1 with rfl | rfl | rfl
   all_goals
    simp only
    generalize RAIN.contains k = R; generalize (s == 1) = S1; generalize allRain l = AR; generalize l.isEmpty = E; generalize (ix KN k == 9) = F
    cases AN <;> cases R <;> cases S1 <;> cases AR <;> cases E <;> cases F <;> rfl
  ·rw [m4 d h4, <- hsds]
   rcases h4 with rfl | rfl
   all_goals
    simp only
    generalize (ix KN k == 3 || ix KN k == 12 || ix KN k == 13) = F
    generalize RAIN.contains k = R; generalize (s == 1) = S1; generalize allRain l = AR; generalize l.isEmpty = E
    cases AN <;> cases R <;> cases S1 <;> cases AR <;> cases E <;> cases F <;> rfl
  ·rw [m6]
   simp only [hc]
   revert hER
   generalize RAIN.contains k = R; generalize (s == 1) = S1; generalize allRain l = AR; generalize l.isEmpty = E; generalize (k :: l).contains (Kwc.text "DZ") = D
   cases AN <;> cases R <;> cases S1 <;> cases AR <;> cases E <;> cases D <;> simp
  ·rw [m7]
   revert hER
   simp only
   generalize RAIN.contains k = R; generalize (s == 1) = S1; generalize allRain l = AR; generalize l.isEmpty = E
   cases AN <;> cases R <;> cases S1 <;> cases AR <;> cases E <;> simp
  ·rw [m8, <- hfg, <- hdr]
   simp only
   generalize (ix KN k == 1) = D1; generalize (ix KN k == 2) = D2; generalize (ix KN k == 9) = D9
   generalize RAIN.contains k = R; generalize (s == 1) = S1; generalize allRain l = AR; generalize l.isEmpty = E
   cases AN <;> cases R <;> cases S1 <;> cases AR <;> cases E <;> cases D1 <;> cases D2 <;> cases D9 <;> rfl
def signW (s : Nat) : T := if s = 0 then Kwc.text "-" else if s = 2 then Kwc.text "+" else []
theorem wxWord_eq (x : Wx) : Kwc.wxWord x = signW x.strength ++ (dname x.desc ++ x.kinds.flatMap (Kwc.nameOf Kwc.kinds)) := by
 unfold Kwc.wxWord signW dname; rw [List.append_assoc]
theorem flat_names : ∀ {ks : List T}, (∀ x ∈ ks, x ∈ KN) -> (ks.map (ix KN)).flatMap (Kwc.nameOf Kwc.kinds) = ks.flatten
 | [], _ => rfl
 | k :: l, h => by
  rw [List.map_cons, List.flatMap_cons, flat_names fun y hy => h y (by simp [hy]), kn_name k (h k (by simp))]; rfl
theorem strength_le (w : T) : strengthOf w ≤ 2 := by
 unfold strengthOf; split
 ·omega
 ·split <;> omega
theorem sign_body (w : T) : signW (strengthOf w) ++ bodyOf w = w := by
 have key : ∀ b, w.take 1 = [b] -> [b] ++ w.drop 1 = w := fun b h => by
  rw [<- h, List.take_append_drop]
 unfold bodyOf
 by_cases h1 : w.take 1 = [45]
 ·have e : strengthOf w = 0 := if_pos h1
  rw [e]; exact key 45 h1
 ·by_cases h2 : w.take 1 = [43]
  ·have e : strengthOf w = 2 := by unfold strengthOf; rw [if_neg h1, if_pos h2]
   rw [e]; exact key 43 h2
  ·have e : strengthOf w = 1 := by unfold strengthOf; rw [if_neg h1, if_neg h2]
   rw [e]; rfl
theorem manner_body (b : T) : mannerOf b ++ b.drop (mannerOf b).length = b /\ (mannerOf b = [] \/ mannerOf b ∈ MANN) := by
 unfold mannerOf
 split
 ·rename_i h
  have hm : b.take 2 ∈ MANN := by simpa using h
  have h2 := (mann_dname _ hm).2.2.2
  rw [h2]
  exact ⟨List.take_append_drop 2 b, .inr hm⟩
 ·exact ⟨rfl, .inl rfl⟩
theorem weatherOf_S {w : T} {x : Wx} (e : weatherOf w = some x) : w = Kwc.wxWord x /\ Kwc.okWx x = true := by
 unfold weatherOf at e
 simp only at e
 split at e
 ·cases e
 ·rename_i hall
  split at e
  ·cases e
  ·rename_i hf
   cases e
   have hks : ∀ k ∈ chop2 ((bodyOf w).drop (mannerOf (bodyOf w)).length), k ∈ KN := fun k hk => by
    have h1 : (chop2 ((bodyOf w).drop (mannerOf (bodyOf w)).length)).all (fun k => RAIN.contains k || OTHR.contains k) = true := by
     cases q : (chop2 ((bodyOf w).drop (mannerOf (bodyOf w)).length)).all (fun k => RAIN.contains k || OTHR.contains k) with
     | true => rfl
     | false => exact absurd q hall
    have h2 := List.all_eq_true.mp h1 k hk
    unfold KN
    simpa using h2
   have hf' : wxFits (strengthOf w) (mannerOf (bodyOf w)) (chop2 ((bodyOf w).drop (mannerOf (bodyOf w)).length)) = true := by simpa using hf
   obtain ⟨hm1, hm2⟩ := manner_body (bodyOf w)
   have hdn : dname (if mannerOf (bodyOf w) = [] then 0 else ix MANN (mannerOf (bodyOf w))) = mannerOf (bodyOf w) /\ (if mannerOf (bodyOf w) = [] then 0 else ix MANN (mannerOf (bodyOf w))) ≤ 8 := by
    by_cases q : mannerOf (bodyOf w) = []
    ·rw [if_pos q, q]; exact ⟨rfl, by decide⟩
    ·rw [if_neg q]
     rcases hm2 with h | h
     ·exact absurd h q
     ·have := mann_dname _ h
      exact ⟨this.1, this.2.2.1⟩
   constructor
   ·rw [wxWord_eq]
    simp only
    rw [hdn.1, flat_names hks, chop2_flat, hm1, sign_body]
   ·rw [okWx_fits (strength_le w) hdn.2 hks, hdn.1]
    exact hf'
theorem kinds_names : ∀ {l : List Nat}, (l.all fun k => decide (1 ≤ k) && decide (k ≤ 19)) = true -> (∀ x ∈ l.map (Kwc.nameOf Kwc.kinds), x ∈ KN) /\ (l.map (Kwc.nameOf Kwc.kinds)).map (ix KN) = l
 | [], _ => ⟨by simp, rfl⟩
 | k :: l, h => by
  rw [List.all_cons, Bool.and_eq_true] at h
  obtain ⟨h1, h2⟩ := kinds_names h.2
  have hk : 1 ≤ k /\ k ≤ 19 := by simpa using h.1
  obtain ⟨a, b⟩ := kind_kn k (by omega) hk.1
  refine ⟨fun x hx => ?_, ?_⟩
  ·rw [List.map_cons, List.mem_cons] at hx
   rcases hx with rfl | hx
   ·exact a
   ·exact h1 x hx
  ·rw [List.map_cons, List.map_cons, h2, b]
theorem chop2_flatten : ∀ {ks : List T}, (∀ x ∈ ks, x.length = 2) -> chop2 ks.flatten = ks
 | [], _ => rfl
 | k :: l, h => by
  match k, h k (by simp) with
  | [a, b], _ =>
   rw [List.flatten_cons]
   show [a, b] :: chop2 l.flatten = _
   rw [chop2_flatten fun x hx => h x (by simp [hx])]
theorem kn_first : ∀ k ∈ KN, k.getD 0 0 ≠ 45 /\ k.getD 0 0 ≠ 43 := by decide
theorem mann_first : ∀ k ∈ MANN, k.getD 0 0 ≠ 45 /\ k.getD 0 0 ≠ 43 := by decide
structure Shape (x : Wx) (ks : List T) : Prop where
 all : ∀ k ∈ ks, k ∈ KN
 map : ks.map (ix KN) = x.kinds
 word : Kwc.wxWord x = signW x.strength ++ (dname x.desc ++ ks.flatten)
 s2 : x.strength ≤ 2
 d8 : x.desc ≤ 8
 ne : x.desc = 0 -> ks ≠ []
 len : ks.length ≤ 3
theorem shape_of {x : Wx} (h : Kwc.okWx x = true) : Shape x (x.kinds.map (Kwc.nameOf Kwc.kinds)) := by
 unfold Kwc.okWx at h
 simp only [Bool.and_eq_true] at h
 obtain ⟨⟨⟨⟨⟨h1, h2⟩, h3⟩, h4⟩, h5⟩, h6⟩ := h
 obtain ⟨ka, kb⟩ := kinds_names h4
 refine ⟨ka, kb, ?_, by simpa using h1, by simpa using h2, ?_, by simpa using h3⟩
 ·rw [wxWord_eq, List.flatMap_def]
 ·intro hd e
  have : x.kinds = [] := by simpa using e
  rw [this, hd] at h6
  simp at h6
theorem body_first {x : Wx} {ks : List T} (h : Shape x ks) : ∃ nm rest, dname x.desc ++ ks.flatten = nm ++ rest /\ (nm ∈ MANN \/ nm ∈ KN) /\ ((nm ∈ MANN /\ nm = dname x.desc /\ rest = ks.flatten) \/ (x.desc = 0 /\ nm ∈ KN)) := by
 by_cases hd : x.desc = 0
 ·have hne := h.ne hd
  match ks, hne, h with
  | k :: l, _, h =>
   refine ⟨k, l.flatten, ?_, .inr (h.all k (by simp)), .inr ⟨hd, h.all k (by simp)⟩⟩
   rw [hd]; rfl
 ·have := dname_mann x.desc (by have := h.d8; omega) (by omega)
  have hm : dname x.desc ∈ MANN := by simpa using this.1
  exact ⟨dname x.desc, ks.flatten, rfl, .inl hm, .inl ⟨hm, rfl, rfl⟩⟩
theorem first2 : ∀ nm, nm ∈ MANN \/ nm ∈ KN -> nm.length = 2 /\ nm.getD 0 0 ≠ 45 /\ nm.getD 0 0 ≠ 43 := by
 intro nm h
 rcases h with h | h
 ·exact ⟨(mann_dname nm h).2.2.2, mann_first nm h⟩
 ·exact ⟨(kn_not_mann nm h).2, kn_first nm h⟩
theorem strength_word {x : Wx} {ks : List T} (h : Shape x ks) : strengthOf (Kwc.wxWord x) = x.strength /\ bodyOf (Kwc.wxWord x) = dname x.desc ++ ks.flatten := by
 obtain ⟨nm, rest, hb, hm, _⟩ := body_first h
 have f2 := first2 nm hm
 rw [h.word, hb]
 match nm, f2 with
 | [a, b], ⟨_, f⟩ =>
  have h45 : a ≠ 45 := f.1
  have h43 : a ≠ 43 := f.2
  have hs : x.strength = 0 \/ x.strength = 1 \/ x.strength = 2 := by have := h.s2; omega
  rcases hs with e | e | e
  ·rw [e]; exact ⟨rfl, rfl⟩
  ·rw [e]
   have e1 : strengthOf (signW 1 ++ ([a, b] ++ rest)) = 1 := by
    unfold strengthOf
    rw [if_neg, if_neg]
    ·intro q; exact h43 (List.cons.inj q).1
    ·intro q; exact h45 (List.cons.inj q).1
   refine ⟨e1, ?_⟩
   unfold bodyOf; rw [e1]; rfl
  ·rw [e]; exact ⟨rfl, rfl⟩
theorem manner_word {x : Wx} {ks : List T} (h : Shape x ks) : mannerOf (dname x.desc ++ ks.flatten) = dname x.desc := by
 obtain ⟨nm, rest, hb, hm, hc⟩ := body_first h
 have f2 := first2 nm hm
 have ht : (dname x.desc ++ ks.flatten).take 2 = nm := by
  rw [hb, List.take_append_of_le_length (by omega), List.take_of_length_le (by omega)]
 unfold mannerOf
 rw [ht]
 rcases hc with ⟨h1, h2, _⟩ | ⟨h1, h2⟩
 ·rw [if_pos (by simpa using h1), h2]
 ·have := (kn_not_mann nm h2).1
  rw [if_neg (by simp only [this]; decide), h1]; rfl
theorem weatherOf_R {x : Wx} (hx : Kwc.okWx x = true) : weatherOf (Kwc.wxWord x) = some x := by
 have h := shape_of hx
 obtain ⟨e1, e2⟩ := strength_word h
 have e3 := manner_word h
 have hl : ∀ k ∈ x.kinds.map (Kwc.nameOf Kwc.kinds), k.length = 2 := fun k hk => (kn_not_mann k (h.all k hk)).2
 have hd : (dname x.desc ++ (x.kinds.map (Kwc.nameOf Kwc.kinds)).flatten).drop (dname x.desc).length = (x.kinds.map (Kwc.nameOf Kwc.kinds)).flatten := List.drop_left
 have hfit : wxFits x.strength (dname x.desc) (x.kinds.map (Kwc.nameOf Kwc.kinds)) = true := by
  rw [<- okWx_fits h.s2 h.d8 h.all, h.map]; exact hx
 have hall : ((x.kinds.map (Kwc.nameOf Kwc.kinds)).all fun k => RAIN.contains k || OTHR.contains k) = true := by
  rw [List.all_eq_true]
  intro k hk
  have := h.all k hk
  unfold KN at this
  simpa using this
 have hdd : (if dname x.desc = [] then 0 else ix MANN (dname x.desc)) = x.desc := by
  by_cases q : x.desc = 0
  ·rw [q]; rfl
  ·have := dname_mann x.desc (by have := h.d8; omega) (by omega)
   rw [if_neg this.2.2.2, this.2.2.1]
 unfold weatherOf
 simp only
 rw [e1, e2, e3, hd, chop2_flatten hl, hall, hfit, h.map, hdd]
 rfl
theorem place_desc : ∀ m ∈ MANN, Kwc.placeIn (Kwc.descs.drop 1) m 1 = some (ix MANN m) := by decide
theorem place_desc_kn : ∀ m ∈ KN, Kwc.placeIn (Kwc.descs.drop 1) m 1 = none := by decide
theorem place_kind : ∀ m ∈ KN, Kwc.placeIn (Kwc.kinds.drop 1) m 1 = some (ix KN m) := by decide
theorem twos_flat : ∀ {ks : List T} (f : Nat), ks.length ≤ f -> (∀ k ∈ ks, k ∈ KN) -> Kwc.twos f ks.flatten = some (ks.map (ix KN))
 | [], f, _, _ => by cases f <;> rfl
 | k :: l, 0, h, _ => by simp at h
 | k :: l, f + 1, h, ha => by
  have hk := ha k (by simp)
  have ih := twos_flat (ks := l) f (by simpa using h) fun y hy => ha y (by simp [hy])
  have hp := place_kind k hk
  match k, (kn_not_mann k hk).2, hp with
  | [a, b], _, hp =>
   show (match Kwc.placeIn (Kwc.kinds.drop 1) [a, b] 1 with
    | none => none
    | some k => (Kwc.twos f l.flatten).map fun r => k :: r) = _
   rw [hp, ih]; rfl
def rb (s : Nat) (l : T) : Option Wx :=
 let d := (Kwc.placeIn (Kwc.descs.drop 1) (l.take 2) 1).getD 0
 match Kwc.twos 4 (if d = 0 then l else l.drop 2) with
 | none => none
 | some k => if d = 0 /\ k.isEmpty = true then none else some ⟨s, d, k⟩
theorem readWx_minus (l : T) : Kwc.readWx (45 :: l) = rb 0 l := rfl
theorem readWx_plus (l : T) : Kwc.readWx (43 :: l) = rb 2 l := rfl
theorem readWx_other (a : Nat) (l : T) (h45 : a ≠ 45) (h43 : a ≠ 43) : Kwc.readWx (a :: l) = rb 1 (a :: l) := by
 have e : Kwc.readWx.match_3 (fun _ => Nat × List Nat) (a :: l) (fun l => (0, l)) (fun l => (2, l)) (fun l => (1, l)) = (1, a :: l) := by
  split
  ·rename_i q; exact absurd (List.cons.inj q).1 h45
  ·rename_i q; exact absurd (List.cons.inj q).1 h43
  ·rfl
 unfold Kwc.readWx rb
 dsimp only
 rw [e]
 rfl
theorem readWx_R {x : Wx} (hx : Kwc.okWx x = true) : Kwc.readWx (Kwc.wxWord x) = some x := by
 have h := shape_of hx
 obtain ⟨nm, rest, hb, hm, hc⟩ := body_first h
 have f2 := first2 nm hm
 have ht : (nm ++ rest).take 2 = nm := by
  rw [List.take_append_of_le_length (by omega), List.take_of_length_le (by omega)]
 have hp : (Kwc.placeIn (Kwc.descs.drop 1) nm 1).getD 0 = x.desc := by
  rcases hc with ⟨h1, h2, _⟩ | ⟨h1, h2⟩
  ·rw [place_desc nm h1, h2]
   by_cases q : x.desc = 0
   ·rw [h2, q] at h1; exact absurd h1 (by decide)
   ·exact (dname_mann x.desc (by have := h.d8; omega) (by omega)).2.2.1
  ·rw [place_desc_kn nm h2, h1]; rfl
 have hr : (if x.desc = 0 then nm ++ rest else (nm ++ rest).drop 2) = (x.kinds.map (Kwc.nameOf Kwc.kinds)).flatten := by
  rcases hc with ⟨h1, h2, h3⟩ | ⟨h1, h2⟩
  ·by_cases q : x.desc = 0
   ·rw [h2, q] at h1; exact absurd h1 (by decide)
   ·rw [if_neg q, List.drop_append_of_le_length (by omega), List.drop_of_length_le (by omega), h3]; rfl
  ·rw [if_pos h1, <- hb, h1]; rfl
 have htw := twos_flat (ks := x.kinds.map (Kwc.nameOf Kwc.kinds)) 4 (by have := h.len; omega) h.all
 rw [h.map] at htw
 have main : ∀ s, s = x.strength -> rb s (nm ++ rest) = some x := by
  intro s hs
  unfold rb
  simp only
  rw [ht, hp, hr, htw]
  simp only
  rw [if_neg, hs]
  intro ⟨q1, q2⟩
  have h0 := h.ne q1
  have : x.kinds = [] := by simpa using q2
  rw [this] at h0; exact h0 rfl
 rw [h.word, hb]
 match nm, f2, main with
 | [a, b], ⟨_, f⟩, main =>
  have h45 : a ≠ 45 := f.1
  have h43 : a ≠ 43 := f.2
  have hs : x.strength = 0 \/ x.strength = 1 \/ x.strength = 2 := by have := h.s2; omega
  rcases hs with e | e | e
  ·rw [e]; exact (readWx_minus _).trans (main 0 e.symm)
  ·rw [e]; exact (readWx_other _ _ h45 h43).trans (main 1 e.symm)
  ·rw [e]; exact (readWx_plus _).trans (main 2 e.symm)
end My
end
section
set_option linter.all false
set_option autoImplicit false
namespace My
open Kwc (Bytes Wind Wx Cloud Sky Change Report one many)
def upto {A : Type} (f : T -> Option A) : Nat -> List T -> List A × List T
 | 0, l => ([], l)
 | n + 1, [] => ([], [])
 | n + 1, w :: l => match f w with
  | none => ([], w :: l)
  | some x => (x :: (upto f n l).1, (upto f n l).2)
def follows (cs : List Cloud) (c : Cloud) : Bool := match cs.getLast? with
 | none => true
 | some b => decide (cs.length < 4) && (b.amount != 4 && decide (b.height ≤ c.height))
def layersFrom : List Cloud -> List T -> List Cloud × List T
 | acc, [] => (acc, [])
 | acc, w :: l => match layerOf w with
  | none => (acc, w :: l)
  | some c => if follows acc c = true then layersFrom (acc ++ [c]) l else (acc, w :: l)
def takeSky (l : List T) : Option Sky × List T := match one plainSkyOf l with
 | (some s, r) => (some s, r)
 | (none, _) => match layersFrom [] l with
  | ([], r) => (none, r)
  | (c :: cs, r) => (some (.layers (c :: cs)), r)
def changedWx (w : T) : Option (List Wx) := if w = Kwc.text "NSW" then some [] else match weatherOf w with
 | some x => some [x]
 | none => none
structure Chg where
 wind : Option Wind
 sight : Option Nat
 wx : Option (List Wx)
 sky : Option Sky
def takeChanged (l : List T) : Option (Chg × List T) :=
 let w := one windOf l
 let s := one sightOf w.2
 let x := if s.1 = some 10000 then (none, s.2) else one changedWx s.2
 let z := if s.1 = some 10000 then (none, x.2) else takeSky x.2
 if w.1.isNone && s.1.isNone && x.1.isNone && z.1.isNone then none else some (⟨w.1, s.1, x.1, z.1⟩, z.2)
def takeChange (l : List T) : Option (Change × List T) := match one changeMannerOf l with
 | (none, _) => none
 | (some k, p) =>
  let a := one (fun w => markedMinutes w (Kwc.text "FM")) p
  let t := one (fun w => markedMinutes w (Kwc.text "TL")) a.2
  match takeChanged t.2 with
  | none => none
  | some (g, r) => some (⟨k, a.1, t.1, g.wind, g.sight, g.wx, g.sky⟩, r)
def takeChanges : Nat -> List T -> Option (List Change × List T)
 | 0, l => some ([], l)
 | n + 1, [] => some ([], [])
 | n + 1, w :: l => match takeChange (w :: l) with
  | none => none
  | some (c, r) => match takeChanges n r with
   | none => none
   | some (cs, q) => some (c :: cs, q)
def takeTrend (l : List T) : Option ((Nat × List Change) × List T) := match l with
 | [] => some ((0, []), [])
 | w :: r => if w = Kwc.text "NOSIG" then some ((1, []), r) else match takeChanges 3 (w :: r) with
  | none => none
  | some (cs, q) => some ((2, cs), q)
def takeWind (l : List T) : Option (Wind × List T) := match one windOf l with
 | (none, _) => none
 | (some w, r) => if w.dir ≠ 999 /\ w.speed ≠ 0 then match one sectorOf r with
   | (some p, q) => some ({ w with from_ := p.1, to := p.2 }, q)
   | (none, q) => some ({ w with from_ := 999, to := 999 }, q)
  else some ({ w with from_ := 999, to := 999 }, r)
def takeWxSky (n : Nat) (l : List T) : Option ((List Wx × Sky) × List T) := if n = 10000 then some (([], .clear), l) else
 let x := upto weatherOf 3 l
 match takeSky x.2 with
 | (none, _) => none
 | (some s, r) => some ((x.1, s), r)
def takeReport (l : List T) : Option Report := match one stationOf l with
 | (none, _) => none
 | (some st, l1) => match one momentOf l1 with
  | (none, _) => none
  | (some t, l2) => match takeWind l2 with
   | none => none
   | some (w, l3) => match one sightOf l3 with
    | (none, _) => none
    | (some n, l4) => match takeWxSky n l4 with
     | none => none
     | some (y, l5) => match one degreesOf l5 with
      | (none, _) => none
      | (some p, l6) => match one pressureOf l6 with
       | (none, _) => none
       | (some q, l7) => match takeTrend l7 with
        | none => none
        | some (c, l8) => if l8 = [] then some ⟨st, t.1, t.2.1, t.2.2, w, n, y.1, y.2, p.1, p.2, q, c.1, c.2⟩ else none
theorem one_cons {A : Type} (f : T -> Option A) (w : T) (l : List T) : one f (w :: l) = match f w with
 | none => (none, w :: l)
 | some x => (some x, l) := rfl
theorem one_some {A : Type} {f : T -> Option A} {l r : List T} {x : A} (h : one f l = (some x, r)) : ∃ w, l = w :: r /\ f w = some x := by
 match l, h with
 | w :: l, h =>
  rw [one_cons] at h
  split at h
  ·cases h
  ·rename_i y e; cases h; exact ⟨w, rfl, e⟩
theorem one_none {A : Type} {f : T -> Option A} {l r : List T} (h : one f l = (none, r)) : r = l := by
 match l, h with
 | [], h => cases h; rfl
 | w :: l, h =>
  rw [one_cons] at h
  split at h
  ·cases h; rfl
  ·cases h
theorem one_hit {A : Type} {f : T -> Option A} {w : T} {r : List T} {x : A} (h : f w = some x) : one f (w :: r) = (some x, r) := by
 rw [one_cons, h]
def HN {A : Type} (f : T -> Option A) (l : List T) : Prop := ∀ w r, l = w :: r -> f w = none
theorem HN.nil {A : Type} {f : T -> Option A} : HN f [] := fun _ _ h => by cases h
theorem HN.cons {A : Type} {f : T -> Option A} {w : T} {r : List T} (h : f w = none) : HN f (w :: r) := fun _ _ e => by cases e; exact h
theorem HN.app {A : Type} {f : T -> Option A} {a b : List T} (h1 : HN f a) (h2 : HN f b) : HN f (a ++ b) := fun w r e => by
 cases a with
 | nil => exact h2 w r e
 | cons x y => exact h1 x y rfl |> fun q => by cases e; exact q
theorem HN.one {A : Type} {f : T -> Option A} {l : List T} (h : HN f l) : one f l = (none, l) := by
 cases l with
 | nil => rfl
 | cons w r => rw [one_cons, h w r rfl]
theorem HN.many {A : Type} {f : T -> Option A} {l : List T} (h : HN f l) : many f l = ([], l) := by
 cases l with
 | nil => rfl
 | cons w r => unfold Kwc.many; rw [h w r rfl]
theorem HN.imp {A B : Type} {f : T -> Option A} {g : T -> Option B} {l : List T} (h : HN f l) (i : ∀ w x, g w = some x -> ∃ y, f w = some y) : HN g l := fun w r e => by
 have h1 := h w r e
 cases q : g w with
 | none => rfl
 | some x =>
  obtain ⟨y, hy⟩ := i w x q
  rw [h1] at hy; cases hy
theorem many_R {A : Type} {f : T -> Option A} {wd : A -> T} : ∀ {xs : List A} {r : List T}, (∀ x ∈ xs, f (wd x) = some x) -> HN f r -> many f (xs.map wd ++ r) = (xs, r)
 | [], r, _, h => h.many
 | x :: xs, r, hx, h => by
  rw [List.map_cons, List.cons_append, Kwc.many, hx x (by simp)]
  simp only
  rw [many_R (fun y hy => hx y (by simp [hy])) h]
theorem upto_R {A : Type} {f : T -> Option A} {wd : A -> T} : ∀ {xs : List A} {r : List T} (n : Nat), xs.length ≤ n -> (∀ x ∈ xs, f (wd x) = some x) -> HN f r -> upto f n (xs.map wd ++ r) = (xs, r)
 | [], r, 0, _, _, h => rfl
 | [], [], n + 1, _, _, h => rfl
 | [], w :: r, n + 1, _, _, h => by
  show upto f (n + 1) (w :: r) = _
  rw [upto, h w r rfl]
 | x :: xs, r, 0, hl, hx, h => by simp at hl
 | x :: xs, r, n + 1, hl, hx, h => by
  rw [List.map_cons, List.cons_append, upto, hx x (by simp)]
  simp only
  rw [upto_R n (by simpa using hl) (fun y hy => hx y (by simp [hy])) h]
theorem upto_S {A : Type} {f : T -> Option A} {wd : A -> T} (hf : ∀ w x, f w = some x -> w = wd x) : ∀ (n : Nat) (l : List T), l = (upto f n l).1.map wd ++ (upto f n l).2 /\ (upto f n l).1.length ≤ n /\ (∀ x ∈ (upto f n l).1, ∃ w, f w = some x)
 | 0, l => ⟨rfl, Nat.le_refl _, by simp [upto]⟩
 | n + 1, [] => ⟨rfl, Nat.zero_le _, by simp [upto]⟩
 | n + 1, w :: l => by
  unfold upto
  split
  ·exact ⟨rfl, Nat.zero_le _, by simp⟩
  ·rename_i x e
   obtain ⟨h1, h2, h3⟩ := upto_S hf n l
   refine ⟨?_, by simpa using h2, fun y hy => ?_⟩
   ·simp only [List.map_cons, List.cons_append]
    rw [<- hf w x e, <- h1]
   ·rcases List.mem_cons.mp hy with q | q
    ·subst q; exact ⟨w, e⟩
    ·exact h3 y q
def rngC (c : Cloud) : Bool := decide (1 ≤ c.amount) && decide (c.amount ≤ 4) && decide (c.height ≤ 300) && decide (c.kind ≤ 2)
theorem okLayers_snoc : ∀ (cs : List Cloud) (h : Nat) (c : Cloud), Kwc.okLayers h cs = true -> rngC c = true -> (∀ b, cs.getLast? = some b -> b.amount ≠ 4 /\ b.height ≤ c.height) -> (cs = [] -> h ≤ c.height) -> Kwc.okLayers h (cs ++ [c]) = true
 | [], h, c, _, hr, _, h0 => by
  have h1 := h0 rfl
  simp [rngC] at hr
  simp [Kwc.okLayers, hr, h1]
 | [b], h, c, hb, hr, hl, _ => by
  have h1 := hl b rfl
  simp [rngC] at hr
  simp [Kwc.okLayers] at hb
  simp [Kwc.okLayers, hr, h1, hb]
 | b :: b2 :: cs, h, c, hb, hr, hl, _ => by
  have ih := okLayers_snoc (b2 :: cs) b.height c (by
   rw [Kwc.okLayers] at hb
   simp only [Bool.and_eq_true] at hb
   exact hb.2) hr (fun x hx => hl x (by simpa using hx)) (fun q => by cases q)
  rw [List.cons_append, Kwc.okLayers]
  rw [Kwc.okLayers] at hb
  simp only [Bool.and_eq_true] at hb ⊢
  exact ⟨hb.1, ih⟩
theorem okLayers_mid : ∀ (acc : List Cloud) (h : Nat) (c : Cloud) (n : List Cloud), Kwc.okLayers h (acc ++ c :: n) = true -> rngC c = true /\ (∀ b, acc.getLast? = some b -> b.amount ≠ 4 /\ b.height ≤ c.height)
 | [], h, c, n, hb => by
  simp [Kwc.okLayers] at hb
  refine ⟨by simp [rngC]; omega, by simp⟩
 | [b], h, c, n, hb => by
  simp [Kwc.okLayers] at hb
  refine ⟨by simp [rngC]; omega, fun x hx => ?_⟩
  have : b = x := by simpa using hx
  subst this; omega
 | b :: b2 :: acc, h, c, n, hb => by
  have ih := okLayers_mid (b2 :: acc) b.height c n (by
   rw [List.cons_append, Kwc.okLayers] at hb
   simp only [Bool.and_eq_true] at hb
   exact hb.2)
  exact ⟨ih.1, fun x hx => ih.2 x (by simpa using hx)⟩
theorem layerOf_rng {w : T} {c : Cloud} (e : layerOf w = some c) : w = Kwc.cloudWord c /\ rngC c = true := by
 have h := layerOf_S e
 refine ⟨h.1, ?_⟩
 simp [rngC]; omega
theorem layers_S : ∀ (l : List T) (acc : List Cloud), Kwc.okLayers 0 acc = true -> acc.length ≤ 4 -> ∃ new, (layersFrom acc l).1 = acc ++ new /\ l = new.map Kwc.cloudWord ++ (layersFrom acc l).2 /\ Kwc.okLayers 0 (layersFrom acc l).1 = true /\ (layersFrom acc l).1.length ≤ 4
 | [], acc, h, h4 => ⟨[], by simp [layersFrom], rfl, h, h4⟩
 | w :: l, acc, h, h4 => by
  unfold layersFrom
  split
  ·exact ⟨[], by simp, rfl, h, h4⟩
  ·rename_i c e
   split
   ·rename_i hf
    have hc := layerOf_rng e
    have hlt : acc.length + 1 ≤ 4 /\ ∀ b, acc.getLast? = some b -> b.amount ≠ 4 /\ b.height ≤ c.height := by
     unfold follows at hf
     split at hf
     ·rename_i q
      have : acc = [] := by simpa using q
      subst this
      exact ⟨by simp, by simp⟩
     ·rename_i b q
      simp at hf
      exact ⟨by omega, fun b' hb' => by rw [q] at hb'; cases hb'; exact hf.2⟩
    obtain ⟨new, e1, e2, e3, e4⟩ := layers_S l (acc ++ [c]) (okLayers_snoc acc 0 c h hc.2 hlt.2 (fun _ => Nat.zero_le _)) (by simp; omega)
    refine ⟨c :: new, by rw [e1]; simp, ?_, e3, e4⟩
    rw [List.map_cons, List.cons_append, <- hc.1, <- e2]
   ·exact ⟨[], by simp, rfl, h, h4⟩
theorem layers_R : ∀ (new : List Cloud) (acc : List Cloud) (r : List T), Kwc.okLayers 0 (acc ++ new) = true -> (acc ++ new).length ≤ 4 -> HN layerOf r -> layersFrom acc (new.map Kwc.cloudWord ++ r) = (acc ++ new, r)
 | [], acc, [], _, _, _ => by simp [layersFrom]
 | [], acc, w :: r, _, _, h => by
  show layersFrom acc (w :: r) = _
  rw [layersFrom, h w r rfl]; simp
 | c :: new, acc, r, ho, hl, h => by
  obtain ⟨hr, hm⟩ := okLayers_mid acc 0 c new ho
  have hR : layerOf (Kwc.cloudWord c) = some c := by
   simp [rngC] at hr
   exact layerOf_R hr.1.1.1 hr.1.1.2 hr.1.2 hr.2
  have hf : follows acc c = true := by
   unfold follows
   split
   ·rfl
   ·rename_i b q
    have := hm b q
    simp at hl
    simp; omega
  rw [List.map_cons, List.cons_append, layersFrom, hR]
  simp only
  rw [if_pos hf, layers_R new (acc ++ [c]) r (by simpa using ho) (by simpa using hl) h]
  simp
theorem okSky_layers {cs : List Cloud} (h : Kwc.okSky (.layers cs) = true) : cs ≠ [] /\ cs.length ≤ 4 /\ Kwc.okLayers 0 cs = true := by
 simp [Kwc.okSky] at h
 exact ⟨h.1.1, h.1.2, h.2⟩
theorem takeSky_S (l : List T) : (∀ s r, takeSky l = (some s, r) -> l = Kwc.skyWords s ++ r /\ Kwc.okSky s = true) /\ (∀ r, takeSky l = (none, r) -> r = l) := by
 have hL := layers_S l [] rfl (by simp)
 obtain ⟨new, e1, e2, e3, e4⟩ := hL
 unfold takeSky
 split
 ·rename_i s r e
  obtain ⟨w, h1, h2⟩ := one_some e
  have h3 := plainSkyOf_S h2
  refine ⟨fun s' r' q => ?_, fun r' q => by cases q⟩
  cases q
  rw [h1, <- h3.1]; exact ⟨rfl, h3.2⟩
 ·split
  ·rename_i r e
   rw [e] at e1 e2
   simp at e1
   subst e1
   refine ⟨fun s' r' q => by (cases q), fun r' q => ?_⟩
   cases q; simpa using e2.symm
  ·rename_i c cs r e
   rw [e] at e1 e2 e3 e4
   simp at e1 e2 e3 e4
   subst e1
   refine ⟨fun s' r' q => ?_, fun r' q => by (cases q)⟩
   cases q
   refine ⟨e2, ?_⟩
   simp [Kwc.okSky, e3]; omega
end My
end
section
set_option linter.all false
set_option autoImplicit false
namespace My
open Kwc (Bytes Wind Wx Cloud Sky Change Report one many)
theorem readTime_R {d h m : Nat} (h1 : d < 100) (h2 : h < 100) (h3 : m < 100) : Kwc.readTime (Kwc.digits 2 d ++ Kwc.digits 2 h ++ Kwc.digits 2 m ++ Kwc.text "Z") = some (d, h, m) := by
 have p : (Kwc.digits 2 d ++ Kwc.digits 2 h ++ Kwc.digits 2 m ++ Kwc.text "Z").length = 7 /\ (Kwc.digits 2 d ++ Kwc.digits 2 h ++ Kwc.digits 2 m ++ Kwc.text "Z").getD 6 0 = 90 /\
   (Kwc.digits 2 d ++ Kwc.digits 2 h ++ Kwc.digits 2 m ++ Kwc.text "Z").take 2 = Kwc.digits 2 d /\ ((Kwc.digits 2 d ++ Kwc.digits 2 h ++ Kwc.digits 2 m ++ Kwc.text "Z").drop 2).take 2 = Kwc.digits 2 h /\ ((Kwc.digits 2 d ++ Kwc.digits 2 h ++ Kwc.digits 2 m ++ Kwc.text "Z").drop 4).take 2 = Kwc.digits 2 m := by
  simp only [Kwc.digits]
  exact ⟨rfl, rfl, rfl, rfl, rfl⟩
 unfold Kwc.readTime
 rw [if_pos ⟨p.1, p.2.1⟩, p.2.2.1, p.2.2.2.1, p.2.2.2.2, whole_digits (by decide) h1, whole_digits (by decide) h2, whole_digits (by decide) h3]
theorem readSector_R {a b : Nat} (h1 : a < 1000) (h2 : b < 1000) : Kwc.readSector (Kwc.digits 3 a ++ Kwc.text "V" ++ Kwc.digits 3 b) = some (a, b) := by
 obtain ⟨p1, p2, p3, p4⟩ := sector_pieces a b
 unfold Kwc.readSector
 rw [if_pos ⟨p1, p2⟩, p3, p4, whole_digits (by decide) h1, whole_digits (by decide) h2]
theorem readSight_R {n : Nat} (h : (n == Kwc.cavok || Kwc.okSight n) = true) : Kwc.readSight (Kwc.sightWord n) = some n := by
 unfold Kwc.sightWord Kwc.readSight
 by_cases e : n = Kwc.cavok
 ·rw [if_pos e, e]; rfl
 ·rw [if_neg e]
  have h' : Kwc.okSight n = true := by
   rw [Bool.or_eq_true] at h
   rcases h with h | h
   ·exact absurd (by simpa using h) e
   ·exact h
  have := okSight_le h'
  have hne : (Kwc.digits 4 n == Kwc.text "CAVOK") = false := beq_eq_false_iff_ne.mpr (digits_ne_of (b := 67) (by decide) (by decide))
  rw [hne, whole_digits (by decide) (by omega)]
  rfl
theorem readUp_R {h : Nat} (hh : h ≤ 100) : Kwc.readUp (Kwc.text "VV" ++ Kwc.digits 3 h) = some h := by
 show Kwc.whole 3 (Kwc.digits 3 h) = some h
 exact whole_digits (by decide) (by omega)
theorem press_R {n : Nat} (h : n ≤ 1100) : (Kwc.after (Kwc.text "Q") (Kwc.text "Q" ++ Kwc.digits 4 n)).bind (Kwc.whole 4) = some n := by
 show Kwc.whole 4 (Kwc.digits 4 n) = some n
 exact whole_digits (by decide) (by omega)
theorem readClock_R {p : String} {n : Nat} (h : n < 1440) : Kwc.readClock p (Kwc.text p ++ Kwc.clock n) = some n := by
 unfold Kwc.readClock Kwc.after
 have e : (List.take (Kwc.text p).length (Kwc.text p ++ Kwc.clock n) == Kwc.text p) = true := by simp
 rw [e, if_pos rfl, List.drop_left]
 simp only [Kwc.clock]
 have t1 : List.take 2 (Kwc.digits 2 (n / 60) ++ Kwc.digits 2 (n % 60)) = Kwc.digits 2 (n / 60) := take_digits _ _ _
 have t2 : List.drop 2 (Kwc.digits 2 (n / 60) ++ Kwc.digits 2 (n % 60)) = Kwc.digits 2 (n % 60) := drop_digits _ _ _
 rw [t1, t2, whole_digits (by decide) (by omega), whole_digits (by decide) (by omega)]
 simp only
 rw [if_pos ⟨by omega, by omega⟩]
 congr 1; omega
theorem readDegrees_R {t : Int} (h : Kwc.okDegrees t = true) : Kwc.readDegrees (Kwc.degrees t) = some t := by
 have hb : -60 ≤ t /\ t ≤ 60 := by simpa [Kwc.okDegrees] using h
 unfold Kwc.degrees
 by_cases e : t < 0
 ·rw [if_pos e]
  obtain ⟨k, hk⟩ : ∃ k, (-t).toNat = k + 1 := ⟨(-t).toNat - 1, by omega⟩
  show (match Kwc.whole 2 (Kwc.digits 2 (-t).toNat) with
   | some (n + 1) => some (-((n : Int) + 1))
   | _ => none) = some t
  rw [whole_digits (by decide) (by omega), hk]
  simp only
  congr 1; omega
 ·rw [if_neg e]
  unfold Kwc.readDegrees
  split
  ·rename_i q
   have : (77 : Nat) ∈ Kwc.digits 2 t.toNat := by rw [q]; simp
   exact absurd this (not_mem_digits (by decide))
  ·rw [whole_digits (by decide) (by omega)]
   simp; omega
theorem span_loop {p : Nat -> Bool} {c : Nat} {r : T} (hc : p c = false) : ∀ (a acc : T), (∀ b ∈ a, p b = true) -> List.span.loop p (a ++ c :: r) acc = (acc.reverse ++ a, c :: r)
 | [], acc, _ => by
  show List.span.loop p (c :: r) acc = _
  rw [List.span.loop, hc]; simp
 | x :: a, acc, h => by
  rw [List.cons_append, List.span.loop, h x (by simp)]
  simp only
  rw [span_loop hc a (x :: acc) fun b hb => h b (by simp [hb])]
  simp
theorem span_at {p : Nat -> Bool} {c : Nat} {r : T} (hc : p c = false) {a : T} (h : ∀ b ∈ a, p b = true) : (a ++ c :: r).span p = (a, c :: r) := span_loop hc a [] h
theorem readPair_R {t d : Int} (h1 : Kwc.okDegrees t = true) (h2 : Kwc.okDegrees d = true) : Kwc.readPair (Kwc.degrees t ++ Kwc.text "/" ++ Kwc.degrees d) = some (t, d) := by
 have e : (Kwc.degrees t ++ Kwc.text "/" ++ Kwc.degrees d).span (fun b => b != 47) = (Kwc.degrees t, 47 :: Kwc.degrees d) := by
  have : Kwc.degrees t ++ Kwc.text "/" ++ Kwc.degrees d = Kwc.degrees t ++ 47 :: Kwc.degrees d := by rw [List.append_assoc]; rfl
  rw [this]
  refine span_at (by decide) fun b hb => ?_
  have : b ≠ 47 := fun q => degrees_47 t (q ▸ hb)
  simpa using this
 unfold Kwc.readPair
 rw [e]
 simp only
 rw [readDegrees_R h1, readDegrees_R h2]
theorem readWind_of {d s g : Nat} (hd : d = 999 \/ d < 999) (hs : s ≤ 99) (hg : g ≤ 99) : Kwc.readWind ((dirW d ++ Kwc.digits 2 s ++ (if g = 0 then [] else Kwc.text "G" ++ Kwc.digits 2 g)) ++ [75, 84]) = some ⟨d, s, g, 999, 999⟩ := by
 have tail : ∀ d : Nat, (match Kwc.whole 2 (List.take 2 (Kwc.digits 2 s ++ ((if g = 0 then [] else Kwc.text "G" ++ Kwc.digits 2 g) ++ [75, 84]))) with
   | none => none
   | some s' => match List.drop 2 (Kwc.digits 2 s ++ ((if g = 0 then [] else Kwc.text "G" ++ Kwc.digits 2 g) ++ [75, 84])) with
    | [75, 84] => some (⟨d, s', 0, 999, 999⟩ : Wind)
    | [71, a, b, 75, 84] => match Kwc.whole 2 [a, b] with
     | some (g + 1) => some ⟨d, s', g + 1, 999, 999⟩
     | _ => none
    | _ => none) = some ⟨d, s, g, 999, 999⟩ := fun d => by
  rw [take_digits, drop_digits, whole_digits (by decide) (by omega)]
  simp only
  by_cases e : g = 0
  ·rw [if_pos e, e]; rfl
  ·rw [if_neg e]
   obtain ⟨k, rfl⟩ : ∃ k, g = k + 1 := ⟨g - 1, by omega⟩
   have hw : Kwc.whole 2 (Kwc.digits 2 (k + 1)) = some (k + 1) := whole_digits (by decide) (by omega)
   have hd2 : Kwc.digits 2 (k + 1) = [48 + (k + 1) / 10 % 10, 48 + (k + 1) % 10] := rfl
   rw [hd2] at hw ⊢
   show (match Kwc.whole 2 [48 + (k + 1) / 10 % 10, 48 + (k + 1) % 10] with
    | some (g + 1) => some (⟨d, s, g + 1, 999, 999⟩ : Wind)
    | _ => none) = _
   rw [hw]
 rw [List.append_assoc, List.append_assoc]
 revert tail
 generalize (Kwc.digits 2 s ++ ((if g = 0 then [] else Kwc.text "G" ++ Kwc.digits 2 g) ++ [75, 84])) = R
 intro tail
 unfold Kwc.readWind
 rcases hd with rfl | hd
 ·exact tail 999
 ·have e3 : dirW d = Kwc.digits 3 d := by unfold dirW; rw [if_neg (by omega)]
  have ha : Kwc.after (Kwc.text "VRB") (dirW d ++ R) = none := by
   unfold Kwc.after
   have hl : (Kwc.text "VRB").length = 3 := rfl
   rw [hl, (dir_take d R).1, e3]
   have : (Kwc.digits 3 d == Kwc.text "VRB") = false := beq_eq_false_iff_ne.mpr (digits_ne_of (b := 86) (by decide) (by decide))
   rw [this]; rfl
  rw [ha, (dir_take d R).1, (dir_take d R).2, e3, whole_digits (by decide) (by omega)]
  exact tail d
theorem readWind_R {b : Bool} {x : Wind} (h : Kwc.okWind b x = true) : Kwc.readWind (Kwc.windWord x) = some ⟨x.dir, x.speed, x.gust, 999, 999⟩ := by
 obtain ⟨h1, h2, h3, h4⟩ := okWind_parts h
 rw [windWord_eq]
 refine readWind_of ?_ h1 h2
 rcases h3 with h | h | h
 ·exact .inl h
 ·right; omega
 ·have := tens_le h; right; omega
theorem clock_none {p : String} {a b : Nat} {r : T} (hp : (Kwc.text p).length = 2) (h : [a, b] ≠ Kwc.text p) : Kwc.readClock p (a :: b :: r) = none := by
 unfold Kwc.readClock Kwc.after
 rw [hp]
 have : (List.take 2 (a :: b :: r) == Kwc.text p) = false := beq_eq_false_iff_ne.mpr h
 rw [this]; rfl
theorem wind_none {a b : Nat} {r : T} (ha : isD a = false) (h : ¬ (a = 86 /\ b = 82)) : Kwc.readWind (a :: b :: r) = none := by
 have h1 : Kwc.after (Kwc.text "VRB") (a :: b :: r) = none := by
  unfold Kwc.after
  have : (List.take (Kwc.text "VRB").length (a :: b :: r) == Kwc.text "VRB") = false := by
   refine beq_eq_false_iff_ne.mpr fun q => h ?_
   have q' : a :: b :: List.take 1 r = [86, 82, 66] := q
   injection q' with q1 q2
   injection q2 with q2 _
   exact ⟨q1, q2⟩
  rw [this]; rfl
 have h2 : Kwc.whole 3 (List.take 3 (a :: b :: r)) = none := whole_none_of (b := a) (by simp) ha
 unfold Kwc.readWind
 rw [h1, h2]; rfl
theorem wind_none4 (n : Nat) : Kwc.readWind (Kwc.digits 4 n) = none := by
 have h1 : Kwc.after (Kwc.text "VRB") (Kwc.digits 4 n) = none := by
  unfold Kwc.after
  have : (List.take (Kwc.text "VRB").length (Kwc.digits 4 n) == Kwc.text "VRB") = false := by
   refine beq_eq_false_iff_ne.mpr fun q => ?_
   have : (86 : Nat) ∈ List.take 3 (Kwc.digits 4 n) := by
    have q' : List.take 3 (Kwc.digits 4 n) = [86, 82, 66] := q
    rw [q']; simp
   exact not_mem_digits (k := 4) (n := n) (by decide) (List.mem_of_mem_take this)
  rw [this]; rfl
 unfold Kwc.readWind
 rw [h1]
 simp only
 cases Kwc.whole 3 (List.take 3 (Kwc.digits 4 n)) with
 | none => rfl
 | some d =>
  simp only [Option.map]
  have : Kwc.whole 2 (List.take 2 (List.drop 3 (Kwc.digits 4 n))) = none := whole_none_len (by simp [digits_length])
  rw [this]
theorem sight_none {a : Nat} {r : T} (ha : isD a = false) (h : a ≠ 67) : Kwc.readSight (a :: r) = none := by
 unfold Kwc.readSight
 have : (a :: r == Kwc.text "CAVOK") = false := beq_eq_false_iff_ne.mpr fun q => h (List.cons.inj q).1
 rw [this, whole_none_of (b := a) (by simp) ha]; rfl
theorem up_none {a b : Nat} {r : T} (h : [a, b] ≠ [86, 86]) : Kwc.readUp (a :: b :: r) = none := by
 unfold Kwc.readUp Kwc.after
 have : (List.take (Kwc.text "VV").length (a :: b :: r) == Kwc.text "VV") = false := beq_eq_false_iff_ne.mpr h
 rw [this]; rfl
theorem placeIn_none : ∀ (l : List String) (w : T) (k : Nat), (∀ s ∈ l, Kwc.text s ≠ w) -> Kwc.placeIn l w k = none
 | [], _, _, _ => rfl
 | s :: l, w, k, h => by
  rw [Kwc.placeIn, beq_eq_false_iff_ne.mpr (h s (by simp)), placeIn_none l w (k + 1) fun x hx => h x (by simp [hx])]; rfl
theorem cloud_none {a : Nat} {r : T} (h : a ≠ 70 /\ a ≠ 83 /\ a ≠ 66 /\ a ≠ 79) : Kwc.readCloud (a :: r) = none := by
 unfold Kwc.readCloud
 rw [placeIn_none]
 intro s hs q
 have q0 : (Kwc.text s).getD 0 0 = a := by rw [q]; rfl
 have hs' : s ∈ ["FEW", "SCT", "BKN", "OVC"] := hs
 simp at hs'
 rcases hs' with rfl | rfl | rfl | rfl
 ·exact h.1 q0.symm
 ·exact h.2.1 q0.symm
 ·exact h.2.2.1 q0.symm
 ·exact h.2.2.2 q0.symm
theorem wx_none {a b : Nat} {r : T} (h45 : a ≠ 45) (h43 : a ≠ 43) (hm : Kwc.placeIn (Kwc.descs.drop 1) [a, b] 1 = none) (hk : Kwc.placeIn (Kwc.kinds.drop 1) [a, b] 1 = none) : Kwc.readWx (a :: b :: r) = none := by
 rw [readWx_other _ _ h45 h43]
 unfold rb
 simp only
 rw [show List.take 2 (a :: b :: r) = [a, b] from rfl, hm]
 simp only [Option.getD_none, if_true]
 rw [show Kwc.twos 4 (a :: b :: r) = (match Kwc.placeIn (Kwc.kinds.drop 1) [a, b] 1 with
  | none => none
  | some k => (Kwc.twos 3 r).map fun r => k :: r) from rfl, hk]
structure WxHead (a b : Nat) : Prop where
 d : isD a = false
 c : a ≠ 67
 n : a ≠ 78
 vr : ¬ (a = 86 /\ b = 82)
 vv : [a, b] ≠ [86, 86]
 fm : [a, b] ≠ Kwc.text "FM"
 tl : [a, b] ≠ Kwc.text "TL"
def wxHeadB (a b : Nat) : Bool := !isD a && decide (a ≠ 67) && decide (a ≠ 78) && !(decide (a = 86) && decide (b = 82)) && decide ([a, b] ≠ [86, 86]) && decide ([a, b] ≠ Kwc.text "FM") && decide ([a, b] ≠ Kwc.text "TL")
theorem wxHead_of {a b : Nat} (h : wxHeadB a b = true) : WxHead a b := by
 unfold wxHeadB at h
 simp only [Bool.and_eq_true, decide_eq_true_eq] at h
 obtain ⟨⟨⟨⟨⟨⟨h1, h2⟩, h3⟩, h4⟩, h5⟩, h6⟩, h7⟩ := h
 exact ⟨by simpa using h1, h2, h3, fun q => by simp [q.1, q.2] at h4, h5, h6, h7⟩
theorem names_head : ∀ nm ∈ MANN ++ KN, wxHeadB (nm.getD 0 0) (nm.getD 1 0) = true := by decide
theorem wx_head {x : Wx} (hx : Kwc.okWx x = true) : ∃ a b r, Kwc.wxWord x = a :: b :: r /\ WxHead a b := by
 have h := shape_of hx
 obtain ⟨nm, rest, hb, hm, hc⟩ := body_first h
 have f2 := first2 nm hm
 have hh := names_head nm (by rcases hm with h | h <;> simp [h])
 rw [h.word, hb]
 match nm, f2, hh with
 | [a, b], _, hh =>
  have hs : x.strength = 0 \/ x.strength = 1 \/ x.strength = 2 := by have := h.s2; omega
  rcases hs with e | e | e
  ·rw [e]
   refine ⟨45, a, b :: rest, rfl, by decide, by decide, by decide, fun q => absurd q.1 (by decide), fun q => absurd (List.cons.inj q).1 (by decide), fun q => absurd (List.cons.inj q).1 (by decide), fun q => absurd (List.cons.inj q).1 (by decide)⟩
  ·rw [e]; exact ⟨a, b, rest, rfl, wxHead_of hh⟩
  ·rw [e]
   refine ⟨43, a, b :: rest, rfl, by decide, by decide, by decide, fun q => absurd q.1 (by decide), fun q => absurd (List.cons.inj q).1 (by decide), fun q => absurd (List.cons.inj q).1 (by decide), fun q => absurd (List.cons.inj q).1 (by decide)⟩
structure SkyHead (a b : Nat) : Prop where
 d : isD a = false
 c : a ≠ 67
 vr : ¬ (a = 86 /\ b = 82)
 fm : [a, b] ≠ Kwc.text "FM"
 tl : [a, b] ≠ Kwc.text "TL"
 s45 : a ≠ 45
 s43 : a ≠ 43
 wd : Kwc.placeIn (Kwc.descs.drop 1) [a, b] 1 = none
 wk : Kwc.placeIn (Kwc.kinds.drop 1) [a, b] 1 = none
instance {a b : Nat} : Decidable (SkyHead a b) :=
 decidable_of_iff (isD a = false /\ a ≠ 67 /\ ¬ (a = 86 /\ b = 82) /\ [a, b] ≠ Kwc.text "FM" /\ [a, b] ≠ Kwc.text "TL" /\ a ≠ 45 /\ a ≠ 43 /\ Kwc.placeIn (Kwc.descs.drop 1) [a, b] 1 = none /\ Kwc.placeIn (Kwc.kinds.drop 1) [a, b] 1 = none)
  ⟨fun ⟨h1, h2, h3, h4, h5, h6, h7, h8, h9⟩ => ⟨h1, h2, h3, h4, h5, h6, h7, h8, h9⟩, fun ⟨h1, h2, h3, h4, h5, h6, h7, h8, h9⟩ => ⟨h1, h2, h3, h4, h5, h6, h7, h8, h9⟩⟩
theorem amounts_head : ∀ a, a < 5 -> 1 ≤ a -> SkyHead ((Kwc.nameOf Kwc.amounts a).getD 0 0) ((Kwc.nameOf Kwc.amounts a).getD 1 0) /\ (Kwc.nameOf Kwc.amounts a).getD 0 0 ≠ 78 /\ (Kwc.nameOf Kwc.amounts a).getD 0 0 ≠ 86 := by decide
theorem cloud_head {c : Cloud} (h1 : 1 ≤ c.amount) (h2 : c.amount ≤ 4) : ∃ a b r, Kwc.cloudWord c = a :: b :: r /\ SkyHead a b /\ a ≠ 78 /\ a ≠ 86 := by
 have hl := amount_len c.amount (by omega) h1
 have hh := amounts_head c.amount (by omega) h1
 unfold Kwc.cloudWord
 match Kwc.nameOf Kwc.amounts c.amount, hl, hh with
 | [a, b, d], _, hh => exact ⟨a, b, d :: (Kwc.digits 3 c.height ++ Kwc.nameOf Kwc.cloudKinds c.kind), by simp, hh⟩
theorem sky_head {s : Sky} (h : Kwc.okSky s = true) : ∃ a b w r, Kwc.skyWords s = (a :: b :: w) :: r /\ SkyHead a b := by
 match s, h with
 | .clear, _ => exact ⟨78, 83, [67], [], rfl, by decide⟩
 | .up n, _ => exact ⟨86, 86, Kwc.digits 3 n, [], rfl, by decide⟩
 | .layers cs, h =>
  obtain ⟨h1, h2, h3⟩ := okSky_layers h
  match cs, h1, h3 with
  | c :: l, _, h3 =>
   have := okLayers_mid [] 0 c l h3
   have hr := this.1
   simp [rngC] at hr
   obtain ⟨a, b, w, e, hh, _⟩ := cloud_head hr.1.1.1 hr.1.1.2
   exact ⟨a, b, w, l.map Kwc.cloudWord, by show Kwc.cloudWord c :: _ = _; rw [e], hh⟩
end My
end
section
set_option linter.all false
set_option autoImplicit false
namespace My
open Kwc (Bytes Wind Wx Cloud Sky Change Report one many listOf)
theorem changedWx_S {w : T} {x : List Wx} (e : changedWx w = some x) : [w] = (if x.isEmpty then [Kwc.text "NSW"] else x.map Kwc.wxWord) /\ x.length ≤ 1 /\ x.all Kwc.okWx = true := by
 unfold changedWx at e
 split at e
 ·rename_i h; cases e; rw [h]; exact ⟨rfl, by decide, rfl⟩
 ·split at e
  ·rename_i y ey
   cases e
   have := weatherOf_S ey
   refine ⟨?_, by simp, by simp [this.2]⟩
   simp; exact this.1
  ·cases e
theorem one_cases {A : Type} (f : T -> Option A) (l : List T) : (∃ x w r, l = w :: r /\ f w = some x /\ one f l = (some x, r)) \/ (one f l = (none, l)) := by
 match e : one f l with
 | (some x, r) =>
  obtain ⟨w, h1, h2⟩ := one_some e
  exact .inl ⟨x, w, r, h1, h2, rfl⟩
 | (none, r) =>
  have := one_none e
  subst this; exact .inr rfl
theorem sky_cases (l : List T) : (∃ s r, takeSky l = (some s, r) /\ l = Kwc.skyWords s ++ r /\ Kwc.okSky s = true) \/ takeSky l = (none, l) := by
 obtain ⟨h1, h2⟩ := takeSky_S l
 match e : takeSky l with
 | (some s, r) => exact .inl ⟨s, r, rfl, h1 s r e⟩
 | (none, r) => rw [h2 r e]; exact .inr rfl
def chgWords (g : Chg) : List T := listOf (fun w => [Kwc.windWord w]) g.wind ++ listOf (fun n => [Kwc.sightWord n]) g.sight ++ listOf (fun l => if l.isEmpty then [Kwc.text "NSW"] else l.map Kwc.wxWord) g.wx ++ listOf Kwc.skyWords g.sky
structure ChgOk (g : Chg) : Prop where
 wind : Kwc.optional (Kwc.okWind false) g.wind = true
 sight : Kwc.optional (fun n => n == Kwc.cavok || Kwc.okSight n) g.sight = true
 wx : Kwc.optional (fun l => decide (l.length ≤ 1) && l.all Kwc.okWx) g.wx = true
 sky : Kwc.optional Kwc.okSky g.sky = true
 cav : (g.sight != some Kwc.cavok || (g.wx.isNone && g.sky.isNone)) = true
 any : (g.wind.isSome || g.sight.isSome || g.wx.isSome || g.sky.isSome) = true
theorem opt_wind (l : List T) : (one windOf l).2 = (one windOf l).2 /\ l = listOf (fun w => [Kwc.windWord w]) (one windOf l).1 ++ (one windOf l).2 /\ Kwc.optional (Kwc.okWind false) (one windOf l).1 = true := by
 rcases one_cases windOf l with ⟨x, w, r, h1, h2, h3⟩ | h3
 ·have := windOf_S h2
  rw [h3, h1, this.1]; exact ⟨rfl, rfl, this.2.1⟩
 ·rw [h3]; exact ⟨rfl, rfl, rfl⟩
theorem opt_sight (l : List T) : l = listOf (fun n => [Kwc.sightWord n]) (one sightOf l).1 ++ (one sightOf l).2 /\ Kwc.optional (fun n => n == Kwc.cavok || Kwc.okSight n) (one sightOf l).1 = true := by
 rcases one_cases sightOf l with ⟨x, w, r, h1, h2, h3⟩ | h3
 ·have := sightOf_S h2
  rw [h3, h1, this.1]; exact ⟨rfl, this.2⟩
 ·rw [h3]; exact ⟨rfl, rfl⟩
theorem opt_wx (l : List T) : l = listOf (fun l => if l.isEmpty then [Kwc.text "NSW"] else l.map Kwc.wxWord) (one changedWx l).1 ++ (one changedWx l).2 /\ Kwc.optional (fun l => decide (l.length ≤ 1) && l.all Kwc.okWx) (one changedWx l).1 = true := by
 rcases one_cases changedWx l with ⟨x, w, r, h1, h2, h3⟩ | h3
 ·have := changedWx_S h2
  rw [h3, h1]
  refine ⟨?_, by simp only [Kwc.optional, this.2.2]; simp [this.2.1]⟩
  show w :: r = (if x.isEmpty then [Kwc.text "NSW"] else x.map Kwc.wxWord) ++ r
  rw [<- this.1]; rfl
 ·rw [h3]; exact ⟨rfl, rfl⟩
theorem opt_sky (l : List T) : l = listOf Kwc.skyWords (takeSky l).1 ++ (takeSky l).2 /\ Kwc.optional Kwc.okSky (takeSky l).1 = true := by
 rcases sky_cases l with ⟨s, r, h1, h2, h3⟩ | h
 ·rw [h1]; exact ⟨h2, h3⟩
 ·rw [h]; exact ⟨rfl, rfl⟩
theorem opt_clock (p : String) (l : List T) : l = listOf (fun t => [Kwc.text p ++ Kwc.clock t]) (one (fun w => markedMinutes w (Kwc.text p)) l).1 ++ (one (fun w => markedMinutes w (Kwc.text p)) l).2 /\ Kwc.optional (fun t => decide (t < 1440)) (one (fun w => markedMinutes w (Kwc.text p)) l).1 = true := by
 rcases one_cases (fun w => markedMinutes w (Kwc.text p)) l with ⟨x, w, r, h1, h2, h3⟩ | h3
 ·have := markedMinutes_S h2
  rw [h3, h1, this.1]; exact ⟨rfl, by simp [Kwc.optional, this.2]⟩
 ·rw [h3]; exact ⟨rfl, rfl⟩
theorem takeChanged_S {l r : List T} {g : Chg} (e : takeChanged l = some (g, r)) : l = chgWords g ++ r /\ ChgOk g := by
 obtain ⟨_, w1, w2⟩ := opt_wind l
 obtain ⟨s1, s2⟩ := opt_sight (one windOf l).2
 obtain ⟨x1, x2⟩ := opt_wx (one sightOf (one windOf l).2).2
 obtain ⟨z1, z2⟩ := opt_sky (one changedWx (one sightOf (one windOf l).2).2).2
 unfold takeChanged at e
 simp only at e
 by_cases hc : (one sightOf (one windOf l).2).1 = some 10000
 ·simp only [if_pos hc] at e
  split at e
  ·cases e
  ·rename_i hn
   cases e
   refine ⟨?_, w2, s2, rfl, rfl, by simp, ?_⟩
   ·show l = (listOf _ (one windOf l).1 ++ listOf _ (one sightOf (one windOf l).2).1 ++ [] ++ []) ++ (one sightOf (one windOf l).2).2
    rw [List.append_nil, List.append_nil, List.append_assoc, <- s1, <- w1]
   ·simp [hc]
 ·simp only [if_neg hc] at e
  split at e
  ·cases e
  ·rename_i hn
   cases e
   refine ⟨?_, w2, s2, x2, z2, ?_, ?_⟩
   ·unfold chgWords
    simp only
    rw [List.append_assoc, <- z1, List.append_assoc, <- x1, List.append_assoc, <- s1, <- w1]
   ·simp only [Bool.or_eq_true]
    left
    simpa [Kwc.cavok] using hc
   ·simp only [Bool.and_eq_true, not_and, Option.isNone_iff_eq_none] at hn
    cases a1 : (one windOf l).1 with
    | some _ => rfl
    | none => cases a2 : (one sightOf (one windOf l).2).1 with
     | some _ => rfl
     | none => cases a3 : (one changedWx (one sightOf (one windOf l).2).2).1 with
      | some _ => rfl
      | none => cases a4 : (takeSky (one changedWx (one sightOf (one windOf l).2).2).2).1 with
       | some _ => rfl
       | none => exact absurd a4 (hn ⟨⟨a1, a2⟩, a3⟩)
theorem changeWords_eq (k : Nat) (fm tl : Option Nat) (g : Chg) : Kwc.changeWords ⟨k, fm, tl, g.wind, g.sight, g.wx, g.sky⟩ = [Kwc.text (if k = 1 then "BECMG" else "TEMPO")] ++ (listOf (fun t => [Kwc.text "FM" ++ Kwc.clock t]) fm ++ (listOf (fun t => [Kwc.text "TL" ++ Kwc.clock t]) tl ++ chgWords g)) := by
 unfold Kwc.changeWords chgWords
 simp only [List.append_assoc]
theorem okChange_eq {k : Nat} {fm tl : Option Nat} {g : Chg} : Kwc.okChange ⟨k, fm, tl, g.wind, g.sight, g.wx, g.sky⟩ = true ↔ (k = 1 \/ k = 2) /\ Kwc.optional (fun t => decide (t < 1440)) fm = true /\ Kwc.optional (fun t => decide (t < 1440)) tl = true /\ ChgOk g := by
 unfold Kwc.okChange
 simp only [Bool.and_eq_true]
 constructor
 ·rintro ⟨⟨⟨⟨⟨⟨⟨⟨h1, h2⟩, h3⟩, h4⟩, h5⟩, h6⟩, h7⟩, h8⟩, h9⟩
  exact ⟨by simpa using h1, h2, h3, h4, h5, h6, h7, h8, h9⟩
 ·rintro ⟨h1, h2, h3, h4, h5, h6, h7, h8, h9⟩
  exact ⟨⟨⟨⟨⟨⟨⟨⟨by simpa using h1, h2⟩, h3⟩, h4⟩, h5⟩, h6⟩, h7⟩, h8⟩, h9⟩
theorem takeChange_S {l r : List T} {c : Change} (e : takeChange l = some (c, r)) : l = Kwc.changeWords c ++ r /\ Kwc.okChange c = true := by
 unfold takeChange at e
 split at e
 ·cases e
 ·rename_i k p ek
  obtain ⟨w, h1, h2⟩ := one_some ek
  have hm := changeMannerOf_S h2
  simp only at e
  obtain ⟨f1, f2⟩ := opt_clock "FM" p
  obtain ⟨t1, t2⟩ := opt_clock "TL" (one (fun w => markedMinutes w (Kwc.text "FM")) p).2
  split at e
  ·cases e
  ·rename_i g q eg
   cases e
   obtain ⟨g1, g2⟩ := takeChanged_S eg
   refine ⟨?_, okChange_eq.mpr ⟨hm.1, f2, t2, g2⟩⟩
   rw [changeWords_eq, List.append_assoc, List.append_assoc, List.append_assoc, <- g1, <- t1, <- f1, h1, hm.2]
   rfl
theorem takeChanges_S : ∀ (n : Nat) (l r : List T) (cs : List Change), takeChanges n l = some (cs, r) -> l = cs.flatMap Kwc.changeWords ++ r /\ cs.all Kwc.okChange = true /\ cs.length ≤ n /\ (cs = [] -> n = 0 \/ l = [])
 | 0, l, r, cs, e => by cases e; exact ⟨rfl, rfl, Nat.le_refl _, fun _ => .inl rfl⟩
 | n + 1, [], r, cs, e => by cases e; exact ⟨rfl, rfl, Nat.zero_le _, fun _ => .inr rfl⟩
 | n + 1, w :: l, r, cs, e => by
  unfold takeChanges at e
  split at e
  ·cases e
  ·rename_i c q ec
   split at e
   ·cases e
   ·rename_i cs' q' ecs
    cases e
    obtain ⟨c1, c2⟩ := takeChange_S ec
    obtain ⟨d1, d2, d3, _⟩ := takeChanges_S n _ _ _ ecs
    refine ⟨?_, by simp [c2]; simpa using d2, by simpa using d3, fun q => by cases q⟩
    rw [List.flatMap_cons, List.append_assoc, <- d1, <- c1]
theorem takeTrend_S {l r : List T} {k : Nat} {cs : List Change} (e : takeTrend l = some ((k, cs), r)) : l = (if k = 1 then [Kwc.text "NOSIG"] else cs.flatMap Kwc.changeWords) ++ r /\ k ≤ 2 /\ cs.all Kwc.okChange = true /\ (if k = 2 then decide (1 ≤ cs.length) && decide (cs.length ≤ 3) else cs.isEmpty) = true := by
 unfold takeTrend at e
 split at e
 ·cases e; exact ⟨rfl, by decide, rfl, rfl⟩
 ·split at e
  ·rename_i w q h
   cases e; rw [h]; exact ⟨rfl, by decide, rfl, rfl⟩
  ·split at e
   ·cases e
   ·rename_i cs' q' ecs
    cases e
    obtain ⟨d1, d2, d3, d4⟩ := takeChanges_S 3 _ _ _ ecs
    refine ⟨d1, by decide, d2, ?_⟩
    simp
    refine ⟨?_, d3⟩
    match cs, d4 with
    | [], d4 => rcases d4 rfl with h | h <;> cases h
    | c :: l, _ => simp
theorem takeWind_S {l r : List T} {w : Wind} (e : takeWind l = some (w, r)) : l = [Kwc.windWord w] ++ Kwc.sector w ++ r /\ Kwc.okWind true w = true := by
 unfold takeWind at e
 split at e
 ·cases e
 ·rename_i x q ex
  obtain ⟨u, h1, h2⟩ := one_some ex
  have hw := windOf_S h2
  have hplain : Kwc.okWind true { x with from_ := 999, to := 999 } = true := by
   have h3 := hw.2.1
   unfold Kwc.okWind at h3 ⊢
   simp only [hw.2.2.1, hw.2.2.2, if_true] at h3 ⊢
   exact h3
  split at e
  ·rename_i hc
   rcases one_cases sectorOf q with ⟨p, v, r', g1, g2, g3⟩ | g3
   ·rw [g3] at e
    cases e
    have hs := sectorOf_S (a := p.1) (b := p.2) g2
    refine ⟨?_, ?_⟩
    ·rw [h1, g1, hs.1, hw.1]
     have := tens_le hs.2.1
     unfold Kwc.sector
     simp only
     rw [if_neg (by omega)]
     rfl
    ·have h3 := hw.2.1
     have t1 := tens_le hs.2.1
     unfold Kwc.okWind at h3 ⊢
     simp only [Bool.and_eq_true] at h3 ⊢
     refine ⟨h3.1, ?_⟩
     rw [if_neg (by omega)]
     have a1 : (x.speed != 0) = true := by simpa using hc.2
     have a2 : (x.dir != 999) = true := by simpa using hc.1
     have a3 : (p.1 != p.2) = true := by simpa using hs.2.2.2
     simp only [a1, a2, a3, hs.2.1, hs.2.2.1]; rfl
   ·rw [g3] at e
    cases e
    refine ⟨?_, hplain⟩
    rw [h1, hw.1]; rfl
  ·cases e
   refine ⟨?_, hplain⟩
   rw [h1, hw.1]; rfl
theorem takeReport_S {l : List T} {r : Report} (e : takeReport l = some r) : l = Kwc.wordsOf r /\ Kwc.ok r = true := by
 unfold takeReport at e
 split at e
 ·cases e
 rename_i st l1 e1
 split at e
 ·cases e
 rename_i t l2 e2
 split at e
 ·cases e
 rename_i w l3 e3
 split at e
 ·cases e
 rename_i n l4 e4
 split at e
 ·cases e
 rename_i y l5 e5
 split at e
 ·cases e
 rename_i p l6 e6
 split at e
 ·cases e
 rename_i q l7 e7
 split at e
 ·cases e
 rename_i c l8 e8
 split at e
 ·rename_i h8
  cases e
  obtain ⟨w1, a1, b1⟩ := one_some e1
  obtain ⟨w2, a2, b2⟩ := one_some e2
  have a3 := takeWind_S e3
  obtain ⟨w4, a4, b4⟩ := one_some e4
  obtain ⟨w6, a6, b6⟩ := one_some e6
  obtain ⟨w7, a7, b7⟩ := one_some e7
  have a8 := takeTrend_S (k := c.1) (cs := c.2) e8
  have s1 := stationOf_S b1
  have s2 := momentOf_S (d := t.1) (h := t.2.1) (m := t.2.2) b2
  have s4 := sightOf_S b4
  have s6 := degreesOf_S (t := p.1) (d := p.2) b6
  have s7 := pressureOf_S b7
  have a5 : l4 = (if n = Kwc.cavok then [] else y.1.map Kwc.wxWord ++ Kwc.skyWords y.2) ++ l5 /\ y.1.length ≤ 3 /\ y.1.all Kwc.okWx = true /\ Kwc.okSky y.2 = true /\ (n != Kwc.cavok || (y.1.isEmpty && Kwc.isClear y.2)) = true := by
   unfold takeWxSky at e5
   split at e5
   ·rename_i hn
    cases e5
    rw [if_pos (show n = Kwc.cavok from hn)]
    exact ⟨rfl, by decide, rfl, rfl, by simp [Kwc.isClear]⟩
   ·rename_i hn
    simp only at e5
    split at e5
    ·cases e5
    ·rename_i s r' es
     cases e5
     obtain ⟨u1, u2, u3⟩ := upto_S (f := weatherOf) (wd := Kwc.wxWord) (fun w x h => (weatherOf_S h).1) 3 l4
     obtain ⟨z1, z2⟩ := (takeSky_S _).1 _ _ es
     rw [if_neg (show ¬ n = Kwc.cavok from hn)]
     refine ⟨?_, u2, ?_, z2, ?_⟩
     ·simp only
      rw [List.append_assoc, <- z1, <- u1]
     ·rw [List.all_eq_true]
      intro x hx
      obtain ⟨w, hw⟩ := u3 x hx
      exact (weatherOf_S hw).2
     ·simp only [Bool.or_eq_true]; left; simpa [Kwc.cavok] using hn
  refine ⟨?_, ?_⟩
  ·unfold Kwc.wordsOf Kwc.trendWords
   simp only
   have hl : l8 = [] := h8
   rw [hl] at a8
   rw [a1, s1.1, a2, s2.1, a3.1, a4, s4.1, a5.1, a6, s6.1, a7, s7.1, a8.1]
   simp
  ·unfold Kwc.ok
   simp only
   have x1 : (st.length == 4) = true := by simp [s1.2.1]
   have x3 : decide (1 ≤ t.1) = true := by simp [s2.2.1]
   have x4 : decide (t.1 ≤ 31) = true := by simp [s2.2.2.1]
   have x5 : decide (t.2.1 ≤ 23) = true := by simp [s2.2.2.2.1]
   have x6 : decide (t.2.2 ≤ 59) = true := by simp [s2.2.2.2.2]
   have x7 : decide (y.1.length ≤ 3) = true := by simp [a5.2.1]
   have x8 : decide (p.2 ≤ p.1) = true := by simp [s6.2.2.2]
   have x9 : decide (850 ≤ q) = true := by simp [s7.2.1]
   have x10 : decide (q ≤ 1100) = true := by simp [s7.2.2]
   have x11 : decide (c.1 ≤ 2) = true := by simp [a8.2.1]
   rw [x1, s1.2.2, x3, x4, x5, x6, a3.2, s4.2, x7, a5.2.2.1, a5.2.2.2.1, a5.2.2.2.2, s6.2.1, s6.2.2.1, x8, x9, x10, x11, a8.2.2.1, a8.2.2.2]
   rfl
 ·cases e
end My
end
section
set_option linter.all false
set_option autoImplicit false
namespace My
open Kwc (Bytes Wind Wx Cloud Sky Change Report one many listOf just readClock readWind readSight readWx readUp readCloud readSky)
def Stop (r : List T) : Prop := ∀ w q, r = w :: q -> w = Kwc.text "BECMG" \/ w = Kwc.text "TEMPO"
theorem Stop.hn {A : Type} {f : T -> Option A} {r : List T} (s : Stop r) (h1 : f (Kwc.text "BECMG") = none) (h2 : f (Kwc.text "TEMPO") = none) : HN f r := fun w q e => by
 rcases s w q e with h | h <;> rw [h] <;> assumption
theorem hn_opt {A B : Type} {f : T -> Option B} {g : A -> List T} {o : Option A} (h : ∀ x, o = some x -> HN f (g x)) : HN f (listOf g o) := by
 cases o with
 | none => exact HN.nil
 | some x => exact h x rfl
theorem one_opt {A : Type} {f : T -> Option A} {wd : A -> T} {o : Option A} {R : List T} (h1 : ∀ x, o = some x -> f (wd x) = some x) (h2 : o = none -> HN f R) : one f (listOf (fun x => [wd x]) o ++ R) = (o, R) := by
 cases o with
 | none => exact (h2 rfl).one
 | some x => exact one_hit (h1 x rfl)
theorem wind_head {b : Bool} {x : Wind} (h : Kwc.okWind b x = true) : ∃ a c r, Kwc.windWord x = a :: c :: r /\ (isD a = true \/ a = 86 /\ c = 82) := by
 rw [windWord_eq]
 by_cases e : x.dir = 999
 ·rw [e]; exact ⟨86, 82, _, rfl, .inr ⟨rfl, rfl⟩⟩
 ·have e3 : dirW x.dir = Kwc.digits 3 x.dir := by unfold dirW; rw [if_neg e]
  rw [e3]
  have : Kwc.digits 3 x.dir = [48 + x.dir / 10 / 10 % 10, 48 + x.dir / 10 % 10, 48 + x.dir % 10] := rfl
  rw [this]
  refine ⟨_, _, _, rfl, .inl ?_⟩
  simp [isD]; omega
theorem sight_head {n : Nat} : ∃ a c r, Kwc.sightWord n = a :: c :: r /\ (isD a = true \/ a = 67 /\ c = 65) := by
 unfold Kwc.sightWord
 by_cases e : n = Kwc.cavok
 ·rw [if_pos e]; exact ⟨67, 65, _, rfl, .inr ⟨rfl, rfl⟩⟩
 ·rw [if_neg e]
  have : Kwc.digits 4 n = [48 + n / 10 / 10 / 10 % 10, 48 + n / 10 / 10 % 10, 48 + n / 10 % 10, 48 + n % 10] := rfl
  rw [this]
  refine ⟨_, _, _, rfl, .inl ?_⟩
  simp [isD]; omega
theorem wind_sight (n : Nat) : readWind (Kwc.sightWord n) = none := by
 unfold Kwc.sightWord
 by_cases e : n = Kwc.cavok
 ·rw [if_pos e]; decide
 ·rw [if_neg e]; exact wind_none4 n
theorem just_none {s : String} {w : T} (h : w ≠ Kwc.text s) : just s w = none := by
 unfold Kwc.just; rw [beq_eq_false_iff_ne.mpr h]; rfl
theorem isD_ne {a b : Nat} (h : isD a = true) (hb : isD b = false) : a ≠ b := fun e => by rw [e, hb] at h; cases h
structure Tail (g : Chg) (r : List T) : Prop where
 ok : ChgOk g
 stop : Stop r
section
variable {g : Chg} {r : List T}
abbrev skL (g : Chg) : List T := listOf Kwc.skyWords g.sky
abbrev wxL (g : Chg) : List T := listOf (fun l => if l.isEmpty then [Kwc.text "NSW"] else l.map Kwc.wxWord) g.wx
abbrev siL (g : Chg) : List T := listOf (fun n => [Kwc.sightWord n]) g.sight
abbrev wiL (g : Chg) : List T := listOf (fun w => [Kwc.windWord w]) g.wind
theorem okSky_of (h : ChgOk g) {s : Sky} (e : g.sky = some s) : Kwc.okSky s = true := by have := h.sky; rw [e] at this; exact this
theorem okWx_of (h : ChgOk g) {l : List Wx} (e : g.wx = some l) : l.length ≤ 1 /\ l.all Kwc.okWx = true := by
 have := h.wx; rw [e] at this
 simp only [Kwc.optional, Bool.and_eq_true] at this
 exact ⟨by simpa using this.1, this.2⟩
theorem okSight_of (h : ChgOk g) {n : Nat} (e : g.sight = some n) : (n == Kwc.cavok || Kwc.okSight n) = true := by have := h.sight; rw [e] at this; exact this
theorem okWind_of (h : ChgOk g) {w : Wind} (e : g.wind = some w) : Kwc.okWind false w = true := by have := h.wind; rw [e] at this; exact this
theorem hn_sky {A : Type} {f : T -> Option A} (h : ChgOk g) (hf : ∀ a b w, SkyHead a b -> f (a :: b :: w) = none) : HN f (skL g) := hn_opt fun s e => by
 obtain ⟨a, b, w, r, e1, hh⟩ := sky_head (okSky_of h e)
 rw [e1]; exact HN.cons (hf a b w hh)
theorem hn_wx {A : Type} {f : T -> Option A} (h : ChgOk g) (hn : f (Kwc.text "NSW") = none) (hf : ∀ a b w, WxHead a b -> f (a :: b :: w) = none) : HN f (wxL g) := hn_opt fun l e => by
 obtain ⟨h1, h2⟩ := okWx_of h e
 match l, h1, h2 with
 | [], _, _ => exact HN.cons hn
 | [x], _, h2 =>
  obtain ⟨a, b, w, e1, hh⟩ := wx_head (x := x) (by simpa using h2)
  show HN f [Kwc.wxWord x]
  rw [e1]; exact HN.cons (hf a b w hh)
theorem hn_sight {A : Type} {f : T -> Option A} (hf : ∀ n, g.sight = some n -> f (Kwc.sightWord n) = none) : HN f (siL g) := hn_opt fun n e => HN.cons (hf n e)
theorem hn_wind {A : Type} {f : T -> Option A} (hf : ∀ w, g.wind = some w -> f (Kwc.windWord w) = none) : HN f (wiL g) := hn_opt fun n e => HN.cons (hf n e)
theorem sky_wx_none {a b : Nat} {w : T} (h : SkyHead a b) : readWx (a :: b :: w) = none := wx_none h.s45 h.s43 h.wd h.wk
theorem hnR5_wx (t : Tail g r) : HN readWx (skL g ++ r) := HN.app (hn_sky t.ok fun _ _ _ h => sky_wx_none h) (t.stop.hn (by decide) (by decide))
theorem hnR5_nsw (t : Tail g r) : HN (just "NSW") (skL g ++ r) := by
 refine HN.app (hn_opt fun s e => ?_) (t.stop.hn (by decide) (by decide))
 have ho := okSky_of t.ok e
 match s, ho with
 | .clear, _ => exact HN.cons (by decide)
 | .up n, _ => exact HN.cons (just_none fun q => absurd (List.cons.inj q).1 (by decide))
 | .layers cs, h =>
  obtain ⟨h1, h2, h3⟩ := okSky_layers h
  match cs, h1, h3 with
  | c :: l, _, h3 =>
   have hr := (okLayers_mid [] 0 c l h3).1
   simp [rngC] at hr
   obtain ⟨a, b, w, e, hh, h78, _⟩ := cloud_head hr.1.1.1 hr.1.1.2
   show HN (just "NSW") (Kwc.cloudWord c :: _)
   rw [e]
   exact HN.cons (just_none fun q => h78 (List.cons.inj q).1)
theorem hnR4_sight (t : Tail g r) : HN readSight (wxL g ++ (skL g ++ r)) :=
 HN.app (hn_wx t.ok (by decide) fun a b w h => sight_none h.d h.c) (HN.app (hn_sky t.ok fun a b w h => sight_none h.d h.c) (t.stop.hn (by decide) (by decide)))
theorem hnR3_wind (t : Tail g r) : HN readWind (siL g ++ (wxL g ++ (skL g ++ r))) :=
 HN.app (hn_sight fun n _ => wind_sight n) (HN.app (hn_wx t.ok (by decide) fun a b w h => wind_none h.d h.vr) (HN.app (hn_sky t.ok fun a b w h => wind_none h.d h.vr) (t.stop.hn (by decide) (by decide))))
theorem clock_head_none {p : String} {a b : Nat} {w : T} (hp : (Kwc.text p).length = 2) (h0 : isD ((Kwc.text p).getD 0 0) = false) (h1 : (Kwc.text p).getD 0 0 ≠ 86) (h2 : (Kwc.text p).getD 0 0 ≠ 67) (h : isD a = true \/ a = 86 /\ b = 82 \/ a = 67 /\ b = 65) : readClock p (a :: b :: w) = none := by
 refine clock_none hp fun q => ?_
 have e : a = (Kwc.text p).getD 0 0 := by rw [<- q]; rfl
 rcases h with h | h | h
 ·rw [e, h0] at h; cases h
 ·exact h1 (e.symm.trans h.1)
 ·exact h2 (e.symm.trans h.1)
theorem hnR2_clock (t : Tail g r) (p : String) (hp : (Kwc.text p).length = 2) (h0 : isD ((Kwc.text p).getD 0 0) = false) (h1 : (Kwc.text p).getD 0 0 ≠ 86) (h2 : (Kwc.text p).getD 0 0 ≠ 67)
  (hw : ∀ a b, WxHead a b -> [a, b] ≠ Kwc.text p) (hs : ∀ a b, SkyHead a b -> [a, b] ≠ Kwc.text p) (s1 : readClock p (Kwc.text "BECMG") = none) (s2 : readClock p (Kwc.text "TEMPO") = none) (s3 : readClock p (Kwc.text "NSW") = none) :
  HN (readClock p) (wiL g ++ (siL g ++ (wxL g ++ (skL g ++ r)))) := by
 refine HN.app (hn_wind fun w e => ?_) (HN.app (hn_sight fun n _ => ?_) (HN.app (hn_wx t.ok s3 fun a b w h => clock_none hp (hw a b h)) (HN.app (hn_sky t.ok fun a b w h => clock_none hp (hs a b h)) (t.stop.hn s1 s2))))
 ·obtain ⟨a, c, q, e1, hh⟩ := wind_head (okWind_of t.ok e)
  rw [e1]
  refine clock_head_none hp h0 h1 h2 ?_
  rcases hh with h | h
  ·exact .inl h
  ·exact .inr (.inl h)
 ·obtain ⟨a, c, q, e1, hh⟩ := sight_head (n := n)
  rw [e1]
  refine clock_head_none hp h0 h1 h2 ?_
  rcases hh with h | h
  ·exact .inl h
  ·exact .inr (.inr h)
theorem hnR2_tl (t : Tail g r) : HN (readClock "TL") (wiL g ++ (siL g ++ (wxL g ++ (skL g ++ r)))) := hnR2_clock t "TL" rfl (by decide) (by decide) (by decide) (fun a b h => h.tl) (fun a b h => h.tl) (by decide) (by decide) (by decide)
theorem hnR2_fm (t : Tail g r) : HN (readClock "FM") (wiL g ++ (siL g ++ (wxL g ++ (skL g ++ r)))) := hnR2_clock t "FM" rfl (by decide) (by decide) (by decide) (fun a b h => h.fm) (fun a b h => h.fm) (by decide) (by decide) (by decide)
theorem hnR1_fm (t : Tail g r) (tl : Option Nat) : HN (readClock "FM") (listOf (fun t => [Kwc.text "TL" ++ Kwc.clock t]) tl ++ (wiL g ++ (siL g ++ (wxL g ++ (skL g ++ r))))) :=
 HN.app (hn_opt fun n _ => HN.cons (clock_none rfl (by decide))) (hnR2_fm t)
theorem st_clock {p : String} {l : List T} (h : HN (readClock p) l) : HN (fun w => markedMinutes w (Kwc.text p)) l := h.imp fun w x e => by
 obtain ⟨e1, e2⟩ := markedMinutes_S e
 exact ⟨x, by rw [e1]; exact readClock_R e2⟩
theorem st_wind {l : List T} (h : HN readWind l) : HN windOf l := h.imp fun w x e => by
 obtain ⟨e1, e2, _⟩ := windOf_S e
 exact ⟨_, by rw [e1]; exact readWind_R e2⟩
theorem st_sight {l : List T} (h : HN readSight l) : HN sightOf l := h.imp fun w x e => by
 obtain ⟨e1, e2⟩ := sightOf_S e
 exact ⟨_, by rw [e1]; exact readSight_R e2⟩
theorem st_wx {l : List T} (h : HN readWx l) : HN weatherOf l := h.imp fun w x e => by
 obtain ⟨e1, e2⟩ := weatherOf_S e
 exact ⟨_, by rw [e1]; exact readWx_R e2⟩
theorem st_cloud {l : List T} (h : HN readCloud l) : HN layerOf l := h.imp fun w x e => by
 obtain ⟨e1, h1, h2, h3, h4⟩ := layerOf_S e
 exact ⟨_, by rw [e1]; exact readCloud_R h1 h2 h3 h4⟩
theorem st_sector {l : List T} (h : HN Kwc.readSector l) : HN sectorOf l := h.imp fun w x e => by
 obtain ⟨e1, h1, h2, h3⟩ := sectorOf_S (a := x.1) (b := x.2) e
 have := tens_le h1
 have := tens_le h2
 exact ⟨_, by rw [e1]; exact readSector_R (by omega) (by omega)⟩
theorem st_plain {l : List T} (h1 : HN (just "NSC") l) (h2 : HN readUp l) : HN plainSkyOf l := fun w q e => by
 cases hp : plainSkyOf w with
 | none => rfl
 | some s =>
  obtain ⟨e1, e2⟩ := plainSkyOf_S hp
  match s, e1, e2 with
  | .clear, e1, _ =>
   have := (List.cons.inj e1).1
   have h := h1 w q e
   rw [this] at h; exact absurd h (by decide)
  | .up n, e1, e2 =>
   have he := (List.cons.inj e1).1
   have h := h2 w q e
   rw [he, readUp_R (by simpa [Kwc.okSky] using e2)] at h; cases h
  | .layers cs, e1, e2 =>
   unfold plainSkyOf at hp
   split at hp
   ·cases hp
   ·split at hp
    ·split at hp <;> cases hp
    ·cases hp
structure SkyStop (r : List T) : Prop where
 nsc : HN (just "NSC") r
 up : HN readUp r
 cloud : HN readCloud r
theorem Stop.sky (s : Stop r) : SkyStop r := ⟨s.hn (by decide) (by decide), s.hn (by decide) (by decide), s.hn (by decide) (by decide)⟩
theorem sky_none (s : SkyStop r) : readSky r = (none, r) /\ takeSky r = (none, r) := by
 constructor
 ·unfold Kwc.readSky
  rw [s.nsc.one, s.up.one]
  simp only
  rw [s.cloud.many]; rfl
 ·unfold takeSky
  rw [(st_plain s.nsc s.up).one]
  simp only
  have := layers_R [] [] r rfl (by simp) (st_cloud s.cloud)
  simp only [List.map_nil, List.nil_append] at this
  rw [this]
theorem cloud_other {c : Cloud} {q : List T} (h1 : 1 ≤ c.amount) (h2 : c.amount ≤ 4) : HN (just "NSC") (Kwc.cloudWord c :: q) /\ HN readUp (Kwc.cloudWord c :: q) := by
 obtain ⟨a, b, w, e, hh, h78, h86⟩ := cloud_head h1 h2
 rw [e]
 exact ⟨HN.cons (just_none fun q => h78 (List.cons.inj q).1), HN.cons (up_none fun q => h86 (List.cons.inj q).1)⟩
theorem okLayers_all : ∀ (cs : List Cloud) (h : Nat), Kwc.okLayers h cs = true -> ∀ c ∈ cs, rngC c = true
 | [], _, _, c, hc => by cases hc
 | b :: cs, h, ho, c, hc => by
  rw [Kwc.okLayers] at ho
  simp only [Bool.and_eq_true] at ho
  rcases List.mem_cons.mp hc with q | q
  ·subst q
   simp at ho
   simp [rngC]; omega
  ·exact okLayers_all cs b.height ho.2 c q
theorem sky_R {s : Sky} (ho : Kwc.okSky s = true) (st : HN readCloud r) : readSky (Kwc.skyWords s ++ r) = (some s, r) /\ takeSky (Kwc.skyWords s ++ r) = (some s, r) := by
 match s, ho with
 | .clear, _ => exact ⟨rfl, rfl⟩
 | .up n, ho =>
  have hn : n ≤ 100 := by simpa [Kwc.okSky] using ho
  constructor
  ·show readSky ((Kwc.text "VV" ++ Kwc.digits 3 n) :: r) = _
   unfold Kwc.readSky
   have h1 : HN (just "NSC") ((Kwc.text "VV" ++ Kwc.digits 3 n) :: r) := HN.cons (just_none fun q => absurd (List.cons.inj q).1 (by decide))
   rw [h1.one, one_hit (readUp_R hn)]
  ·show takeSky ((Kwc.text "VV" ++ Kwc.digits 3 n) :: r) = _
   unfold takeSky
   rw [one_hit (plainSkyOf_up hn)]
 | .layers cs, ho =>
  obtain ⟨h1, h2, h3⟩ := okSky_layers ho
  have hall := okLayers_all cs 0 h3
  have hR : ∀ c ∈ cs, readCloud (Kwc.cloudWord c) = some c := fun c hc => by
   have := hall c hc
   simp [rngC] at this
   exact readCloud_R this.1.1.1 this.1.1.2 this.1.2 this.2
  have hm := many_R (wd := Kwc.cloudWord) hR st
  have hl := layers_R cs [] r h3 h2 (st_cloud st)
  show readSky (cs.map Kwc.cloudWord ++ r) = _ /\ takeSky (cs.map Kwc.cloudWord ++ r) = _
  match cs, h1, hall, hm, hl with
  | c :: l, _, hall, hm, hl =>
   have hc := hall c (by simp)
   simp [rngC] at hc
   obtain ⟨n1, n2⟩ := cloud_other (q := l.map Kwc.cloudWord ++ r) hc.1.1.1 hc.1.1.2
   rw [List.map_cons, List.cons_append] at hm hl ⊢
   constructor
   ·unfold Kwc.readSky
    rw [n1.one, n2.one]
    simp only
    rw [hm]; rfl
   ·unfold takeSky
    rw [(st_plain n1 n2).one]
    simp only
    rw [hl]; rfl
theorem sky_opt (t : Tail g r) : readSky (skL g ++ r) = (g.sky, r) /\ takeSky (skL g ++ r) = (g.sky, r) := by
 cases e : g.sky with
 | none => unfold skL; rw [e]; exact sky_none t.stop.sky
 | some s => unfold skL; rw [e]; exact sky_R (okSky_of t.ok e) t.stop.sky.cloud
theorem wx_words {x : Wx} (hx : Kwc.okWx x = true) : just "NSW" (Kwc.wxWord x) = none := by
 obtain ⟨a, b, w, e1, hh⟩ := wx_head hx
 rw [e1]; exact just_none fun q => hh.n (List.cons.inj q).1
theorem wx_loose (t : Tail g r) : (one (just "NSW") (wxL g ++ (skL g ++ r))).1.isSome = (match g.wx with | some [] => true | _ => false) /\
  (if (one (just "NSW") (wxL g ++ (skL g ++ r))).1.isSome = true then ([], (one (just "NSW") (wxL g ++ (skL g ++ r))).2) else many readWx (wxL g ++ (skL g ++ r))) = ((g.wx.getD []), skL g ++ r) := by
 cases e : g.wx with
 | none =>
  unfold wxL; rw [e]
  show (one (just "NSW") (skL g ++ r)).1.isSome = _ /\ (if (one (just "NSW") (skL g ++ r)).1.isSome = true then ([], (one (just "NSW") (skL g ++ r)).2) else many readWx (skL g ++ r)) = _
  rw [(hnR5_nsw t).one, (hnR5_wx t).many]; exact ⟨rfl, rfl⟩
 | some l =>
  obtain ⟨h1, h2⟩ := okWx_of t.ok e
  unfold wxL; rw [e]
  match l, h1, h2 with
  | [], _, _ => exact ⟨rfl, rfl⟩
  | [x], _, h2 =>
   have hx : Kwc.okWx x = true := by simpa using h2
   show (one (just "NSW") (Kwc.wxWord x :: (skL g ++ r))).1.isSome = _ /\ (if (one (just "NSW") (Kwc.wxWord x :: (skL g ++ r))).1.isSome = true then ([], (one (just "NSW") (Kwc.wxWord x :: (skL g ++ r))).2) else many readWx (Kwc.wxWord x :: (skL g ++ r))) = _
   have n1 : HN (just "NSW") (Kwc.wxWord x :: (skL g ++ r)) := HN.cons (wx_words hx)
   have m1 : many readWx ([x].map Kwc.wxWord ++ (skL g ++ r)) = ([x], skL g ++ r) := many_R (fun y hy => by
    have : y = x := by simpa using hy
    subst this; exact readWx_R hx) (hnR5_wx t)
   rw [n1.one]
   exact ⟨rfl, m1⟩
theorem wx_strict (t : Tail g r) : one changedWx (wxL g ++ (skL g ++ r)) = (g.wx, skL g ++ r) := by
 have hnC : ∀ {l : List T}, HN (just "NSW") l -> HN readWx l -> HN changedWx l := fun {l} h1 h2 w q e => by
  have a1 := h1 w q e
  have a2 := st_wx h2 w q e
  unfold changedWx
  rw [if_neg, a2]
  intro he; rw [he] at a1; exact absurd a1 (by decide)
 cases e : g.wx with
 | none => unfold wxL; rw [e]; exact (hnC (hnR5_nsw t) (hnR5_wx t)).one
 | some l =>
  obtain ⟨h1, h2⟩ := okWx_of t.ok e
  unfold wxL; rw [e]
  match l, h1, h2 with
  | [], _, _ => exact one_hit rfl
  | [x], _, h2 =>
   have hx : Kwc.okWx x = true := by simpa using h2
   refine one_hit ?_
   have := wx_words hx
   unfold changedWx
   rw [if_neg, weatherOf_R hx]
   intro he; rw [he] at this; exact absurd this (by decide)
theorem chgWords_eq : chgWords g ++ r = wiL g ++ (siL g ++ (wxL g ++ (skL g ++ r))) := by
 unfold chgWords; simp only [List.append_assoc]
theorem wind_plain (h : ChgOk g) {w : Wind} (e : g.wind = some w) : (⟨w.dir, w.speed, w.gust, 999, 999⟩ : Wind) = w := by
 have := okWind_of h e
 unfold Kwc.okWind at this
 simp only [Bool.and_eq_true] at this
 have h4 := this.2
 split at h4
 ·rename_i hf
  have ht : w.to = 999 := by simpa using h4
  cases w; simp at hf ht; subst hf ht; rfl
 ·simp at h4
theorem wi_loose (t : Tail g r) : one readWind (wiL g ++ (siL g ++ (wxL g ++ (skL g ++ r)))) = (g.wind, siL g ++ (wxL g ++ (skL g ++ r))) := one_opt (fun w e => by rw [readWind_R (okWind_of t.ok e), wind_plain t.ok e]) fun _ => hnR3_wind t
theorem wi_strict (t : Tail g r) : one windOf (wiL g ++ (siL g ++ (wxL g ++ (skL g ++ r)))) = (g.wind, siL g ++ (wxL g ++ (skL g ++ r))) := one_opt (fun w e => by rw [windOf_R (okWind_of t.ok e), wind_plain t.ok e]) fun _ => st_wind (hnR3_wind t)
theorem si_loose (t : Tail g r) : one readSight (siL g ++ (wxL g ++ (skL g ++ r))) = (g.sight, wxL g ++ (skL g ++ r)) := one_opt (fun w e => readSight_R (okSight_of t.ok e)) fun _ => hnR4_sight t
theorem si_strict (t : Tail g r) : one sightOf (siL g ++ (wxL g ++ (skL g ++ r))) = (g.sight, wxL g ++ (skL g ++ r)) := one_opt (fun w e => sightOf_R (okSight_of t.ok e)) fun _ => st_sight (hnR4_sight t)
theorem cav_nil (h : ChgOk g) (e : g.sight = some 10000) : g.wx = none /\ g.sky = none := by
 have := h.cav
 rw [e] at this
 simp [Kwc.cavok] at this
 exact this
theorem takeChanged_R (t : Tail g r) : takeChanged (chgWords g ++ r) = some (g, r) := by
 rw [chgWords_eq]
 unfold takeChanged
 simp only
 rw [wi_strict t]
 simp only
 rw [si_strict t]
 simp only
 have hany := t.ok.any
 by_cases hc : g.sight = some 10000
 ·obtain ⟨c1, c2⟩ := cav_nil t.ok hc
  rw [if_pos hc, if_pos hc]
  have hw : wxL g = [] := by unfold wxL; rw [c1]; rfl
  have hs : skL g = [] := by unfold skL; rw [c2]; rfl
  rw [hw, hs]
  simp only [List.nil_append]
  rw [if_neg (by rw [hc]; simp)]
  cases g; simp at c1 c2; subst c1 c2; rfl
 ·rw [if_neg hc, if_neg hc, wx_strict t]
  simp only
  rw [(sky_opt t).2]
  simp only
  rw [if_neg]
  intro q
  simp only [Bool.and_eq_true, Option.isNone_iff_eq_none] at q
  rw [q.1.1.1, q.1.1.2, q.1.2, q.2] at hany
  cases hany
theorem clocks_loose (t : Tail g r) (fm tl : Option Nat) (hf : Kwc.optional (fun t => decide (t < 1440)) fm = true) (ht : Kwc.optional (fun t => decide (t < 1440)) tl = true) :
  one (readClock "FM") (listOf (fun t => [Kwc.text "FM" ++ Kwc.clock t]) fm ++ (listOf (fun t => [Kwc.text "TL" ++ Kwc.clock t]) tl ++ (chgWords g ++ r))) = (fm, listOf (fun t => [Kwc.text "TL" ++ Kwc.clock t]) tl ++ (chgWords g ++ r)) /\
  one (readClock "TL") (listOf (fun t => [Kwc.text "TL" ++ Kwc.clock t]) tl ++ (chgWords g ++ r)) = (tl, chgWords g ++ r) /\
  one (fun w => markedMinutes w (Kwc.text "FM")) (listOf (fun t => [Kwc.text "FM" ++ Kwc.clock t]) fm ++ (listOf (fun t => [Kwc.text "TL" ++ Kwc.clock t]) tl ++ (chgWords g ++ r))) = (fm, listOf (fun t => [Kwc.text "TL" ++ Kwc.clock t]) tl ++ (chgWords g ++ r)) /\
  one (fun w => markedMinutes w (Kwc.text "TL")) (listOf (fun t => [Kwc.text "TL" ++ Kwc.clock t]) tl ++ (chgWords g ++ r)) = (tl, chgWords g ++ r) := by
 have hf' : ∀ x, fm = some x -> x < 1440 := fun x e => by rw [e] at hf; simpa [Kwc.optional] using hf
 have ht' : ∀ x, tl = some x -> x < 1440 := fun x e => by rw [e] at ht; simpa [Kwc.optional] using ht
 rw [chgWords_eq]
 exact ⟨one_opt (fun x e => readClock_R (hf' x e)) fun _ => hnR1_fm t tl, one_opt (fun x e => readClock_R (ht' x e)) fun _ => hnR2_tl t,
  one_opt (fun x e => markedMinutes_R (hf' x e)) fun _ => st_clock (hnR1_fm t tl), one_opt (fun x e => markedMinutes_R (ht' x e)) fun _ => st_clock (hnR2_tl t)⟩
end
def chgOf (c : Change) : Chg := ⟨c.wind, c.sight, c.wx, c.sky⟩
theorem change_eta (c : Change) : (⟨c.kind, c.fm, c.tl, (chgOf c).wind, (chgOf c).sight, (chgOf c).wx, (chgOf c).sky⟩ : Change) = c := by cases c; rfl
theorem takeChange_R {c : Change} {r : List T} (hc : Kwc.okChange c = true) (hs : Stop r) : takeChange (Kwc.changeWords c ++ r) = some (c, r) := by
 rw [<- change_eta c] at hc ⊢
 obtain ⟨h1, h2, h3, h4⟩ := okChange_eq.mp hc
 have t : Tail (chgOf c) r := ⟨h4, hs⟩
 obtain ⟨_, _, k3, k4⟩ := clocks_loose t c.fm c.tl h2 h3
 rw [changeWords_eq, List.append_assoc, List.append_assoc, List.append_assoc, List.singleton_append]
 unfold takeChange
 have e : one changeMannerOf (Kwc.text (if c.kind = 1 then "BECMG" else "TEMPO") :: (listOf (fun t => [Kwc.text "FM" ++ Kwc.clock t]) c.fm ++ (listOf (fun t => [Kwc.text "TL" ++ Kwc.clock t]) c.tl ++ (chgWords (chgOf c) ++ r)))) = (some c.kind, listOf (fun t => [Kwc.text "FM" ++ Kwc.clock t]) c.fm ++ (listOf (fun t => [Kwc.text "TL" ++ Kwc.clock t]) c.tl ++ (chgWords (chgOf c) ++ r))) := by
  refine one_hit ?_
  rcases h1 with h | h <;> rw [h] <;> rfl
 rw [e]
 simp only
 rw [k3]
 simp only
 rw [k4]
 simp only
 rw [takeChanged_R t]
theorem readChange_R {c : Change} {r : List T} (hc : Kwc.okChange c = true) (hs : Stop r) : Kwc.readChange (Kwc.changeWords c ++ r) = some (c, r) := by
 rw [<- change_eta c] at hc ⊢
 obtain ⟨h1, h2, h3, h4⟩ := okChange_eq.mp hc
 have t : Tail (chgOf c) r := ⟨h4, hs⟩
 obtain ⟨k1, k2, _, _⟩ := clocks_loose t c.fm c.tl h2 h3
 rw [changeWords_eq, List.append_assoc, List.append_assoc, List.append_assoc, List.singleton_append]
 obtain ⟨x1, x2⟩ := wx_loose t
 have fin : ∀ k, k = c.kind -> (let a := one (readClock "FM") (listOf (fun t => [Kwc.text "FM" ++ Kwc.clock t]) c.fm ++ (listOf (fun t => [Kwc.text "TL" ++ Kwc.clock t]) c.tl ++ (chgWords (chgOf c) ++ r)))
   let t := one (readClock "TL") a.2
   let w := one readWind t.2
   let s := one readSight w.2
   let x := one (just "NSW") s.2
   let y := if x.1.isSome = true then ([], x.2) else many readWx s.2
   let z := readSky y.2
   some ((⟨k, a.1, t.1, w.1, s.1, if x.1.isSome = true then some [] else if y.1.isEmpty = true then none else some y.1, z.1⟩ : Change), z.2)) = some (⟨c.kind, c.fm, c.tl, (chgOf c).wind, (chgOf c).sight, (chgOf c).wx, (chgOf c).sky⟩, r) := by
  intro k hk
  simp only
  rw [k1]
  simp only
  rw [k2]
  simp only
  rw [chgWords_eq, wi_loose t]
  simp only
  rw [si_loose t]
  simp only
  rw [x2, x1]
  simp only
  rw [(sky_opt t).1, hk]
  simp only
  congr 3
  cases e : (chgOf c).wx with
  | none => rfl
  | some l =>
   cases l with
   | nil => rfl
   | cons y l => rfl
 unfold Kwc.readChange
 rcases h1 with h | h
 ·have e1 : one (just "BECMG") (Kwc.text (if c.kind = 1 then "BECMG" else "TEMPO") :: (listOf (fun t => [Kwc.text "FM" ++ Kwc.clock t]) c.fm ++ (listOf (fun t => [Kwc.text "TL" ++ Kwc.clock t]) c.tl ++ (chgWords (chgOf c) ++ r)))) = (some 0, listOf (fun t => [Kwc.text "FM" ++ Kwc.clock t]) c.fm ++ (listOf (fun t => [Kwc.text "TL" ++ Kwc.clock t]) c.tl ++ (chgWords (chgOf c) ++ r))) := by
   rw [h]; exact one_hit rfl
  rw [e1]
  exact fin 1 h.symm
 ·have e1 : one (just "BECMG") (Kwc.text (if c.kind = 1 then "BECMG" else "TEMPO") :: (listOf (fun t => [Kwc.text "FM" ++ Kwc.clock t]) c.fm ++ (listOf (fun t => [Kwc.text "TL" ++ Kwc.clock t]) c.tl ++ (chgWords (chgOf c) ++ r)))) = (none, Kwc.text (if c.kind = 1 then "BECMG" else "TEMPO") :: (listOf (fun t => [Kwc.text "FM" ++ Kwc.clock t]) c.fm ++ (listOf (fun t => [Kwc.text "TL" ++ Kwc.clock t]) c.tl ++ (chgWords (chgOf c) ++ r)))) := by
   rw [h]; exact (HN.cons (by decide)).one
  have e2 : one (just "TEMPO") (Kwc.text (if c.kind = 1 then "BECMG" else "TEMPO") :: (listOf (fun t => [Kwc.text "FM" ++ Kwc.clock t]) c.fm ++ (listOf (fun t => [Kwc.text "TL" ++ Kwc.clock t]) c.tl ++ (chgWords (chgOf c) ++ r)))) = (some 0, listOf (fun t => [Kwc.text "FM" ++ Kwc.clock t]) c.fm ++ (listOf (fun t => [Kwc.text "TL" ++ Kwc.clock t]) c.tl ++ (chgWords (chgOf c) ++ r))) := by
   rw [h]; exact one_hit rfl
  rw [e1, e2]
  exact fin 2 h.symm
theorem change_first (c : Change) : ∃ q, Kwc.changeWords c = Kwc.text (if c.kind = 1 then "BECMG" else "TEMPO") :: q := by
 rw [<- change_eta c, changeWords_eq]; exact ⟨_, rfl⟩
theorem stop_changes (cs : List Change) : Stop (cs.flatMap Kwc.changeWords) := fun w q e => by
 cases cs with
 | nil => cases e
 | cons c l =>
  obtain ⟨q', hq⟩ := change_first c
  rw [List.flatMap_cons, hq] at e
  have := (List.cons.inj e).1
  rw [<- this]
  by_cases h : c.kind = 1
  ·left; rw [if_pos h]
  ·right; rw [if_neg h]
theorem takeChanges_R : ∀ (cs : List Change) (n : Nat), cs.length ≤ n -> cs.all Kwc.okChange = true -> takeChanges n (cs.flatMap Kwc.changeWords) = some (cs, [])
 | [], 0, _, _ => rfl
 | [], n + 1, _, _ => rfl
 | c :: l, 0, h, _ => by simp at h
 | c :: l, n + 1, h, ho => by
  rw [List.all_cons, Bool.and_eq_true] at ho
  have ih := takeChanges_R l n (by simpa using h) ho.2
  have hR := takeChange_R ho.1 (stop_changes l)
  obtain ⟨q', hq⟩ := change_first c
  rw [List.flatMap_cons]
  rw [hq] at hR ⊢
  rw [List.cons_append] at hR ⊢
  rw [takeChanges, hR]
  simp only
  rw [ih]
theorem readChanges_R : ∀ (cs : List Change) (n : Nat), cs.length ≤ n -> cs.all Kwc.okChange = true -> Kwc.readChanges n (cs.flatMap Kwc.changeWords) = some cs
 | [], 0, _, _ => rfl
 | [], n + 1, _, _ => rfl
 | c :: l, 0, h, _ => by simp at h
 | c :: l, n + 1, h, ho => by
  rw [List.all_cons, Bool.and_eq_true] at ho
  have ih := readChanges_R l n (by simpa using h) ho.2
  have hR := readChange_R ho.1 (stop_changes l)
  obtain ⟨q', hq⟩ := change_first c
  rw [List.flatMap_cons]
  rw [hq] at hR ⊢
  rw [List.cons_append] at hR ⊢
  rw [Kwc.readChanges, hR]
  simp only
  rw [ih]; rfl
  intro q; cases q
end My
end
section
set_option linter.all false
set_option autoImplicit false
namespace My
open Kwc (Bytes Wind Wx Cloud Sky Change Report one many listOf just readClock readWind readSight readWx readUp readCloud readSky)
structure ROk (r : Report) : Prop where
 st4 : r.station.length = 4
 stL : r.station.all Kwc.letter = true
 d1 : 1 ≤ r.day
 d31 : r.day ≤ 31
 h23 : r.hour ≤ 23
 m59 : r.minute ≤ 59
 wind : Kwc.okWind true r.wind = true
 sight : (r.sight == Kwc.cavok || Kwc.okSight r.sight) = true
 wx3 : r.wx.length ≤ 3
 wx : r.wx.all Kwc.okWx = true
 sky : Kwc.okSky r.sky = true
 cav : (r.sight != Kwc.cavok || (r.wx.isEmpty && Kwc.isClear r.sky)) = true
 t : Kwc.okDegrees r.temp = true
 dw : Kwc.okDegrees r.dew = true
 le : r.dew ≤ r.temp
 p1 : 850 ≤ r.press
 p2 : r.press ≤ 1100
 t2 : r.trend ≤ 2
 ch : r.changes.all Kwc.okChange = true
 cn : (if r.trend = 2 then decide (1 ≤ r.changes.length) && decide (r.changes.length ≤ 3) else r.changes.isEmpty) = true
theorem rok {r : Report} (h : Kwc.ok r = true) : ROk r := by
 unfold Kwc.ok at h
 simp only [Bool.and_eq_true] at h
 obtain ⟨⟨⟨⟨⟨⟨⟨⟨⟨⟨⟨⟨⟨⟨⟨⟨⟨⟨⟨h1, h2⟩, h3⟩, h4⟩, h5⟩, h6⟩, h7⟩, h8⟩, h9⟩, h10⟩, h11⟩, h12⟩, h13⟩, h14⟩, h15⟩, h16⟩, h17⟩, h18⟩, h19⟩, h20⟩ := h
 exact ⟨by simpa using h1, h2, by simpa using h3, by simpa using h4, by simpa using h5, by simpa using h6, h7, h8, by simpa using h9, h10, h11, h12, h13, h14, by simpa using h15, by simpa using h16, by simpa using h17, by simpa using h18, h19, h20⟩
abbrev timeW (r : Report) : T := Kwc.digits 2 r.day ++ Kwc.digits 2 r.hour ++ Kwc.digits 2 r.minute ++ Kwc.text "Z"
abbrev degW (r : Report) : T := Kwc.degrees r.temp ++ Kwc.text "/" ++ Kwc.degrees r.dew
abbrev prW (r : Report) : T := Kwc.text "Q" ++ Kwc.digits 4 r.press
abbrev midL (r : Report) : List T := if r.sight = Kwc.cavok then [] else r.wx.map Kwc.wxWord ++ Kwc.skyWords r.sky
theorem wordsOf_eq (r : Report) : Kwc.wordsOf r = r.station :: timeW r :: Kwc.windWord r.wind :: (Kwc.sector r.wind ++ (Kwc.sightWord r.sight :: (midL r ++ (degW r :: prW r :: Kwc.trendWords r)))) := by
 unfold Kwc.wordsOf; simp
theorem sector_sight (n : Nat) {q : List T} : HN Kwc.readSector (Kwc.sightWord n :: q) := by
 refine HN.cons ?_
 unfold Kwc.readSector
 rw [if_neg]
 intro ⟨h, _⟩
 unfold Kwc.sightWord at h
 split at h
 ·cases h
 ·rw [digits_length] at h; cases h
theorem trend_R {r : Report} (o : ROk r) : Kwc.readTrend (Kwc.trendWords r) = some (r.trend, r.changes) /\ takeTrend (Kwc.trendWords r) = some ((r.trend, r.changes), []) := by
 have h3 : r.trend = 0 \/ r.trend = 1 \/ r.trend = 2 := by have := o.t2; omega
 have hc := o.cn
 unfold Kwc.trendWords
 rcases h3 with h | h | h
 ·rw [h] at hc ⊢
  have : r.changes = [] := by simpa using hc
  rw [this]; exact ⟨rfl, rfl⟩
 ·rw [h] at hc ⊢
  have : r.changes = [] := by simpa using hc
  rw [this]; exact ⟨rfl, rfl⟩
 ·rw [h] at hc ⊢
  simp at hc
  rw [if_neg (by decide)]
  have a1 := readChanges_R r.changes 60 (by omega) o.ch
  have a2 := takeChanges_R r.changes 3 (by omega) o.ch
  match hcs : r.changes, hc with
  | c :: l, _ =>
   rw [hcs] at a1 a2
   obtain ⟨q', hq⟩ := change_first c
   have hne : Kwc.text (if c.kind = 1 then "BECMG" else "TEMPO") ≠ Kwc.text "NOSIG" := by
    by_cases e : c.kind = 1
    ·rw [if_pos e]; decide
    ·rw [if_neg e]; decide
   rw [List.flatMap_cons] at a1 a2 ⊢
   rw [hq, List.cons_append] at a1 a2 ⊢
   generalize hR : q' ++ List.flatMap Kwc.changeWords l = R at a1 a2 ⊢
   constructor
   ·cases R with
    | nil =>
     unfold Kwc.readTrend
     simp only
     rw [beq_eq_false_iff_ne.mpr hne, a1]
     rfl
    | cons x y =>
     unfold Kwc.readTrend
     simp only
     rw [a1]; rfl
   ·unfold takeTrend
    simp only
    rw [if_neg hne, a2]
theorem deg_head (t d : Int) : ∃ a b w, Kwc.degrees t ++ Kwc.text "/" ++ Kwc.degrees d = a :: b :: w /\ (isD a = true \/ a = 77 /\ isD b = true) := by
 unfold Kwc.degrees
 by_cases e : t < 0
 ·rw [if_pos e]
  refine ⟨77, 48 + (-t).toNat / 10 % 10, _, rfl, .inr ⟨rfl, ?_⟩⟩
  simp [isD]; omega
 ·rw [if_neg e]
  refine ⟨48 + t.toNat / 10 % 10, _, _, rfl, .inl ?_⟩
  simp [isD]; omega
theorem deg_cloud (t d : Int) {q : List T} : HN readCloud ((Kwc.degrees t ++ Kwc.text "/" ++ Kwc.degrees d) :: q) := by
 obtain ⟨a, b, w, e, h⟩ := deg_head t d
 rw [e]
 refine HN.cons (cloud_none ?_)
 rcases h with h | h
 ·exact ⟨isD_ne h (by decide), isD_ne h (by decide), isD_ne h (by decide), isD_ne h (by decide)⟩
 ·rw [h.1]; decide
theorem hn_skyW {s : Sky} {q : List T} (h : Kwc.okSky s = true) : HN readWx (Kwc.skyWords s ++ q) := by
 obtain ⟨a, b, w, r, e1, hh⟩ := sky_head h
 rw [e1]; exact HN.cons (sky_wx_none hh)
theorem mid_R {r : Report} (o : ROk r) (hn : ¬ r.sight = Kwc.cavok) : many readWx (midL r ++ (degW r :: prW r :: Kwc.trendWords r)) = (r.wx, Kwc.skyWords r.sky ++ (degW r :: prW r :: Kwc.trendWords r)) /\
  upto weatherOf 3 (midL r ++ (degW r :: prW r :: Kwc.trendWords r)) = (r.wx, Kwc.skyWords r.sky ++ (degW r :: prW r :: Kwc.trendWords r)) := by
 have e : midL r ++ (degW r :: prW r :: Kwc.trendWords r) = r.wx.map Kwc.wxWord ++ (Kwc.skyWords r.sky ++ (degW r :: prW r :: Kwc.trendWords r)) := by
  unfold midL; rw [if_neg hn, List.append_assoc]
 rw [e]
 have hx : ∀ x ∈ r.wx, Kwc.okWx x = true := List.all_eq_true.mp o.wx
 exact ⟨many_R (fun x h => readWx_R (hx x h)) (hn_skyW o.sky), upto_R 3 o.wx3 (fun x h => weatherOf_R (hx x h)) (st_wx (hn_skyW o.sky))⟩
theorem cav_r {r : Report} (o : ROk r) (hn : r.sight = Kwc.cavok) : r.wx = [] /\ r.sky = .clear := by
 have := o.cav
 rw [hn] at this
 simp at this
 refine ⟨this.1, ?_⟩
 match r.sky, this.2 with
 | .clear, _ => rfl
theorem sec_parts {w : Wind} (h : Kwc.okWind true w = true) : (w.from_ = 999 /\ w.to = 999) \/ (w.from_ ≠ 999 /\ w.speed ≠ 0 /\ w.dir ≠ 999 /\ Kwc.tens w.from_ = true /\ Kwc.tens w.to = true /\ w.from_ ≠ w.to) := by
 unfold Kwc.okWind at h
 simp only [Bool.and_eq_true] at h
 have h4 := h.2
 split at h4
 ·rename_i hf; exact .inl ⟨hf, by simpa using h4⟩
 ·rename_i hf
  simp at h4
  exact .inr ⟨hf, h4.1.1.1.1, h4.1.1.1.2, h4.1.1.2, h4.1.2, h4.2⟩
theorem readWords_R {r : Report} (h : Kwc.ok r = true) : Kwc.readWords (Kwc.wordsOf r) = some r := by
 have o := rok h
 rw [wordsOf_eq]
 unfold Kwc.readWords
 simp only
 rw [readTime_R (by have := o.d31; omega) (by have := o.h23; omega) (by have := o.m59; omega), readWind_R o.wind]
 simp only
 have hsec : one Kwc.readSector (Kwc.sector r.wind ++ (Kwc.sightWord r.sight :: (midL r ++ (degW r :: prW r :: Kwc.trendWords r)))) = (if r.wind.from_ = 999 then none else some (r.wind.from_, r.wind.to), Kwc.sightWord r.sight :: (midL r ++ (degW r :: prW r :: Kwc.trendWords r))) /\
   (match (if r.wind.from_ = 999 then none else some (r.wind.from_, r.wind.to) : Option (Nat × Nat)) with
    | some p => ({ (⟨r.wind.dir, r.wind.speed, r.wind.gust, 999, 999⟩ : Wind) with from_ := p.1, to := p.2 } : Wind)
    | none => ⟨r.wind.dir, r.wind.speed, r.wind.gust, 999, 999⟩) = r.wind := by
  unfold Kwc.sector
  rcases sec_parts o.wind with ⟨f1, f2⟩ | ⟨f1, f2, f3, f4, f5, f6⟩
  ·rw [if_pos f1, if_pos f1]
   refine ⟨(sector_sight _).one, ?_⟩
   cases hw : r.wind; rw [hw] at f1 f2; simp at f1 f2; subst f1 f2; rfl
  ·rw [if_neg f1, if_neg f1]
   have := tens_le f4
   have := tens_le f5
   refine ⟨one_hit (readSector_R (by omega) (by omega)), ?_⟩
   cases hw : r.wind; rfl
 rw [hsec.1]
 simp only
 rw [one_hit (readSight_R o.sight)]
 simp only
 by_cases hn : r.sight = Kwc.cavok
 ·obtain ⟨c1, c2⟩ := cav_r o hn
  rw [if_pos hn, if_pos hn]
  have hm : midL r = [] := by unfold midL; rw [if_pos hn]
  rw [hm, List.nil_append]
  simp only
  rw [readPair_R o.t o.dw, press_R o.p2, (trend_R o).1]
  simp only
  congr 1
  cases r
  simp only at c1 c2 hsec ⊢
  rw [c1, c2]
  congr 1
  exact hsec.2
 ·rw [if_neg hn, if_neg hn, (mid_R o hn).1]
  simp only
  rw [(sky_R o.sky (deg_cloud _ _)).1]
  simp only
  rw [readPair_R o.t o.dw, press_R o.p2, (trend_R o).1]
  simp only
  congr 1
  cases r
  simp only at hsec ⊢
  congr 1
  exact hsec.2
theorem takeWind_R {w : Wind} {n : Nat} {q : List T} (h : Kwc.okWind true w = true) : takeWind (Kwc.windWord w :: (Kwc.sector w ++ (Kwc.sightWord n :: q))) = some (w, Kwc.sightWord n :: q) := by
 unfold takeWind
 rw [one_hit (windOf_R h)]
 simp only
 unfold Kwc.sector
 rcases sec_parts h with ⟨f1, f2⟩ | ⟨f1, f2, f3, f4, f5, f6⟩
 ·have e : (⟨w.dir, w.speed, w.gust, 999, 999⟩ : Wind) = w := by cases w; simp at f1 f2; subst f1 f2; rfl
  rw [if_pos f1, List.nil_append]
  split
  ·rw [(st_sector (sector_sight n)).one]
   simp only
   rw [e]
  ·rw [e]
 ·rw [if_neg f1, if_pos ⟨f3, f2⟩]
  rw [show ([Kwc.digits 3 w.from_ ++ Kwc.text "V" ++ Kwc.digits 3 w.to] ++ (Kwc.sightWord n :: q)) = (Kwc.digits 3 w.from_ ++ Kwc.text "V" ++ Kwc.digits 3 w.to) :: (Kwc.sightWord n :: q) from rfl, one_hit (sectorOf_R f4 f5 f6)]
theorem takeReport_R {r : Report} (h : Kwc.ok r = true) : takeReport (Kwc.wordsOf r) = some r := by
 have o := rok h
 rw [wordsOf_eq]
 unfold takeReport
 have e1 : stationOf r.station = some r.station := by unfold stationOf; rw [if_pos ⟨o.st4, o.stL⟩]
 rw [one_hit e1]
 simp only
 rw [one_hit (momentOf_R o.d1 o.d31 o.h23 o.m59)]
 simp only
 rw [takeWind_R o.wind]
 simp only
 rw [one_hit (sightOf_R o.sight)]
 simp only
 have e5 : takeWxSky r.sight (midL r ++ (degW r :: prW r :: Kwc.trendWords r)) = some ((r.wx, r.sky), degW r :: prW r :: Kwc.trendWords r) := by
  unfold takeWxSky
  by_cases hn : r.sight = Kwc.cavok
  ·obtain ⟨c1, c2⟩ := cav_r o hn
   have hm : midL r = [] := by unfold midL; rw [if_pos hn]
   rw [if_pos (show r.sight = 10000 from hn), hm, c1, c2]; rfl
  ·rw [if_neg (show ¬ r.sight = 10000 from hn), (mid_R o hn).2]
   simp only
   rw [(sky_R o.sky (deg_cloud _ _)).2]
 rw [e5]
 simp only
 rw [one_hit (degreesOf_R o.t o.dw o.le)]
 simp only
 rw [one_hit (pressureOf_R o.p1 o.p2)]
 simp only
 rw [(trend_R o).2]
 simp only
 rw [if_pos trivial]
def wsign (b : Nat) : Bool := b == 43 || b == 45 || b == 47 || isD b || Kwc.letter b
def WS (w : T) : Prop := w.all wsign = true
instance (w : T) : Decidable (WS w) := inferInstanceAs (Decidable (w.all wsign = true))
theorem WS.app {a b : T} (h1 : WS a) (h2 : WS b) : WS (a ++ b) := by unfold WS at *; rw [List.all_append, h1, h2]; rfl
theorem ws_digits (k n : Nat) : WS (Kwc.digits k n) := by
 unfold WS
 rw [List.all_eq_true]
 intro b hb
 have := List.all_eq_true.mp (digits_all k n) b hb
 simp [wsign, this]
theorem ws_degrees (t : Int) : WS (Kwc.degrees t) := by
 unfold Kwc.degrees
 split
 ·exact WS.app (by decide) (ws_digits _ _)
 ·exact ws_digits _ _
theorem ws_wind (w : Wind) : WS (Kwc.windWord w) := by
 rw [windWord_eq]
 refine WS.app (WS.app (WS.app ?_ (ws_digits _ _)) ?_) (by decide)
 ·unfold dirW; split
  ·decide
  ·exact ws_digits _ _
 ·split
  ·rfl
  ·exact WS.app (by decide) (ws_digits _ _)
theorem ws_sight (n : Nat) : WS (Kwc.sightWord n) := by
 unfold Kwc.sightWord; split
 ·decide
 ·exact ws_digits _ _
theorem ws_name {l : List String} (h : ∀ s ∈ l, WS (Kwc.text s)) (k : Nat) : WS (Kwc.nameOf l k) := by
 unfold Kwc.nameOf
 rw [List.getD_eq_getElem?_getD]
 cases e : l[k]? with
 | none => rfl
 | some s => exact h s (List.mem_of_getElem? e)
theorem ws_flat {f : Nat -> T} (h : ∀ k, WS (f k)) : ∀ l : List Nat, WS (l.flatMap f)
 | [] => rfl
 | k :: l => by rw [List.flatMap_cons]; exact WS.app (h k) (ws_flat h l)
theorem ws_wx (x : Wx) : WS (Kwc.wxWord x) := by
 rw [wxWord_eq]
 refine WS.app ?_ (WS.app (ws_name (by decide) _) (ws_flat (fun k => ws_name (by decide) _) _))
 unfold signW; split
 ·decide
 ·split <;> decide
theorem ws_cloud (c : Cloud) : WS (Kwc.cloudWord c) := by
 unfold Kwc.cloudWord
 exact WS.app (WS.app (ws_name (by decide) _) (ws_digits _ _)) (ws_name (by decide) _)
def WSs (l : List T) : Prop := ∀ w ∈ l, WS w
theorem WSs.app {a b : List T} (h1 : WSs a) (h2 : WSs b) : WSs (a ++ b) := fun w h => by
 rcases List.mem_append.mp h with h | h
 ·exact h1 w h
 ·exact h2 w h
theorem WSs.nil : WSs [] := fun w h => by cases h
theorem WSs.cons {w : T} {l : List T} (h1 : WS w) (h2 : WSs l) : WSs (w :: l) := fun x h => by
 rcases List.mem_cons.mp h with h | h
 ·rw [h]; exact h1
 ·exact h2 x h
theorem WSs.map {A : Type} {f : A -> T} (h : ∀ x, WS (f x)) (l : List A) : WSs (l.map f) := fun w hw => by
 obtain ⟨x, _, e⟩ := List.mem_map.mp hw
 rw [<- e]; exact h x
theorem WSs.opt {A : Type} {f : A -> List T} (h : ∀ x, WSs (f x)) (o : Option A) : WSs (listOf f o) := by
 cases o with
 | none => exact WSs.nil
 | some x => exact h x
theorem ws_sky (s : Sky) : WSs (Kwc.skyWords s) := by
 match s with
 | .clear => exact WSs.cons (by decide) WSs.nil
 | .up n => exact WSs.cons (WS.app (by decide) (ws_digits _ _)) WSs.nil
 | .layers l => exact WSs.map ws_cloud l
theorem ws_clock (n : Nat) : WS (Kwc.clock n) := WS.app (ws_digits _ _) (ws_digits _ _)
theorem ws_change (c : Change) : WSs (Kwc.changeWords c) := by
 unfold Kwc.changeWords
 refine WSs.app (WSs.app (WSs.app (WSs.app (WSs.app (WSs.app (WSs.cons ?_ WSs.nil) (WSs.opt (fun n => WSs.cons (WS.app (by decide) (ws_clock n)) WSs.nil) _)) (WSs.opt (fun n => WSs.cons (WS.app (by decide) (ws_clock n)) WSs.nil) _)) (WSs.opt (fun w => WSs.cons (ws_wind w) WSs.nil) _)) (WSs.opt (fun n => WSs.cons (ws_sight n) WSs.nil) _)) (WSs.opt (fun l => ?_) _)) (WSs.opt ws_sky _)
 ·split <;> decide
 ·split
  ·exact WSs.cons (by decide) WSs.nil
  ·exact WSs.map ws_wx l
theorem ws_words {r : Report} (h : Kwc.ok r = true) : WSs (Kwc.wordsOf r) := by
 have o := rok h
 rw [wordsOf_eq]
 refine WSs.cons ?_ (WSs.cons (WS.app (WS.app (WS.app (ws_digits _ _) (ws_digits _ _)) (ws_digits _ _)) (by decide)) (WSs.cons (ws_wind _) (WSs.app ?_ (WSs.cons (ws_sight _) (WSs.app ?_ (WSs.cons (WS.app (WS.app (ws_degrees _) (by decide)) (ws_degrees _)) (WSs.cons (WS.app (by decide) (ws_digits _ _)) ?_)))))))
 ·unfold WS
  rw [List.all_eq_true]
  intro b hb
  have := List.all_eq_true.mp o.stL b hb
  simp [wsign, this]
 ·unfold Kwc.sector; split
  ·exact WSs.nil
  ·exact WSs.cons (WS.app (WS.app (ws_digits _ _) (by decide)) (ws_digits _ _)) WSs.nil
 ·unfold midL; split
  ·exact WSs.nil
  ·exact WSs.app (WSs.map ws_wx _) (ws_sky _)
 ·unfold Kwc.trendWords; split
  ·exact WSs.cons (by decide) WSs.nil
  ·intro w hw
   obtain ⟨c, _, hc⟩ := List.mem_flatMap.mp hw
   exact ws_change c w hc
theorem ws_not {w : T} {b : Nat} (h : WS w) (hb : wsign b = false) : b ∉ w := fun hm => by
 have := List.all_eq_true.mp h b hm
 rw [hb] at this; cases this
def sign (b : Nat) : Bool := b == 32 || b == 61 || wsign b
theorem ws_joined : ∀ {l : List T}, WSs l -> ∀ b ∈ Kwc.joined l, sign b = true
 | [], _, b, hb => by cases hb
 | [w], h, b, hb => by
  have := List.all_eq_true.mp (h w (by simp)) b hb
  simp [sign, this]
 | w :: v :: l, h, b, hb => by
  have hb' : b ∈ w ++ 32 :: Kwc.joined (v :: l) := hb
  rcases List.mem_append.mp hb' with q | q
  ·have := List.all_eq_true.mp (h w (by simp)) b q
   simp [sign, this]
  ·rcases List.mem_cons.mp q with q | q
   ·rw [q]; rfl
   ·exact ws_joined (fun x hx => h x (by simp [hx])) b q
def reads (t : T) : Option Report := if t.all sign = true /\ t.getLast? = some 61 then takeReport (Kwc.split [] t.dropLast) else none
theorem last_of {t : T} (h : t.getLast? = some 61) : t.dropLast ++ [61] = t := by
 have hne : t ≠ [] := by intro q; simp [q] at h
 have := List.dropLast_concat_getLast hne
 rw [List.getLast?_eq_some_getLast hne] at h
 rw [Option.some.inj h] at this
 exact this
theorem wordsOf_ne (r : Report) : Kwc.wordsOf r ≠ [] := by rw [wordsOf_eq]; simp
theorem reads_eq (t : T) : reads t = Kwc.read t := by
 cases e : reads t with
 | some r =>
  unfold reads at e
  split at e
  ·rename_i hc
   obtain ⟨h1, h2⟩ := takeReport_S e
   unfold Kwc.read
   rw [if_pos hc.2, h1, readWords_R h2]
   simp only
   have hw : Kwc.written r = t := by
    unfold Kwc.written
    rw [<- h1, joined_split]
    exact last_of hc.2
   rw [h2, hw]; simp
  ·cases e
 | none =>
  cases e2 : Kwc.read t with
  | none => rfl
  | some r =>
   exfalso
   unfold Kwc.read at e2
   split at e2
   ·rename_i hl
    split at e2
    ·rename_i r' er
     split at e2
     ·rename_i hc
      cases e2
      rw [Bool.and_eq_true] at hc
      have hw : Kwc.written r = t := by simpa using hc.2
      have hws := ws_words hc.1
      have hd : t.dropLast = Kwc.joined (Kwc.wordsOf r) := by
       rw [<- hw]; unfold Kwc.written
       show (Kwc.joined (Kwc.wordsOf r) ++ [61]).dropLast = _
       rw [List.dropLast_concat]
      have hs : Kwc.split [] t.dropLast = Kwc.wordsOf r := by
       rw [hd, split_joined (wordsOf_ne r) fun w hw => ws_not (hws w hw) (by decide)]
      have hall : t.all sign = true := by
       rw [List.all_eq_true]
       intro b hb
       rw [<- hw] at hb
       rcases List.mem_append.mp hb with q | q
       ·exact ws_joined hws b q
       ·have : b = 61 := by simpa [Kwc.text] using q
        rw [this]; rfl
      unfold reads at e
      rw [if_pos ⟨hall, hl⟩, hs, takeReport_R hc.1] at e
      cases e
     ·cases e2
    ·cases e2
   ·cases e2
end My
end
section
set_option linter.all false
set_option autoImplicit false
namespace My
open Kwc (Bytes Wind Wx Cloud Sky Change Report View)
theorem nats_back (t : List Nat) : KwcNeutral.natsOf (t.map fun (n : Nat) => (n : Int)) = t := by
 unfold KwcNeutral.natsOf
 rw [List.map_map]
 conv => rhs; rw [<- List.map_id t]
 apply List.map_congr_left
 intro x _
 rfl
theorem reads_ok {t : T} {r : Report} (h : reads t = some r) : Kwc.ok r = true := by
 rw [reads_eq] at h
 unfold Kwc.read at h
 split at h
 ·split at h
  ·split at h
   ·rename_i e
    cases h
    rw [Bool.and_eq_true] at e
    exact e.1
   ·cases h
  ·cases h
 ·cases h
theorem first_py (s c : Nat) (t : T) : PyKwc.first (s : Int) (c : Int) (t.map fun (n : Nat) => (n : Int)) = if 400 < t.length then [-22] else match reads t with
  | some r => (match (List.range 241).find? fun m => (Kwc.views r m).any (Kwc.below s c) with
   | some m => [((m : Nat) : Int)]
   | none => [-61])
  | none => [-71] := by
 show (Kwc.answer (.first (KwcNeutral.natsOf (t.map fun (n : Nat) => (n : Int))) (s : Int).toNat (c : Int).toNat)).value :: (Kwc.answer (.first (KwcNeutral.natsOf (t.map fun (n : Nat) => (n : Int))) (s : Int).toNat (c : Int).toNat)).out = _
 rw [nats_back, reads_eq, Int.toNat_natCast, Int.toNat_natCast]
 unfold Kwc.answer Kwc.most
 dsimp only
 by_cases h2 : 400 < t.length
 ·rw [if_pos h2, if_pos h2]; rfl
 ·rw [if_neg h2, if_neg h2]
  cases Kwc.read t with
  | none => rfl
  | some r =>
   dsimp only
   cases (List.range 241).find? fun m => (Kwc.views r m).any (Kwc.below s c) <;> rfl
def stepV (r : Report) (m : Nat) (c : Change) (p : List View × List View) : List View × List View :=
 if m < Kwc.begins r c then p else if c.kind = 2 then (p.1, if Kwc.ends r c < m then p.2 else p.2 ++ p.1.map (Kwc.changed c)) else (if Kwc.ends r c < m then p.1.map (Kwc.changed c) else p.1 ++ p.1.map (Kwc.changed c), p.2)
theorem mayBe_cons (r : Report) (m : Nat) (c : Change) (cs : List Change) (l b : List View) : Kwc.mayBe r m (c :: cs) l b = Kwc.mayBe r m cs (stepV r m c (l, b)).1 (stepV r m c (l, b)).2 := by
 rw [Kwc.mayBe]
 unfold stepV
 split
 ·rfl
 ·split
  ·dsimp only
   by_cases h : Kwc.ends r c < m
   ·rw [if_pos h, if_neg (by omega)]
   ·rw [if_neg h, if_pos (by omega)]
  ·by_cases h : Kwc.ends r c < m
   ·rw [if_neg (by omega)]; simp only [if_pos h]
   ·rw [if_pos (by omega)]; simp only [if_neg h]
def viewsTo (r : Report) (m : Nat) : List Change -> List View × List View -> List View × List View
 | [], p => p
 | c :: cs, p => viewsTo r m cs (stepV r m c p)
theorem mayBe_to (r : Report) (m : Nat) : ∀ (cs : List Change) (p : List View × List View), Kwc.mayBe r m cs p.1 p.2 = viewsTo r m cs p
 | [], p => by rw [Kwc.mayBe]; rfl
 | c :: cs, p => by rw [mayBe_cons, viewsTo, mayBe_to r m cs]
theorem to_snoc (r : Report) (m : Nat) (c : Change) : ∀ (cs : List Change) (p : List View × List View), viewsTo r m (cs ++ [c]) p = stepV r m c (viewsTo r m cs p)
 | [], p => rfl
 | d :: cs, p => by rw [List.cons_append, viewsTo, viewsTo, to_snoc r m c cs]
theorem to_take (r : Report) (m i : Nat) (cs : List Change) (p : List View × List View) (h : i < cs.length) : viewsTo r m (cs.take (i + 1)) p = stepV r m cs[i] (viewsTo r m (cs.take i) p) := by
 rw [List.take_add_one, List.getElem?_eq_getElem h]
 exact to_snoc r m cs[i] (cs.take i) p
def startV (r : Report) : List View × List View := ([Kwc.viewOf r], [])
theorem views_to (r : Report) (m : Nat) : Kwc.views r m = (viewsTo r m r.changes (startV r)).1 ++ (viewsTo r m r.changes (startV r)).2 := by
 unfold Kwc.views
 rw [show Kwc.mayBe r m r.changes [Kwc.viewOf r] [] = viewsTo r m r.changes (startV r) from mayBe_to r m r.changes (startV r)]
def okV (v : View) : Prop := v.sight ≤ 9999 /\ v.ceiling ≤ 999
theorem sight_le {n : Nat} (h : Kwc.okSight n = true) : n ≤ 9999 := by
 unfold Kwc.okSight at h
 split at h
 ·omega
 ·split at h
  ·omega
  ·simp at h
   omega
theorem metres_le {n : Nat} (h : (n == Kwc.cavok || Kwc.okSight n) = true) : Kwc.metres n ≤ 9999 := by
 unfold Kwc.metres
 split
 ·exact Nat.le_refl _
 ·rename_i e
  rw [Bool.or_eq_true] at h
  rcases h with h | h
  ·exact absurd (beq_iff_eq.mp h) e
  ·exact sight_le h
theorem layers_le : ∀ (l : List Cloud) (h : Nat), Kwc.okLayers h l = true -> ∀ c ∈ l, c.height ≤ 300
 | [], _, _, c, hc => by cases hc
 | d :: l, h, e, c, hc => by
  rw [Kwc.okLayers] at e
  simp only [Bool.and_eq_true, decide_eq_true_eq] at e
  rcases List.mem_cons.mp hc with rfl | hc
  ·omega
  ·exact layers_le l d.height e.2 c hc
theorem ceiling_le {s : Sky} (h : Kwc.okSky s = true) : Kwc.ceilingOf s ≤ 999 := by
 cases s with
 | clear => exact Nat.le_refl _
 | up n =>
  have : n ≤ 100 := of_decide_eq_true h
  show n ≤ 999
  omega
 | layers l =>
  unfold Kwc.ceilingOf
  unfold Kwc.okSky at h
  dsimp only at h ⊢
  simp only [Bool.and_eq_true] at h
  cases e : l.find? fun c => decide (3 ≤ c.amount) with
  | none => exact Nat.le_refl _
  | some c =>
   have := layers_le l 0 h.2 c (List.mem_of_find?_eq_some e)
   show c.height ≤ 999
   omega
structure VOk (r : Report) : Prop where
 hour : r.hour ≤ 23
 minute : r.minute ≤ 59
 view : okV (Kwc.viewOf r)
 chg : ∀ c ∈ r.changes, ∀ v, okV v -> okV (Kwc.changed c v)
theorem vok {r : Report} (h : Kwc.ok r = true) : VOk r := by
 unfold Kwc.ok at h
 simp only [Bool.and_eq_true, decide_eq_true_eq] at h
 obtain ⟨⟨⟨⟨⟨⟨⟨⟨⟨⟨⟨⟨⟨⟨⟨⟨⟨⟨⟨h1, h2⟩, h3⟩, h4⟩, h5⟩, h6⟩, h7⟩, h8⟩, h9⟩, h10⟩, h11⟩, h12⟩, h13⟩, h14⟩, h15⟩, h16⟩, h17⟩, h18⟩, h19⟩, h20⟩ := h
 refine ⟨h5, h6, ⟨metres_le h8, ceiling_le h11⟩, fun c hc v hv => ?_⟩
 have q := List.all_eq_true.mp h19 c hc
 unfold Kwc.okChange at q
 simp only [Bool.and_eq_true] at q
 obtain ⟨⟨⟨⟨⟨⟨⟨⟨q1, q2⟩, q3⟩, q4⟩, q5⟩, q6⟩, q7⟩, q8⟩, q9⟩ := q
 unfold Kwc.changed
 split
 ·exact ⟨Nat.le_refl _, Nat.le_refl _⟩
 ·refine ⟨?_, ?_⟩
  ·dsimp only
   cases e : c.sight with
   | none => exact hv.1
   | some n =>
    rw [e] at q5
    exact metres_le q5
  ·dsimp only
   cases e : c.sky with
   | none => exact hv.2
   | some s =>
    rw [e] at q7
    exact ceiling_le q7
theorem step_ok {r : Report} {m : Nat} {c : Change} (hc : ∀ v, okV v -> okV (Kwc.changed c v)) {p : List View × List View} (h1 : p.1 ≠ []) (ha : ∀ v ∈ p.1, okV v) (hb : ∀ v ∈ p.2, okV v) :
  (stepV r m c p).1 ≠ [] /\ (∀ v ∈ (stepV r m c p).1, okV v) /\ ∀ v ∈ (stepV r m c p).2, okV v := by
 have hm : ∀ v ∈ p.1.map (Kwc.changed c), okV v := fun v hv => by
  obtain ⟨u, hu, rfl⟩ := List.mem_map.mp hv
  exact hc u (ha u hu)
 have hn : p.1.map (Kwc.changed c) ≠ [] := by simpa using h1
 unfold stepV
 split
 ·exact ⟨h1, ha, hb⟩
 ·split
  ·refine ⟨h1, ha, ?_⟩
   dsimp only
   split
   ·exact hb
   ·intro v hv
    rcases List.mem_append.mp hv with hv | hv
    ·exact hb v hv
    ·exact hm v hv
  ·dsimp only
   refine ⟨?_, ?_, hb⟩
   ·split
    ·exact hn
    ·simp [h1]
   ·split
    ·exact hm
    ·intro v hv
     rcases List.mem_append.mp hv with hv | hv
     ·exact ha v hv
     ·exact hm v hv
theorem to_ok {r : Report} {m : Nat} : ∀ (cs : List Change), (∀ c ∈ cs, ∀ v, okV v -> okV (Kwc.changed c v)) -> ∀ (p : List View × List View), p.1 ≠ [] -> (∀ v ∈ p.1, okV v) -> (∀ v ∈ p.2, okV v) ->
  (viewsTo r m cs p).1 ≠ [] /\ (∀ v ∈ (viewsTo r m cs p).1, okV v) /\ ∀ v ∈ (viewsTo r m cs p).2, okV v
 | [], _, p, h1, ha, hb => ⟨h1, ha, hb⟩
 | c :: cs, hc, p, h1, ha, hb => by
  obtain ⟨a, b, d⟩ := step_ok (r := r) (m := m) (hc c (by simp)) h1 ha hb
  exact to_ok cs (fun c' h' => hc c' (List.mem_cons_of_mem _ h')) _ a b d
theorem step_len {r : Report} {m : Nat} {c : Change} {p : List View × List View} : (stepV r m c p).1.length + (stepV r m c p).2.length ≤ 2 * (p.1.length + p.2.length) := by
 unfold stepV
 split
 ·omega
 ·split <;> dsimp only <;> split <;> (try simp only [List.length_append, List.length_map]) <;> omega
theorem to_len {r : Report} {m : Nat} : ∀ (cs : List Change) (p : List View × List View), (viewsTo r m cs p).1.length + (viewsTo r m cs p).2.length ≤ 2 ^ cs.length * (p.1.length + p.2.length)
 | [], p => by simp [viewsTo]
 | c :: cs, p => by
  have h1 := to_len (r := r) (m := m) cs (stepV r m c p)
  have h2 := step_len (r := r) (m := m) (c := c) (p := p)
  rw [viewsTo]
  refine Nat.le_trans h1 ?_
  rw [List.length_cons, Nat.pow_succ, Nat.mul_assoc]
  exact Nat.mul_le_mul_left _ h2
theorem chgs_le {r : Report} (h : Kwc.ok r = true) : r.changes.length ≤ 3 := by
 unfold Kwc.ok at h
 simp only [Bool.and_eq_true, decide_eq_true_eq] at h
 have h20 := h.2
 split at h20
 ·simp at h20; omega
 ·have : r.changes = [] := by simpa using h20
  rw [this]; decide
end My
end
section
set_option Elab.async false
set_option linter.all false
set_option maxRecDepth 100000
set_option maxHeartbeats 2000000
namespace L2
open PySem PySem.Spec PyProof.Rows
def bmV : List Value := [.type "ValueError", .type "Exception", .type "BaseException", .type "object"]
structure ExcC (K : PySem.W.Frag) (mg : Str -> Option Value) (x : Str) (C : Addr) : Prop where
 bound : mg x = some (.ref C)
 exc : PySem.W.excIn K C bmV "ValueError.__new__" = true
theorem ExcC.own {K : PySem.W.Frag} {mg : Str -> Option Value} {x : Str} {C : Addr} {h : Heap} (e : ExcC K mg x C) (X : K.In h) : OwnCls x C bmV "ValueError.__new__" mg h := by
 refine ⟨e.bound, ?_⟩
 have w := e.exc
 unfold PySem.W.excIn at w
 split at w
 ·rename_i d0 c0 sl0 look0
  split at w
  ·rename_i C1 tl0 y0 y1 y2 y3 nw0 y5 mro0 sls0
   simp only [Bool.and_eq_true, beq_iff_eq, Bool.not_eq_true'] at w
   obtain ⟨⟨⟨⟨⟨e1, e2⟩, e3⟩, e4⟩, e5⟩, e6⟩ := w
   subst e1 e2
   cases c0 with
   | mk a1 a2 a3 a4 a5 a6 a7 a8 a9 a10 a11 =>
    dsimp only at mro0 e3 e5 e6
    subst mro0 e3
    have es : sl0 = #[y0, y1, y2, y3, some (.builtin "ValueError.__new__"), y5] := by
     cases sl0 with
     | mk l0 =>
      simp only at sls0
      rw [sls0]
    subst es
    exact ⟨tl0, a4, a1, a5, a2, a6, a7, a8, a9, a10, d0, y0, y1, y2, y3, y5, _, X _ _ look0, .of_isNs (PySem.W.isNs_of_in X e5), PySem.W.nsMap_none_of_in X e5 e6, PySem.W.tail_of_in X e4⟩
  ·cases w
 ·cases w
theorem ObjOk.obj {P : Program} {w : World} {H : Hp} {h : Heap} {a : Addr} {o : HO} (x : ObjOk P w H h a o) : ∃ ob, h.get? a = some ob := by
 cases o with
 | lst xs => obtain ⟨_, its, n, _, e⟩ := x; exact ⟨_, e⟩
 | tup xs => obtain ⟨_, its, _, ob, e, _⟩ := x; exact ⟨_, e⟩
 | dK kvs => obtain ⟨_, _, vs, _, ob, _, _, e, _⟩ := x; exact ⟨_, e⟩
 | dT kvs => obtain ⟨_, _, vs, _, ob, _, _, e, _⟩ := x; exact ⟨_, e⟩
 | set S n => obtain ⟨ob, _, _, _, e, _⟩ := x; exact ⟨_, e⟩
 | ins C dx fs => obtain ⟨_, _, _, e, _⟩ := x; exact ⟨_, e⟩
 | own y => exact x
 | xd fs => obtain ⟨_, ⟨ob, _, _, e, _⟩, _⟩ := x; exact ⟨_, e⟩
 | rng lo hi => obtain ⟨_, _, _, e⟩ := x; exact ⟨_, e⟩
 | frz ob u => obtain ⟨e, _⟩ := x; exact ⟨_, e⟩
 | tbl ps => exact ⟨_, (show h.get? a = some _ from x)⟩
 | met f y => exact ⟨_, (show h.get? a = some _ from x)⟩
 | ext φ => obtain ⟨_, e, _⟩ := x; exact e
theorem HOk.part {P : Program} {w : World} {H : Hp} {h h' : Heap} (x : HOk P w H h) (k : ∀ b o, (∃ u, H b = some u) -> h.get? b = some o -> h'.get? b = some o) : HOk P w H h' := fun a o e =>
 (x a o e).stay (fun b u hb q => k b u (by
  rcases hb with z | z
  ·exact ⟨o, by rw [z]; exact e⟩
  ·exact ⟨_, z⟩) q) (fun _ q => q) fun _ _ q => q
def Cover (fs : List Addr) (H : Hp) (h0 G h : Heap) : Prop := ∀ b o, h.get? b = some o -> b ∉ fs -> ((∃ u, H b = some u) \/ ∃ o0, h0.get? b = some o0) -> G.get? b = some o
def Fly (outer : List Env) (H : Hp) (h0 : Heap) (C ea : Addr) (h : Heap) : Prop :=
 ∃ (G : Heap) (a0 : Value), Heap.FlyingW G outer ea (.ref C) a0 h /\ Cover (frs outer) H h0 G h
def CXe (P : Program) (w : World) (C : Addr) : CXT := fun outer H s E e s' =>
 ∃ ea H', e = .ref ea /\ s'.os = s.os /\ AllBare s'.gens /\ Un (frs outer) [] H H' s.heap s'.heap /\ HOk P w H' s'.heap /\ Fly outer H' s.heap C ea s'.heap /\ E (.ref C) none H'
def NoRec (fs : List Addr) (h : Heap) : Prop := ∀ b ∈ fs, ∀ o, h.get? b = some o -> ∀ vs, o.data ≠ .fields vs
theorem norec_of {h base : Heap} {l : List Env} (f : h.FunFrames base l) : NoRec (frs l) h := fun b hb o e vs q => by
 obtain ⟨_, o', e', hn⟩ := f.mem hb
 rw [e] at e'
 cases e'
 exact hn vs q
theorem Un.touch {fs : List Addr} {H H' : Hp} {h h' h'' G : Heap} (u : Un fs [] H H' h h') (c : Cover fs H' h G h') (nr : NoRec fs h') (st : G.StaysIn h'') (sl : h'.UpToSlots h'') : Un fs [] H H' h h'' where
 keep := fun b o e n hb hx => st b o (c b o (u.keep b o e n hb hx) hb (.inr ⟨o, e⟩))
 slot := fun b o e n hb hx => by
  obtain ⟨s1, q⟩ := u.slot b o e n hb hx
  obtain ⟨s2, q2⟩ := sl b _ q (nr b hb _ q)
  exact ⟨s2, q2⟩
 free := u.free
 there := fun b o e hx => by
  obtain ⟨o', q⟩ := u.there b o e hx
  by_cases hb : b ∈ fs
  ·obtain ⟨s2, q2⟩ := sl b _ q (nr b hb _ q)
   exact ⟨_, q2⟩
  ·exact ⟨o', st b o' (c b o' q hb (.inr ⟨o, e⟩))⟩
 tups := u.tups
 frzs := u.frzs
 tbls := u.tbls
theorem HOk.touch {P : Program} {w : World} {fs : List Addr} {H : Hp} {h h0 h' G : Heap} (x : HOk P w H h) (c : Cover fs H h0 G h) (fr : ∀ b ∈ fs, H b = none) (st : G.StaysIn h') : HOk P w H h' :=
 x.part fun b o ⟨u, hu⟩ e => st b o (c b o e (fun hb => by rw [fr b hb] at hu; cases hu) (.inl ⟨u, hu⟩))
theorem noch {X : Cx} {pins : List (Addr × Obj)} : ∀ b ∈ ([] : List Addr), (b ∈ X.ex \/ X.s_0.heap.objs.size ≤ b) /\ b ≠ X.env.locals /\ (∀ x c, X.env.cells.lookup x = some c -> c ≠ b) /\ ∀ p ∈ X.pn ++ pins, p.1 ≠ b := fun _ z => nomatch z
structure Leaves (X : Cx) (C : Addr) (E : XK) (outer : List Env) : Prop where
 stk : X.stack = X.env :: outer
 out : X.outer = outer
 fr : X.env.frame = some X.env.locals
 ex : X.ex = []
 xe : ∀ (ea : Addr) (s : Shared), wpAny (model X.prog X.w) X.A (leaving X.env (.ref ea)) (fun _ s'' => CXe X.prog X.w C outer X.H_0 X.s_0 E (.ref ea) s'') (fun e' s'' => CXe X.prog X.w C outer X.H_0 X.s_0 E e' s'') s -> X.xe (.ref ea) s
theorem leaves_cxOf {P : Program} {w : World} {K : PySem.W.Frag} {mg : Str -> Option Value} {base : Heap} {N : List Str} {qual : Str} {scope : Scope} {f : Addr} {cd : Value} {A : Around} {outer : List Env} {s : Shared} {H : Hp} {E : XK} {C : Addr} :
  Leaves (cxOf (CXe P w C) P w K mg base N qual scope f cd A outer s H E) C E outer := ⟨rfl, rfl, rfl, rfl, fun _ _ h => h⟩
section
variable {X : Cx} {C : Addr} {E : XK} {outer : List Env} {pins : List (Addr × Obj)} {σ : St} {H H' : Hp} {s s' : Shared}
theorem Inv.left {ea : Addr} {a0 : Value} {h'' G : Heap} (L : Leaves X C E outer) (I : Inv X pins σ H s) (ho : s'.os = s.os) (hg : AllBare s'.gens) (u : Un (frs X.stack) [] H H' s.heap s'.heap) (hok : HOk X.prog X.w H' s'.heap)
  (c : Cover (frs X.stack) H' s.heap G s'.heap) (fl : Heap.FlyingW G outer ea (.ref C) a0 h'') (sl : s'.heap.UpToSlots h'') (hE : E (.ref C) none H') : CXe X.prog X.w C outer X.H_0 X.s_0 E (.ref ea) { s' with heap := h'' } := by
 have I1 : Inv X pins σ H' s' := I.call' ho u hok hg noch
 have nr : NoRec (frs X.stack) s'.heap := norec_of I1.stack
 have u2 : Un (frs X.stack) [] H H' s.heap h'' := u.touch c nr fl.1 sl
 have hok2 : HOk X.prog X.w H' h'' := hok.touch c I1.stkFree fl.1
 have I2 : Inv X pins σ H' { s' with heap := h'' } := I.call' (s' := { s' with heap := h'' }) ho u2 hok2 hg noch
 have b2 := I2.base
 rw [show X.fs = frs outer by show frs X.outer = _; rw [L.out], L.ex] at b2
 refine ⟨ea, H', rfl, I2.os, hg, b2, hok2, ⟨G, a0, fl, fun b o e hb ht => ?_⟩, hE⟩
 have hbL : b ≠ X.env.locals := fun z => by
  rcases ht with ⟨v, hv⟩ | ⟨o0, h0⟩
  ·rw [z, I1.free] at hv; cases hv
  ·exact absurd (Nat.lt_of_lt_of_le (Heap.lt_size h0) I.ok.above) (by rw [z]; exact Nat.lt_irrefl _)
 have hbs : b ∉ frs X.stack := fun z => by
  rcases List.mem_cons.mp (I.stkSub b z) with q | q
  ·exact hbL q
  ·exact hb (by rw [show X.fs = frs outer by show frs X.outer = _; rw [L.out]] at q; exact q)
 obtain ⟨o1, e1, t1⟩ : ∃ o1, s'.heap.get? b = some o1 /\ ((∃ u, H' b = some u) \/ ∃ o0, s.heap.get? b = some o0) := by
  rcases ht with ⟨v, hv⟩ | ⟨o0, h0⟩
  ·obtain ⟨o1, e1⟩ := (hok b v hv).obj
   exact ⟨o1, e1, .inl ⟨v, hv⟩⟩
  ·obtain ⟨o1, e1⟩ := I1.base.there b o0 h0 (by rw [L.ex]; simp)
   obtain ⟨o2, e2⟩ := I.base.there b o0 h0 (by rw [L.ex]; simp)
   exact ⟨o1, e1, .inr ⟨o2, e2⟩⟩
 have q1 := c b o1 e1 hbs t1
 have q2 := fl.1 b o1 q1
 rw [q2] at e
 cases e
 exact q1
theorem passes_on (L : Leaves X C E outer) : Passes (CXe X.prog X.w C) X E := by
 intro pins σ H s e s' I h
 obtain ⟨ea, H', rfl, ho, hg, u, hok, ⟨G, a0, fl, c⟩, hE⟩ := h
 refine L.xe ea s' ?_
 have hst := L.stk
 rw [hst] at fl
 refine wpAny_leaves_onW (by rw [I.ok.frames, hst]) L.fr fl fun h'' f2 sl => ?_
 exact I.left L ho hg u hok c f2 sl hE
def tRaise (C : Addr) (E : XK) (t : TA) : TS := fun _ σ H => t σ H fun xs H1 => xs.length ≤ sizeLine /\ E (.ref C) none H1
theorem ps_raise {x : Str} {np cpos pos : Pos} {e₀ : Expr} {rest : List Expr} {ta : TA} (L : Leaves X C E outer) (hc : X.calm = true) (O : ExcC X.K X.mg x C) (hg : Gl X x) (ha : PA X (e₀ :: rest) ta)
  (he : starEach (e₀ :: rest) X.env = (false, eval e₀ X.env) :: starEach rest X.env := by rfl) (hpl : (backTo cpos (starEach rest X.env)).any (·.1) = false := by rfl) (hd : (x == ("__debug__" : Str)) = false := by decide) :
  PS X (.Raise (some (.Call (.Name x np) (e₀ :: rest) [] cpos)) none pos) (tRaise C E ta) := by
 intro pins s σ H D I h
 obtain ⟨tl, N, nm, qn, bs, hdct, sn, sub, ab, col, dd, k0, k1, k2, k3, k5, mN, hC, hN, hni, T⟩ := (O.own I.ok.mod.kin).obj
 refine wpAny_Raise_call_subT (C := C) (nm := nm) (q := qn) (N := N) (bs := bs) (bm := tl) (hdct := hdct) (sn := sn) (sub := sub) (ab := ab)
  (col := col) (dd := dd) (k0 := k0) (k1 := k1) (k2 := k2) (k3 := k3) (k5 := k5) PySem.F.excBase_ValueError (mN := mN) (T.hasType (by decide +kernel)) (I.ok.hd hc)
  (by rw [he]; show (false || (backTo cpos (starEach rest X.env)).any (·.1)) = false; rw [hpl]; rfl) hni ?_
 refine ld_glob I hg O.bound ⟨rfl, ?_⟩ hd
 have hA := ha cpos pins s σ H _ I h
 rw [he] at hA ⊢
 refine Calls.evalArgs_plain (thn hA fun us s2 ⟨vs, H2, I2, r2, hz, hE⟩ => ?_)
 refine ⟨rfl, by rw [<- r2.length]; exact hz, I2.bk _ _ hC, hN.keeps I2.bk, T.keeps I2.bk, fun h' ea hm => ?_⟩
 refine L.xe ea _ ?_
 have hin : ∀ env ∈ X.stack, ∀ b, env.frame = some b -> b ∈ frs X.stack := fun env hv b hb => List.mem_filterMap.mpr ⟨env, hv, hb⟩
 have ff := PySem.W.funFrames_hide I2.stack hin
 rw [L.stk] at ff
 refine wpAny_leaves_madeW (h := s2.heap) (by rw [I.ok.frames, L.stk]) L.fr (fun b o q => PySem.W.of_hideAll _ q) ff hm fun h'' t x1 x2 x3 x4 => ?_
 have cov : Cover (frs X.stack) H2 s2.heap (PySem.W.hideAll s2.heap (frs X.stack)) h' := fun b o e hb ht => by
  obtain ⟨o1, e1⟩ : ∃ o1, s2.heap.get? b = some o1 := by
   rcases ht with ⟨v, hv⟩ | z
   ·exact (I2.hok b v hv).obj
   ·exact z
  have e2 := hm.keeps b o1 e1
  rw [e2] at e
  cases e
  exact PySem.W.hideAll_get _ e1 hb
 have fl := x1
 rw [<- L.stk] at fl
 exact I2.left (s' := { s2 with heap := h' }) L rfl I2.bare (Un.kept hm.keeps) (I2.hok.kept hm.keeps) cov fl x4 hE
abbrev Cx.inEx (X : Cx) (ea : Addr) : Cx := { X with A := X.A.mark (some (.ref ea)), calm := false, xe := fun _ _ => False }
abbrev Cx.tries (X : Cx) (pins : List (Addr × Obj)) (E' : Value -> Shared -> Prop) : Cx := { X with pn := X.pn ++ pins, xe := E' }
theorem Inv.tries (I : Inv X pins σ H s) (E' : Value -> Shared -> Prop) : Inv (X.tries pins E') [] σ H s :=
 ⟨⟨I.ok.mod, I.ok.kind, I.ok.glob, I.ok.blt, I.ok.above, I.ok.inj, I.ok.has, I.ok.cab, I.ok.hd, I.ok.frames, I.ok.stk, I.ok.exf, I.ok.bs, I.ok.bsz, I.ok.noex, I.ok.exfs, I.ok.funs, I.ok.frf⟩,
  I.os, I.bare, I.base, I.loc, I.cell, I.free, I.freeC, fun p hp => I.pin p (by simpa using hp), I.hok, I.len⟩
theorem Inv.untries {E' : Value -> Shared -> Prop} {pins' : List (Addr × Obj)} (I : Inv (X.tries pins E') pins' σ H s) : Inv X pins σ H s :=
 ⟨⟨I.ok.mod, I.ok.kind, I.ok.glob, I.ok.blt, I.ok.above, I.ok.inj, I.ok.has, I.ok.cab, I.ok.hd, I.ok.frames, I.ok.stk, I.ok.exf, I.ok.bs, I.ok.bsz, I.ok.noex, I.ok.exfs, I.ok.funs, I.ok.frf⟩,
  I.os, I.bare, I.base, I.loc, I.cell, I.free, I.freeC, fun p hp => I.pin p (List.mem_append_left _ hp), I.hok, I.len⟩
theorem Inv.inEx (I : Inv X pins σ H s) (ea : Addr) : Inv (X.inEx ea) pins σ H s :=
 ⟨⟨I.ok.mod, I.ok.kind, I.ok.glob, I.ok.blt, I.ok.above, I.ok.inj, I.ok.has, I.ok.cab, fun z => (by cases z), I.ok.frames, I.ok.stk, I.ok.exf, I.ok.bs, I.ok.bsz, I.ok.noex, I.ok.exfs, I.ok.funs, I.ok.frf⟩,
  I.os, I.bare, I.base, I.loc, I.cell, I.free, I.freeC, I.pin, I.hok, I.len⟩
theorem Inv.unEx {ea : Addr} (hd : X.calm = true -> X.A.handled = none) (I : Inv (X.inEx ea) pins σ H s) : Inv X pins σ H s :=
 ⟨⟨I.ok.mod, I.ok.kind, I.ok.glob, I.ok.blt, I.ok.above, I.ok.inj, I.ok.has, I.ok.cab, hd, I.ok.frames, I.ok.stk, I.ok.exf, I.ok.bs, I.ok.bsz, I.ok.noex, I.ok.exfs, I.ok.funs, I.ok.frf⟩,
  I.os, I.bare, I.base, I.loc, I.cell, I.free, I.freeC, I.pin, I.hok, I.len⟩
theorem SP.unEx {ea : Addr} {D : Ends} {f : Flow} (hd : X.calm = true -> X.A.handled = none) (h : SP (X.inEx ea) pins D f s') : SP X pins D f s' := by
 cases f with
 | next => obtain ⟨a, b, I, q⟩ := h; exact ⟨a, b, I.unEx hd, q⟩
 | brk => obtain ⟨a, b, I, q⟩ := h; exact ⟨a, b, I.unEx hd, q⟩
 | cont => obtain ⟨a, b, I, q⟩ := h; exact ⟨a, b, I.unEx hd, q⟩
 | ret u => obtain ⟨v, a, b, I, r, q⟩ := h; exact ⟨v, a, b, I.unEx hd, r, q⟩
theorem SP.untries {E' : Value -> Shared -> Prop} {D : Ends} {f : Flow} (h : SP (X.tries pins E') [] D f s') : SP X pins D f s' := by
 cases f with
 | next => obtain ⟨a, b, I, q⟩ := h; exact ⟨a, b, I.untries, q⟩
 | brk => obtain ⟨a, b, I, q⟩ := h; exact ⟨a, b, I.untries, q⟩
 | cont => obtain ⟨a, b, I, q⟩ := h; exact ⟨a, b, I.untries, q⟩
 | ret u => obtain ⟨v, a, b, I, r, q⟩ := h; exact ⟨v, a, b, I.untries, r, q⟩
def exTry (th : TS) (D : Ends) (n : Nat) : XK := fun _ _ H' => ∀ σ' : St, σ'.length = n -> th D σ' H'
def tTry (tb : XK -> TS) (th : TS) : TS := fun D σ H => tb (exTry th D σ.length) D σ H
theorem ps_try {x : Str} {np hpos pos : Pos} {body suite : List Stmt} {b₀ : Stmt} {tb : XK -> TS} {th : TS} (hstk : X.stack = X.env :: outer) (hfr : X.env.frame = some X.env.locals) (O : ExcC X.K X.mg x C) (hg : Gl X x)
  (hb : ∀ pins E' EX, Passes (CXe X.prog X.w C) (X.tries pins E') EX -> PSs (X.tries pins E') body (tb EX)) (hs : ∀ ea, PSs (X.inEx ea) (b₀ :: suite) th) (hd : (x == ("__debug__" : Str)) = false := by decide) :
  PS X (.Try body [.ExceptHandler (some (.Name x np)) none (b₀ :: suite) hpos] [] [] pos) (tTry tb th) := by
 intro pins s σ H D I h
 refine wpAny_Try_except (wpAny_mono (hb pins _ (exTry th D σ.length) ?_ [] s σ H D (I.tries _) h) (fun f s1 q => ?_) fun e s1 q => q)
 ·intro pins1 σ1 H1 s1 e s1' I1 hcx
  obtain ⟨ea, H', rfl, ho, hgn, u, hok, ⟨G, a0, fl, c⟩, hE⟩ := hcx
  have I0 : Inv X pins σ1 H1 s1 := I1.untries
  have c : Cover (frs X.stack) H' s1.heap G s1'.heap := c
  have u : Un (frs X.stack) [] H1 H' s1.heap s1'.heap := u
  have fl : Heap.FlyingW G (X.env :: outer) ea (.ref C) a0 s1'.heap := hstk ▸ fl
  have I1' : Inv X pins σ1 H' s1' := I0.call' ho u hok hgn noch
  have nr : NoRec (frs X.stack) s1'.heap := norec_of I1'.stack
  have back : ∀ h6, G.StaysIn h6 -> s1'.heap.UpToSlots h6 -> Inv X pins σ1 H' { s1' with heap := h6 } := fun h6 st sl =>
   I0.call' (s' := { s1' with heap := h6 }) ho (u.touch c nr st sl) (hok.touch c I1'.stkFree st) hgn noch
  refine wpAny_looks_onW (by rw [I.ok.frames, hstk]) hfr fl fun h4 hd4 sl4 => ?_
  refine wpAny_landsW hd4 fun h5 fl5 sl5 => ?_
  have I5 := back h5 fl5.1 (sl4.trans sl5)
  have I5' : Inv (X.inEx ea) pins σ1 H' { s1' with heap := h5 } := I5.inEx ea
  refine wpAny_handleBy_cons (codeAny_handlers_test ?_) (by intro z; cases z)
  refine ld_glob (X := X.inEx ea) I5' hg O.bound ?_ hd
  obtain ⟨ob, hob, hobc⟩ := fl5.there
  obtain ⟨tl, N, nm, qn, bs, hdct, sn, sub, ab, col, dd, k0, k1, k2, k3, k5, mN, hC, hN, hni, T⟩ := (O.own I5.kIn).obj
  refine wpAny_excMatches_sub_self hC hob hobc (T.hasType (by decide +kernel)) (codeAny_handlers_suite ?_)
  refine lands_againW fl5 fun h6 fl6 sl6 => ?_
  have I6 := back h6 fl6.1 ((sl4.trans sl5).trans sl6)
  refine wpAny_mono (hs ea pins _ σ1 H' D (I6.inEx ea) (hE σ1 (by rw [I6.len, I.len]))) (fun f s2 q => ?_) fun _ _ z => False.elim z
  exact q.unEx I.ok.hd
 ·have q' := q.untries
  cases f with
  | next =>
   obtain ⟨a, b, J, w⟩ := q'
   exact wpAny_execs_nil ⟨a, b, J, w⟩
  | brk => exact q'
  | cont => exact q'
  | ret v => exact q'
end
section
variable {P : Program} {w : World} {K : PySem.W.Frag} {mg : Str -> Option Value} {base : Heap} {C : Addr}
theorem Fun.okE {x qual : Str} {st : Stmt} {f : Addr} {fd : FuncData} {N ps : List Str} {k : Nat} {sp : Sp} (F : Fun K x qual st f fd) (S : FnScope N ps (defScope st)) (len : ∀ vs H Q E, sp vs H Q E -> vs.length = ps.length)
  (hbody : ∀ (X : Cx) (outer : List Env) (cdv : Value) (A : Around) (s : Shared) (H : Hp) (vs : List V) (Q : VK) (E : XK), Room k (A.deeper (envOfC qual (defScope st) s.heap.objs.size f cdv)) -> sp vs H Q E ->
   X = cxOf (CXe P w C) P w K mg base N qual (defScope st) f cdv A outer s H E -> Leaves X C E outer ->
   ∃ t, PSs X (defBody st) t /\ t { nx := fun _ H' => Q .non H', rt := Q } (start N vs) H) : FnOk P w K mg base (CXe P w C) (k + 1) f fd ps sp := by
 obtain ⟨oc, od, kV, doc, pm, an, cdv, ct, osl, rfl, lk, hcd⟩ := F.ex
 exact fn_of lk hcd S len fun A outer s H vs Q E hr hsp => hbody _ outer cdv A s H vs Q E hr hsp rfl leaves_cxOf
end
section
variable {X : Cx} {CX : CXT} {E : XK} {x : Str} {p pos : Pos} {e : Expr} {es : List Expr} {t : TA}
structure Callee (X : Cx) (CX : CXT) (f : Addr) (sp : Sp) : Prop where
 ok : ∃ (k : Nat) (fd : FuncData) (ps : List Str), FnOk X.prog X.w X.K X.mg X.base CX k f fd ps sp /\ Room k X.A /\ Binds X.K fd ps []
 kp : PySem.W.keepIn X.K (.ref f) = true
def tCallV (X : Cx) (CX : CXT) (E : XK) (i : Nat) (t : TA) : TE := fun σ H Q => ∃ f sp, σ[i]? = some (some (.ref f)) /\ Callee X CX f sp /\ t σ H fun vs H1 => sp vs H1 Q E
theorem pe_callV {i : Nat} (hN : X.N[i]? = some x) (hv : Vis X.env.scope x) (hx : Passes CX X E) (ha : PA X (e :: es) t) (hd : (x == ("__debug__" : Str)) = false := by decide) (hcd : (x == ("__classdict__" : Str)) = false := by decide)
  (he : starEach (e :: es) X.env = (false, eval e X.env) :: starEach es X.env := by rfl) (hpl : (backTo pos (starEach es X.env)).any (·.1) = false := by rfl) : PE X (.Call (.Name x p) (e :: es) [] pos) (tCallV X CX E i t) := by
 intro pins s σ H Q I h
 obtain ⟨f, sp, hi, ⟨⟨k, fd, ps, F, hr, hb⟩, hk⟩, h⟩ := h
 refine wpAny_Call_Name_kw ?_
 refine thn (pe_var (pos := p) hN hv hd hcd pins s σ H (fun v H1 => v = .ref f /\ H1 = H) I ⟨_, hi, rfl, rfl⟩) fun u s0 ⟨v, H0, I0, r0, e0, e1⟩ => ?_
 subst e0 e1
 cases r0
 refine PySem.W.callWith_K (h₀ := X.base) I.ok.mod.kin hk (thn (ha pos pins s0 σ H0 _ I0 h) fun us s1 ⟨vs, H1, I1, r, q⟩ => ⟨I1.kIn, ?_⟩) he hpl
 exact run_fn (dvs := []) (ds := []) F hr hb .nil hx I1 r (by rw [List.append_nil]; exact q)
end
end L2
end
section
set_option Elab.async false
set_option linter.all false
set_option maxRecDepth 100000
set_option maxHeartbeats 4000000
namespace L2
open PySem PySem.Spec PyProof.Rows
section
variable {X : Cx}
theorem bools_at : ∀ {bs : List Bool} {us : List Value}, Vals (bs.map V.bl) us -> ∀ (i : Nat) (v : Value), us[i]? = some v -> ∃ b, bs[i]? = some b /\ v = .bool b
 | [], us, r, i, v, h => by cases r; simp at h
 | b :: bs, us, r, 0, v, h => by
  cases r with
  | cons r1 r2 =>
   have e : _ = Value.bool b := r1
   subst e
   simp at h
   exact ⟨b, rfl, h.symm⟩
 | b :: bs, us, r, i + 1, v, h => by
  cases r with
  | cons r1 r2 =>
   simp only [List.getElem?_cons_succ] at h ⊢
   exact bools_at r2 i v h
theorem range_getD : ∀ bs : List Bool, ((List.range bs.length).all fun i => (bs[i]?).getD true) = bs.all id := by
 intro bs
 rw [Bool.eq_iff_iff, List.all_eq_true, List.all_eq_true]
 constructor
 ·intro h b hb
  obtain ⟨i, hi, e⟩ := List.mem_iff_getElem.mp hb
  have := h i (by simpa using hi)
  rw [List.getElem?_eq_getElem hi, e] at this
  exact this
 ·intro h i hi
  have hi' : i < bs.length := by simpa using hi
  rw [List.getElem?_eq_getElem hi']
  exact h _ (List.getElem_mem hi')
theorem call_allB (hcalm : X.calm = true) : CallR X (.builtin "all") (fun xs H Q => ∃ (p : Addr) (bs : List Bool), xs = [.ref p] /\ SqL X.K H p (bs.map V.bl) /\ Q (.bl (bs.all id)) H) := by
 intro pins s σ H xs us Q I r h
 obtain ⟨p, bs, rfl, hs, q⟩ := h
 obtain ⟨u, rfl, rx⟩ := vals1 r
 cases rx
 obtain ⟨its, rv, hl, hz⟩ := I.list hs
 have hlen : bs.length = its.length := by have := rv.length; rwa [List.length_map] at this
 have hlt : p < s.heap.objs.size := by
  obtain ⟨_, e, _⟩ := hl.isList
  exact Heap.lt_size e
 refine call_all_walk (wpAny_pyIter_list hl.isList ?_)
 have W := Walks.list (prog := X.prog) (w := X.w) (A := X.A.in1) (I.ok.hd hcalm) s.heap.objs.size p (Nat.ne_of_lt hlt) its.toArray
 refine ⟨s.heap.objs.size, _, _, _, _, _, fun i => (bs[i]?).getD true, rfl, W, ⟨⟨_, Heap.get?_push_size _ rfl, rfl, rfl⟩, hl.isList.push _⟩, ?_, ?_⟩
 ·intro i v s' Q' E' hP hQ
  obtain ⟨b, e, rfl⟩ := bools_at rv i v (by simpa using hP)
  simp only [e, Option.getD_some] at hQ
  exact wpAny_truthy_bool hQ
 ·intro h' tk hk
  have e : ((List.range its.toArray.size).all fun i => (bs[i]?).getD true) = bs.all id := by
   rw [List.size_toArray, <- hlen, range_getD]
  rw [e]
  refine ⟨.bl _, H, I.kept (h' := h') (t' := tk) (fun b o eb => hk b o (fun hm => ?_) (Heap.get?_push_of_some _ eb)), rfl, q⟩
  have : b = s.heap.objs.size := by simpa using hm
  subst this
  exact Nat.lt_irrefl _ (Heap.lt_size eb)
end
def ddS (acc : List Str) (v : Str) : List Str := if acc.any (· == v) then acc else acc ++ [v]
def metS (val : Nat -> Str) (i : Nat) : List Str := ((List.range i).map val).foldl ddS []
theorem metS_succ (val : Nat -> Str) (i : Nat) : metS val (i + 1) = ddS (metS val i) (val i) := by
 unfold metS
 rw [List.range_succ, List.map_append, List.foldl_append]
 rfl
theorem ddS_len (acc : List Str) (v : Str) : (ddS acc v).length = if acc.any (· == v) then acc.length else acc.length + 1 := by
 unfold ddS
 split <;> simp
theorem metS_le (val : Nat -> Str) : ∀ i, (metS val i).length ≤ i
 | 0 => Nat.le_refl _
 | i + 1 => by
  rw [metS_succ, ddS_len]
  have := metS_le val i
  split <;> omega
theorem ddS_any (acc : List Str) (v k : Str) : (ddS acc v).any (· == k) = (acc.any (· == k) || decide (k = v)) := by
 unfold ddS
 by_cases h : acc.any (· == v) = true
 ·rw [if_pos h]
  by_cases e : k = v
  ·subst e; rw [h]; rfl
  ·rw [decide_eq_false e, Bool.or_false]
 ·rw [if_neg h, List.any_append]
  congr 1
  by_cases e : k = v
  ·subst e
   simp
  ·have hb : (v == k) = false := beq_eq_false_iff_ne.mpr fun q => e q.symm
   rw [List.any_cons, List.any_nil, hb, decide_eq_false e]
   rfl
section
variable {prog : Program} {w : World} {A : Around} {R : Result -> Shared -> Prop} {I : Addr} {fp wr : List Addr} {G : Array GenState -> Array GenState -> Prop} {n : Nat} {P : Nat -> Value -> Prop} {St : Nat -> Shared -> Prop}
theorem str_scan (x : Str) (t : Tok) : (Value.str x t).scannable = true := rfl
theorem set_loopS (W : WalksS prog w A.in1 I fp wr G n P St) (S : Addr) (hSf : S ∉ fp) (val : Nat -> Str) (hval : ∀ i v, P i v -> ∃ t, v = .str (val i) t) (hb : n + 1 < scanBound) :
  ∀ (k i : Nat) (s : Shared), n - i = k -> i ≤ n -> St i s -> s.heap.SetOf (strKind prog w) S (fun z => (metS val i).any (· == z)) (metS val i).length ->
   (∀ s', Moved (S :: wr) G s s' -> s'.heap.SetOf (strKind prog w) S (fun z => (metS val n).any (· == z)) (metS val n).length -> R (.ok (.ret .none)) s') ->
   codeAny (model prog w) A (.builtin "set.update.loop" ⟨[.ref S, .ref I], []⟩) R s := by
 have hSw : S ∉ wr := fun z => hSf (W.sub _ z)
 have wider : ∀ b ∈ wr, b ∈ S :: wr := fun b z => List.mem_cons_of_mem _ z
 intro k
 induction k with
 | zero =>
  intro i s hk hi hst hS hR
  obtain rfl : i = n := by omega
  refine codeAny_builtin PyProof.Rows.F.entry_set_update_loop ?_
  rw [Around.under_plainId PyProof.Rows.F.plain_set_update_loop _]
  show wpAny _ A.in1 (pyNext (.ref I) >>= _) _ _ s
  refine wpAny_bind (W.done s _ _ hst fun s' hm => ?_)
  refine wpAny_pure (hR s' (hm.mono wider) ?_)
  obtain ⟨o, es, ep, t, ho, more⟩ := hS
  exact ⟨o, es, ep, t, hm.heap S _ hSw ho, more⟩
 | succ k ih =>
  intro i s hk hi hst hS hR
  have hlt : i < n := by omega
  refine codeAny_builtin PyProof.Rows.F.entry_set_update_loop ?_
  rw [Around.under_plainId PyProof.Rows.F.plain_set_update_loop _]
  show wpAny _ A.in1 (pyNext (.ref I) >>= _) _ _ s
  refine wpAny_bind (W.item i s _ _ hlt hst fun v s' hP hst' hm => ?_)
  obtain ⟨t, rfl⟩ := hval i v hP
  have hS' : s'.heap.SetOf (strKind prog w) S (fun z => (metS val i).any (· == z)) (metS val i).length := by
   obtain ⟨o, es, ep, tb, ho, more⟩ := hS
   exact ⟨o, es, ep, tb, hm.heap S _ hSw ho, more⟩
  show wpAny _ A.in1 (holding [Value.str (val i) t] (setAdd S (.str (val i) t)) >>= _) _ _ s'
  refine wpAny_bind (wpAny_holding ?_)
  unfold setAdd
  refine wpAny_holding ?_
  refine wpAny_bind ((strKind prog w).pyHash (k := val i) (strKind_is _ _ _ _) ?_)
  have room : (metS val i).length + 1 < scanBound := by have := metS_le val i; omega
  refine wpAny_setAddHashed_of (knd := strKind prog w) (s := { s' with toks := s'.toks + 1 }) (strKind_is _ _ _ _) (str_scan _ _) hS' room fun h' sb hS2 => ?_
  have hSi : h'.SetOf (strKind prog w) S (fun z => (metS val (i + 1)).any (· == z)) (metS val (i + 1)).length :=
   SetOf_congr hS2 (fun z => by rw [metS_succ, ddS_any]) (by rw [metS_succ, ddS_len])
  refine wpAny_pure ⟨plainId_quiet PyProof.Rows.F.plain_set_update_loop _, ih (i + 1) _ (by omega) hlt (W.frame _ s' _ _ hst' (Nat.le_succ _) fun b hb' o e => ?_) hSi fun s'' hm'' hS'' => ?_⟩
  ·rw [sb.2 b (fun z : b = S => hSf (by rw [<- z]; exact hb'))]
   exact e
  ·refine hR s'' (Moved.trans W.gtrans ((hm.mono wider).then_heap (Nat.le_succ _) fun b o hb' e => ?_) hm'') hS''
   rw [sb.2 b (fun z : b = S => hb' (by rw [z]; exact List.mem_cons_self))]
   exact e
end
theorem strs_at : ∀ {ys : List Str} {us : List Value}, Vals (ys.map V.str) us -> ∀ (i : Nat) (v : Value), us[i]? = some v -> ∃ t, v = .str (ys.getD i Str.empty) t
 | [], us, r, i, v, h => by cases r; simp at h
 | b :: bs, us, r, 0, v, h => by
  cases r with
  | cons r1 r2 =>
   obtain ⟨t, e⟩ := r1
   subst e
   simp at h
   exact ⟨t, h.symm⟩
 | b :: bs, us, r, i + 1, v, h => by
  cases r with
  | cons r1 r2 =>
   simp only [List.getElem?_cons_succ] at h
   exact strs_at r2 i v h
abbrev freshSet (led : Bool) : Obj := { cls := .type "set", dict := none, data := .set #[] 0 (.fresh 0 0 led) }
section
variable {prog : Program} {w : World} {A : Around} {E : Value -> Shared -> Prop} {s : Shared}
theorem call_set_texts {l : Addr} {items : Array Value} {val : Nat -> Str} {Q : Value -> Shared -> Prop} (hh : A.handled = none) (hl : s.heap.IsList l items) (hval : ∀ (i : Nat) (v : Value), items[i]? = some v -> ∃ t, v = .str (val i) t) (hb : items.size + 1 < scanBound)
  (h : ∀ (h' : Heap) (tk : Nat), h'.SetOf (strKind prog w) s.heap.objs.size (fun z => (metS val items.size).any (· == z)) (metS val items.size).length ->
   (∀ b o, b < s.heap.objs.size -> s.heap.get? b = some o -> h'.get? b = some o) -> Q (.ref s.heap.objs.size) { s with heap := h', toks := tk }) : wpAny (model prog w) A (call (.type "set") [.ref l]) Q E s := by
 obtain ⟨c0, tl0, mro0⟩ := PySem.F.called_set.mro
 have made0 := PySem.F.called_set.made
 have sub0 := PySem.F.called_set.sub
 refine wpAny_call (codeAny_of_tree ?_)
 show wpAny _ _ (callAny (.type "set") _) _ _ _
 refine wpAny_pure ⟨Code.quiet_builtin _ (by decide +kernel),
  codeAny_builtin PySem.F.entry_type_call ?_⟩
 rw [Around.under_plain (weight_type_call_type "set" [.ref l] []) (by rfl)]
 have nt0 := PySem.F.called_set.notType
 have cc0 := PySem.F.called_set.canCreate
 have tc0 := PySem.F.typeCall_set_1 (.ref l)
 repeat (any_goals (first | assumption | wp_step))
 refine codeAny_mono (code_set_new_1 (.ref l) (E := E) (Q₁ := fun ob s1 => ∃ led : Bool, ob = .ref s.heap.objs.size /\ s1 = { s with heap := s.heap.push (freshSet led) })
  fun led => ⟨led, rfl, rfl⟩) fun r s1 hr => ?_
 cases r with
 | error e => exact hr
 | ok fl =>
  cases fl with
  | next => exact hr.elim
  | brk => exact hr.elim
  | cont => exact hr.elim
  | ret ob =>
   obtain ⟨led, rfl, rfl⟩ := hr
   have hS : (s.heap.push (freshSet led)).get? s.heap.objs.size = some (freshSet led) := Heap.get?_push_size _ rfl
   have hT : Shared.TypeIs { s with heap := s.heap.push (freshSet led) } (.ref s.heap.objs.size) "set" := ⟨_, hS, rfl⟩
   have li0 := PySem.F.called_set.init.lookup
   have bi0 := PySem.F.called_set.init.bind (.ref s.heap.objs.size)
   repeat (any_goals (first | assumption | wp_step))
   refine codeAny_mono (codeAny_call_builtin (R := wants (fun r s2 => r = .none /\ ∃ h' tk, s2 = { s with heap := h', toks := tk } /\
     h'.SetOf (strKind prog w) s.heap.objs.size (fun z => (metS val items.size).any (· == z)) (metS val items.size).length /\
     ∀ b o, b < s.heap.objs.size -> s.heap.get? b = some o -> h'.get? b = some o) E)
    PySem.F.called_set.init.plain PySem.F.entry_set_init (check_set_init_1 hT ?_)) fun r2 s2 hr2 => ?_
   ·obtain ⟨ol, hol, hcl, nl, hdl⟩ := hl
    cases ol with
    | mk oc odd odt osl =>
     simp only at hcl hdl
     subst hcl hdl
     have hol1 : (s.heap.push (freshSet led)).get? l = some { cls := .type "list", dict := odd, data := .seq items nl, slots := osl } := Heap.get?_push_of_some _ hol
     have ls0 := PySem.F.sub_list_set
     have lf0 := PySem.F.sub_list_frozenset
     have nd0 : (Value.type "list" == Value.type "dict") = false := by decide
     have hl1 : (s.heap.push (freshSet led)).IsList l items := ⟨_, hol1, rfl, nl, rfl⟩
     unfold Builtin.«set.__init__» noKeywords Builtin.Frozenset.updateFrom
     generalize hPI : pyIter = PI
     wp_walk
     subst hPI
     refine wpAny_pyIter_list hl1 (wpAny_bind (wpAny_runValue ?_))
     have lS : l < s.heap.objs.size := Heap.lt_size hol
     have h3 : A.in1.in1.in1.handled = none := by simp [hh]
     have sz1 : (s.heap.push (freshSet led)).objs.size = s.heap.objs.size + 1 := by rw [Heap.size_push]
     have hne : l ≠ (s.heap.push (freshSet led)).objs.size := by rw [sz1]; exact Nat.ne_of_lt (Nat.lt_succ_of_lt lS)
     have hSf : s.heap.objs.size ∉ [(s.heap.push (freshSet led)).objs.size, l] := by
      rw [sz1]
      simp only [List.mem_cons, List.not_mem_nil, or_false, not_or]
      exact ⟨Nat.ne_of_lt (Nat.lt_succ_self _), Nat.ne_of_gt lS⟩
     refine set_loopS ((Walks.list h3 _ l hne items).toS) s.heap.objs.size hSf val hval hb (items.size - 0) 0 _ (by omega) (Nat.zero_le _)
      ⟨⟨_, Heap.get?_push_size _ rfl, rfl, rfl⟩, (hl1.push _)⟩ ?s0 ?rr
     case s0 =>
      have g0 : ((s.heap.push (freshSet led)).push { cls := .type "list_iterator", data := .fields #[.ref l, .int 0 0] }).get? s.heap.objs.size = some (freshSet led) := Heap.get?_push_of_some _ hS
      exact SetOf_congr ((setObjOf_fresh (knd := strKind prog w) led).setOf g0 (by unfold scanBound; omega)) (fun _ => rfl) rfl
     case rr =>
      intro s' hm hS'
      cases s' with
      | mk h' g' d' tk' os' =>
       have eg : g' = s.gens := hm.gens
       have ed : d' = s.drawn := hm.drawn
       have eo : os' = s.os := hm.os
       subst eg ed eo
       refine wpAny_pure ?_
       refine wpAny_pure ⟨rfl, h', tk', rfl, hS', fun b o hb e => ?_⟩
       refine hm.heap b o ?_ (Heap.get?_push_of_some _ (Heap.get?_push_of_some _ e))
       simp only [List.mem_cons, List.not_mem_nil, or_false, not_or]
       rw [sz1]
       exact ⟨Nat.ne_of_lt hb, Nat.ne_of_lt (Nat.lt_succ_of_lt hb)⟩
   ·cases r2 with
    | error e => exact hr2
    | ok fl2 =>
     cases fl2 with
     | next => exact hr2.elim
     | brk => exact hr2.elim
     | cont => exact hr2.elim
     | ret r =>
      obtain ⟨rfl, h', tk, rfl, hS', hk'⟩ := hr2
      repeat (any_goals (first | assumption | wp_step))
      exact h _ _ hS' hk'
end
section
variable {X : Cx}
def sizedSet (P : Program) (w : World) (p : Addr) (n : Nat) : HO := .ext fun h => ∃ S : Str -> Bool, h.SetOf (strKind P w) p S n
theorem call_setT (hcalm : X.calm = true) : CallR X (.type "set") (fun xs H Q => ∃ (p : Addr) (ys : List Str), xs = [.ref p] /\ SqL X.K H p (ys.map V.str) /\ ys.length + 1 < scanBound /\
  ∀ l, H l = none -> Q (.ref l) (upd H l (sizedSet X.prog X.w l (metS (fun i => ys.getD i Str.empty) ys.length).length))) := by
 intro pins s σ H xs us Q I r h
 obtain ⟨p, ys, rfl, hs, hsz, q⟩ := h
 obtain ⟨u, rfl, rx⟩ := vals1 r
 cases rx
 obtain ⟨its, rv, hl, hz⟩ := I.list hs
 have hlen : ys.length = its.length := by have := rv.length; rwa [List.length_map] at this
 have hn : its.toArray.size = ys.length := by rw [List.size_toArray, hlen]
 refine call_set_texts (val := fun i => ys.getD i Str.empty) (I.ok.hd hcalm) hl.isList (fun i v e => strs_at rv i v (by simpa using e)) (by rw [hn]; exact hsz) fun h' tk hS hk => ?_
 rw [hn] at hS
 have hf : H s.heap.objs.size = none := I.hok.fresh (Nat.le_refl _)
 refine ⟨.ref s.heap.objs.size, _, I.laid (h' := h') (t' := tk) (fun b o e => hk b o (Heap.lt_size e) e) (Nat.le_refl _) ?_, rfl, q _ hf⟩
 refine ⟨⟨_, hS⟩, ?_, ?_⟩
 ·obtain ⟨o, _, _, _, e, _⟩ := hS
  exact ⟨o, e⟩
 ·rintro h1 h2 ⟨S, o, es, ep, t, e, more⟩ k
  exact ⟨S, o, es, ep, t, k o e, more⟩
theorem call_lenS : CallR X (.builtin "len") (fun xs H Q => ∃ (p : Addr) (n : Nat), xs = [.ref p] /\ H p = some (sizedSet X.prog X.w p n) /\ n < 1000 /\ Q (.int n) H) := by
 intro pins s σ H xs us Q I r h
 obtain ⟨p, n, rfl, hp, hn, q⟩ := h
 obtain ⟨u, rfl, rx⟩ := vals1 r
 cases rx
 obtain ⟨⟨S, o, es, ep, t, e, ex, hd, _, _, _, hf, hsz⟩, _, _⟩ := I.hok p _ hp
 refine call_len_set e ex hd hf (by omega) ?_
 exact ⟨.int n, H, I.tok _, ⟨_, by rw [hsz]⟩, q⟩
end
end L2
end
section
set_option Elab.async false
set_option linter.all false
set_option maxRecDepth 100000
set_option maxHeartbeats 4000000
namespace L2
open PySem PySem.Spec PyProof.Rows
open PySem.SeqAt PySem.AutoSeq1 PySem.MeetsSeq PySem.MeetsSeq2 PySem.MeetsSeq3
theorem tup_index (l : Addr) (items : Array Value) (n : Nat) (dd : Option Addr) (sl : Array (Option Value)) (x : Value) (e : Value -> Bool) (j : Nat) (hj : j < items.size)
  (hit : e items[j] = true) (hno : ∀ m (hm : m < items.size), m < j -> e items[m] = false) :
  Meets (Builtin.«tuple.index» ⟨[.ref l, x], []⟩)
   (fun A R s => s.heap.get? l = some { cls := .type "tuple", dict := dd, data := .seq items n, slots := sl } /\ (∀ y, y ∈ items -> EqAt A.in1 s y x (e y)) /\ R (.ok (.ret (.int j s.toks))) { s with toks := s.toks + 1 }) :=
 .of_wp fun prog w A R s h => by
  obtain ⟨hp, g, d, tk, os⟩ := s
  obtain ⟨hl, he, h⟩ := h
  unfold Builtin.«tuple.index»
  simp only [Std.Legacy.Range.forIn_eq_forIn_range']
  wp_walk using wpAny_loadPart' hl, wpAny_forIn_list _ (fun rest b s' => b.1 = none /\ s' = ⟨hp, g, d, tk, os⟩ /\ ∃ i, i ≤ j /\ rest = List.range' i (items.size - i) 1) _
  case turn =>
   rintro y rest b s' ⟨hb, rfl, i, hij, hr⟩
   have hlt : i < items.size := by omega
   have hsz : items.size - i = (items.size - (i + 1)) + 1 := by omega
   rw [hsz, List.range'_succ] at hr
   obtain ⟨rfl, hr2⟩ := List.cons.inj hr
   have hy : items[y]? = some items[y] := by simp [hlt]
   rw [hy]
   refine wpAny_bind (he _ (Array.getElem_mem hlt) prog w _ _ ?_)
   by_cases q : y = j
   ·subst q
    rw [hit]
    wp_walk
    exact ⟨_, rfl, h⟩
   ·rw [hno y hlt (by omega)]
    wp_walk
    exact ⟨rfl, rfl, y + 1, by omega, hr2⟩
  case fin =>
   rintro ⟨b1, b2⟩ s' ⟨hb, rfl, i, hij, hr⟩
   have : items.size - i = 0 := by
    cases q : items.size - i with
    | zero => rfl
    | succ k => rw [q, List.range'_succ] at hr; cases hr
   omega
  case h =>
   refine ⟨rfl, rfl, 0, Nat.zero_le _, ?_⟩
   simp [Std.Legacy.Range.size]
section
variable {X : Cx}
def rIndexT (K : PySem.W.Frag) : V -> List V -> Hp -> VK -> Prop := fun x xs H Q => ∃ (a : Addr) (ys : List V) (y : V) (j : Nat) (z : V), x = V.ref a /\ xs = [y] /\ SqT K H a ys /\ flatV y = true /\ ys.all flatV = true /\ ys[j]? = some z /\ eqV z y = true /\
 (∀ (m : Nat) (z' : V), m < j -> ys[m]? = some z' -> eqV z' y = false) /\ Q (.int (j : Nat)) H
theorem mt_indexT : MtR X "tuple.index" (rIndexT X.K) := by
 intro pins s σ H x xs v us Q I rx rxs h
 obtain ⟨a, ys, y, j, z, rfl, rfl, hs, fy, fys, hz, hzj, hno, q⟩ := h
 cases rx
 cases rxs with
 | cons ry rt =>
  rename_i uy ut
  cases rt
  obtain ⟨its, rv, ⟨o, ho, hc, n, hd⟩, hlen⟩ := I.tuple hs
  cases o with
  | mk oc od odt osl =>
   simp only at hc hd
   subst hc hd
   obtain ⟨u, hu, ru⟩ := rv.get hz
   obtain ⟨hjl, hje⟩ := List.getElem?_eq_some_iff.mp hu
   have hj : j < its.toArray.size := by simpa using hjl
   have hvl := rv.length
   refine call_meets PySem.F.slot_tuple_index ⟨_, ho, rfl⟩ PySem.F.entry_tuple_index (PySem.F.args_tuple_index_2 _ _) (tup_index a its.toArray n od osl uy (eqU y) j hj ?_ ?_)
    ⟨ho, fun u' hu' => mem_eqAt ry fy rv fys u' (by simpa using hu'), ⟨.int (j : Nat), H, I.tok _, ⟨_, rfl⟩, q⟩⟩
   ·have e1 : its.toArray[j] = u := by simpa using hje
    rw [e1, eqU_of ru (flat_at fys hz)]
    exact hzj
   ·intro m hm hmj
    have hmy : m < ys.length := by have : m < its.length := (by simpa using hm); omega
    have hy' : ys[m]? = some ys[m] := List.getElem?_eq_getElem hmy
    obtain ⟨u2, hu2, ru2⟩ := rv.get hy'
    obtain ⟨_, hme⟩ := List.getElem?_eq_some_iff.mp hu2
    have e1 : its.toArray[m] = u2 := by simpa using hme
    rw [e1, eqU_of ru2 (flat_at fys hy')]
    exact hno m _ hmj hy'
end
end L2
end
section
set_option Elab.async false
set_option linter.all false
set_option maxRecDepth 100000
set_option maxHeartbeats 4000000
namespace L2
open PySem PySem.Spec PyProof.Rows
def dtup (p : Addr) (xs : List V) : HO := .ext fun h => ∃ (its : List Value) (n : Nat), Vals xs its /\ h.get? p = some { cls := .type "tuple", data := .seq its.toArray n }
section
variable {X : Cx} {o e : Expr} {to te : TE} {apos cpos : Pos}
def rCatX (K : PySem.W.Frag) : R2 := fun x y H Q => ∃ a b xs ys, x = .ref a /\ y = .ref b /\ SqT K H a xs /\ SqT K H b ys /\ xs ≠ [] /\ ys ≠ [] /\ xs.length + ys.length ≤ sizeLine /\ ∀ p, H p = none -> Q (.ref p) (upd H p (dtup p (xs ++ ys)))
theorem op_catX : OpR X (binaryOp .Add) (rCatX X.K) := by
 intro pins s σ H x y v u Q I rx ry h
 obtain ⟨a, b, xs, ys, rfl, rfl, ha, hb, hx, hy, hz, q⟩ := h
 cases rx
 cases ry
 obtain ⟨its, r1, p1, _⟩ := I.tuple ha
 obtain ⟨its2, r2, p2, _⟩ := I.tuple hb
 refine HT.cat_tup p1 p2 (fun z => hx (r1.nil_iff.mp z)) (fun z => absurd (r2.nil_iff.mp z) hy) (fun z => ?_) (by rw [<- r1.length, <- r2.length]; exact hz)
 have hf : H s.heap.objs.size = none := I.hok.fresh (Nat.le_refl _)
 refine ⟨.ref s.heap.objs.size, _, I.laid (t' := s.toks) (fun b o e => Heap.get?_push_of_some _ e) (Nat.le_refl _) ?_, rfl, q _ hf⟩
 refine ⟨⟨its ++ its2, 0, r1.append r2, Heap.get?_push_size _ rfl⟩, ⟨_, Heap.get?_push_size _ rfl⟩, ?_⟩
 rintro h1 h2 ⟨w1, n1, w2, w3⟩ k
 exact ⟨w1, n1, w2, k _ w3⟩
def tIdxX (to te : TE) : TE := fun σ H Q => to σ H fun x H1 => ∃ p ys, x = .ref p /\ H1 p = some (dtup p ys) /\ te σ H1 fun y H2 => H2 p = some (dtup p ys) /\ flatV y = true /\ ys.all flatV = true /\
 ∃ (j : Nat) (z : V), ys[j]? = some z /\ eqV z y = true /\ (∀ (m : Nat) (z' : V), m < j -> ys[m]? = some z' -> eqV z' y = false) /\ Q (.int (j : Nat)) H2
theorem pe_idxX (ho : PE X o to) (he : PE X e te) (hbase : attributeBase o "index" X.env (eval o X.env) = eval o X.env := by rfl)
  (hfew : ((backTo cpos (starEach [e] X.env)).all (fun x => !x.1) && (backToKw cpos (keywordEach [] X.env)).all (fun x => x.1.isSome)
   && decide (([e] : List Expr).length + ([] : List Keyword).length + (if ([] : List Keyword).isEmpty then 0 else 1) < 30)) = true := by rfl)
  (hline : (apos.endLine == cpos.line) = true := by rfl) (hs : starEach [e] X.env = (false, eval e X.env) :: starEach [] X.env := by rfl) (hplain : (backTo cpos (starEach [] X.env)).any (·.1) = false := by rfl) :
  PE X (.Call (.Attribute o "index" apos) [e] [] cpos) (tIdxX to te) := by
 intro pins s σ H Q I h
 refine wpAny_Call_method_late hbase hfew hline rfl (thn (ho pins s σ H _ I h) fun v s1 ⟨x, H1, I1, r1, p, ys, ex, hp, q1⟩ => ?_)
 subst ex
 cases r1
 obtain ⟨⟨its0, n0, rv0, ho0⟩, _, _⟩ := I1.hok p _ hp
 refine ⟨"tuple", "tuple.index", PySem.F.plainAttrs_tuple, PySem.F.slot_tuple_index, PySem.F.type_tuple_index, ⟨_, ho0, rfl⟩, fun a e1 => ?_, ?_⟩
 ·cases e1
  exact ⟨_, ho0, rfl⟩
 ·rw [hs]
  refine Calls.callWith_builtin (by show (false || (backTo cpos (starEach [] X.env)).any (·.1)) = false; rw [hplain] <;> rfl) (Calls.evalArgs_plain ?_)
  refine Calls.spliced_cons (thn (he pins s1 σ H1 _ I1 q1) fun u s2 ⟨y, H2, I2, ry, hp2, fy, fys, j, z, hz, hzj, hno, q⟩ => Calls.spliced_nil ?_)
  obtain ⟨⟨its, n, rv, ho⟩, _, _⟩ := I2.hok p _ hp2
  obtain ⟨u1, hu, ru⟩ := rv.get hz
  obtain ⟨hjl, hje⟩ := List.getElem?_eq_some_iff.mp hu
  have hj : j < its.toArray.size := by simpa using hjl
  have hvl := rv.length
  refine call_meets PySem.F.slot_tuple_index ⟨_, ho, rfl⟩ PySem.F.entry_tuple_index (PySem.F.args_tuple_index_2 _ _) (tup_index p its.toArray n none #[] u (eqU y) j hj ?_ ?_)
   ⟨ho, fun u' hu' => mem_eqAt ry fy rv fys u' (by simpa using hu'), ⟨.int (j : Nat), H2, I2.tok _, ⟨_, rfl⟩, q⟩⟩
  ·have e1 : its.toArray[j] = u1 := by simpa using hje
   rw [e1, eqU_of ru (flat_at fys hz)]
   exact hzj
  ·intro m hm hmj
   have hmy : m < ys.length := by have : m < its.length := (by simpa using hm); omega
   have hy' : ys[m]? = some ys[m] := List.getElem?_eq_getElem hmy
   obtain ⟨u2, hu2, ru2⟩ := rv.get hy'
   obtain ⟨_, hme⟩ := List.getElem?_eq_some_iff.mp hu2
   have e1 : its.toArray[m] = u2 := by simpa using hme
   rw [e1, eqU_of ru2 (flat_at fys hy')]
   exact hno m _ hmj hy'
end
end L2
end
section
set_option Elab.async false
set_option linter.all false
set_option maxRecDepth 100000
set_option maxHeartbeats 4000000
namespace L2
open PySem PySem.Spec PyProof.Rows
section
variable {X : Cx} {CX : CXT} {E : XK} {x : Str} {p pos : Pos} {e : Expr} {es : List Expr} {t : TA}
def KeepsAt (P : Program) (w : World) (K : PySem.W.Frag) (base : Heap) (f : Addr) : Prop :=
 ∀ h : Heap, K.In h -> (∀ b o, base.get? b = some o -> h.get? b = some o) -> ∃ k, (k = Keeper.frame \/ k = Keeper.machine \/ k = Keeper.boundFrame) /\ PySem.W.Looks (model P w) h (keeperOf (.ref f)) k
structure CalleeB (X : Cx) (CX : CXT) (f : Addr) (sp : Sp) : Prop where
 ok : ∃ (k : Nat) (fd : FuncData) (ps : List Str), FnOk X.prog X.w X.K X.mg X.base CX k f fd ps sp /\ Room k X.A /\ Binds X.K fd ps []
 kp : KeepsAt X.prog X.w X.K X.base f
def tCallB (X : Cx) (CX : CXT) (E : XK) (i : Nat) (t : TA) : TE := fun σ H Q => ∃ f sp, σ[i]? = some (some (.ref f)) /\ CalleeB X CX f sp /\ t σ H fun vs H1 => sp vs H1 Q E
theorem pe_callL {i : Nat} (hN : X.N[i]? = some x) (hv : Vis X.env.scope x) (hx : Passes CX X E) (ha : PA X (e :: es) t) (hd : (x == ("__debug__" : Str)) = false := by decide) (hcd : (x == ("__classdict__" : Str)) = false := by decide)
  (he : starEach (e :: es) X.env = (false, eval e X.env) :: starEach es X.env := by rfl) (hpl : (backTo pos (starEach es X.env)).any (·.1) = false := by rfl) : PE X (.Call (.Name x p) (e :: es) [] pos) (tCallB X CX E i t) := by
 intro pins s σ H Q I h
 obtain ⟨f, sp, hi, ⟨⟨k, fd, ps, F, hr, hb⟩, hk⟩, h⟩ := h
 refine wpAny_Call_Name_kw ?_
 refine thn (pe_var (pos := p) hN hv hd hcd pins s σ H (fun v H1 => v = .ref f /\ H1 = H) I ⟨_, hi, rfl, rfl⟩) fun u s0 ⟨v, H0, I0, r0, e0, e1⟩ => ?_
 subst e0 e1
 cases r0
 have q0 := ha pos pins s0 σ H0 _ I0 h
 rw [he] at q0
 show wpAny _ _ (callWith pos (.ref f) [] (backTo pos (starEach (e :: es) X.env)) []) _ _ s0
 rw [he]
 refine PySem.W.callWith_of (P := fun h => X.K.In h /\ ∀ b o, X.base.get? b = some o -> h.get? b = some o) (by show ((false || (backTo pos (starEach es X.env)).any (·.1)) || false) = false; rw [hpl]; rfl) (fun h z => hk h z.1 z.2) (Calls.evalArgs_plain (thn q0 fun us s1 ⟨vs, H1, I1, r, q⟩ => ⟨⟨I1.kIn, I1.bk⟩, ?_⟩))
 exact run_fn (dvs := []) (ds := []) F hr hb .nil hx I1 r (by rw [List.append_nil]; exact q)
end
end L2
end
section
set_option Elab.async false
set_option linter.all false
set_option maxRecDepth 100000
set_option maxHeartbeats 4000000
namespace L2
open PySem PySem.Spec PyProof.Rows
structure LamAt (h : Heap) (f : Addr) (name qual : Str) (params : Arguments) (body : Expr) (scope : Scope) (clos : List (Str × Addr)) (pm : Value) (c' : Addr) (ctv : Value) : Prop where
 ob : h.get? f = some (PySem.W.kla_obj name qual params body scope clos pm c' ctv)
 cd : h.CodeRec (.ref c') qual
theorem LamAt.keeps {P : Program} {w : World} {K : PySem.W.Frag} {h : Heap} {f : Addr} {name qual : Str} {params : Arguments} {body : Expr} {scope : Scope} {clos : List (Str × Addr)} {pm : Value} {c' : Addr} {ctv : Value} (L : LamAt h f name qual params body scope clos pm c' ctv) : KeepsAt P w K h f :=
 fun g _ hb => ⟨.frame, .inl rfl, (PySem.W.Looks.ld (part := none) (hb _ _ L.ob)).andThen .now⟩
def cxLam (CX : CXT) (P : Program) (w : World) (K : PySem.W.Frag) (mg : Str -> Option Value) (base : Heap) (N : List Str) (qual : Str) (scope : Scope) (f : Addr) (cd : Value) (clos : List (Str × Addr)) (A : Around) (outer : List Env) (s : Shared) (H : Hp) (E : XK) : Cx where
 prog := P
 w := w
 K := K
 mg := mg
 base := base
 A := A.deeper (PySem.W.envX qual scope s.heap.objs.size f cd clos)
 N := N
 s_0 := s
 H_0 := H
 env := PySem.W.envX qual scope s.heap.objs.size f cd clos
 outer := outer
 stack := PySem.W.envX qual scope s.heap.objs.size f cd clos :: outer
 ex := []
 calm := true
 fn := fun _ => false
 pn := []
 xe := fun e s' => wpAny (model P w) (A.deeper (PySem.W.envX qual scope s.heap.objs.size f cd clos)) (leaving (PySem.W.envX qual scope s.heap.objs.size f cd clos) e) (fun _ s'' => CX outer H s E e s'') (fun e' s'' => CX outer H s E e' s'') s'
theorem lam_of {CX : CXT} {P : Program} {w : World} {K : PySem.W.Frag} {mg : Str -> Option Value} {base : Heap} {k : Nat} {f : Addr} {name qual : Str} {params : Arguments} {body : Expr} {scope : Scope} {clos : List (Str × Addr)} {pm : Value} {c' : Addr} {ctv : Value} {p0 : Str} {xs : List Str} {v0s : List V} {sp : Sp}
  (L : LamAt base f name qual params body scope clos pm c' ctv) (kind : scope.kind = .function) (co : scope.isCoroutine = false) (gen : scope.isGenerator = false) (par : scope.names.lookup p0 = some .local) (nocell : ∀ y ∈ scope.names, y.2 ≠ .cell)
  (frs_ : ∀ x, scope.names.lookup x = some .free -> x ∈ xs) (fk : ∀ x ∈ xs, scope.names.lookup x = some .free) (hlen : v0s.length = xs.length)
  (hc : ∀ (i : Nat) (x : Str) (v : V), xs[i]? = some x -> v0s[i]? = some v -> ∃ c u, clos.lookup x = some c /\ base.IsCell c (some u) /\ RelV v u) (hcells : ∀ x c, clos.lookup x = some c -> ∃ v, base.IsCell c v)
  (hinj : ∀ x y c, clos.lookup x = some c -> clos.lookup y = some c -> x = y) (len : ∀ vs H Q E, sp vs H Q E -> vs.length = 1)
  (hbody : ∀ (A : Around) (outer : List Env) (s : Shared) (H : Hp) (v : V) (Q : VK) (E : XK), Room k (A.deeper (PySem.W.envX qual scope s.heap.objs.size f (.ref c') clos)) -> sp [v] H Q E ->
   ∃ t, PE (cxLam CX P w K mg base (p0 :: xs) qual scope f (.ref c') clos A outer s H E) body t /\ t (some v :: v0s.map some) H Q) :
  FnOk P w K mg base CX (k + 1) f (PySem.W.kla_fn name qual params body scope clos pm (.ref c') ctv) [p0] sp := by
 refine ⟨fun vs H Q E h => len vs H Q E h, fun A outer s H args us vs Q E hr e0 hb r hsp => ?_⟩
 have hl := len _ _ _ _ hsp
 match vs, us, hl, r, hb, hsp with
 | [v], [u], _, .cons r0 .nil, hb, hsp =>
  have kp : ∀ b o, base.get? b = some o -> s.heap.get? b = some o := fun b o e => (e0.bs b o e).1
  have lim : s.heap.NoLimit := e0.mod.nolimit.keeps kp
  refine PySem.W.kla_callFunE hr.depth (kp _ _ L.ob) rfl co gen rfl (L.cd.keeps kp) (hb _ _ _ _ ?_)
  refine wpAny_newFunctionEnv nocell (fun y hy => ?_) (fun h₁ hns hsb => ⟨lim.fresh _ hsb, ?_⟩) kind
  ·have : y = (p0, u) := by simpa using hy
   rw [this]
   exact par
  show codeAny _ _ (.expr body (PySem.W.envX qual scope s.heap.objs.size f (.ref c') clos)) _ _
  obtain ⟨t, ht, hq⟩ := hbody A outer s H v Q E (hr.deeper _) hsp
  have hk₁ : ∀ b o, s.heap.get? b = some o -> h₁.get? b = some o := fun b o e => hsb.extBut b o (Nat.ne_of_lt (Heap.lt_size e)) (Heap.get?_push_of_some _ e)
  have noA : ∀ b : Addr, b ∉ (cxLam CX P w K mg base (p0 :: xs) qual scope f (.ref c') clos A outer s H E).ex := fun b z => absurd (show b ∈ ([] : List Addr) from z) (by simp)
  have I : Inv (cxLam CX P w K mg base (p0 :: xs) qual scope f (.ref c') clos A outer s H E) [] (some v :: v0s.map some) H { s with heap := h₁, toks := s.toks + 1 } := by
   refine ⟨⟨e0.mod, kind, rfl, rfl, Nat.le_refl _, hinj, fun y hy => ?_, fun y c z _ => (by cases z), fun _ => hr.hd, Around.frames_deeper e0.frames, .inr ⟨rfl, rfl⟩, fun b z => absurd z (noA b), e0.bs, e0.bsz, fun b _ _ => noA b, fun b z => absurd z (noA b), e0.funs, e0.frf⟩,
    rfl, e0.bare, Un.kept hk₁, ⟨_, hns, fun i y v' h1 h2 h3 => ?_⟩, fun y c h => ?_, e0.hok.fresh (Nat.le_refl _), fun y c h => ?_, fun p hp => absurd (show p ∈ ([] : List (Addr × Obj)) from hp) (by simp), e0.hok.kept hk₁, ?_⟩
   ·have hy : scope.names.lookup y = some .cell \/ scope.names.lookup y = some .free := hy
    rcases hy with hy | hy
    ·exact absurd rfl (nocell _ (PySem.mem_of_lookup hy))
    ·have hm := frs_ y hy
     obtain ⟨i, hi, e⟩ := List.getElem_of_mem hm
     obtain ⟨c, u', h1, _⟩ := hc i y (v0s[i]'(by omega)) (by rw [List.getElem?_eq_getElem hi, e]) (List.getElem?_eq_getElem (by omega))
     exact ⟨c, h1⟩
   ·cases i with
    | zero =>
     have e1 : p0 = y := Option.some.inj (show some p0 = some y from h1)
     have e2 : v = v' := Option.some.inj (Option.some.inj (show some (some v) = some (some v') from h2))
     subst e1 e2
     refine ⟨u, r0, .inl ⟨par, ?_⟩⟩
     show ([(p0, u)] : List (Str × Value)).lookup p0 = some u
     simp
    | succ i =>
     have h1 : xs[i]? = some y := h1
     have h2 : (v0s.map some)[i]? = some (some v') := h2
     rw [List.getElem?_map] at h2
     cases e : v0s[i]? with
     | none => rw [e] at h2; cases h2
     | some v'' =>
      rw [e] at h2
      cases h2
      obtain ⟨c, u', q1, q2, q3⟩ := hc i y v' h1 e
      exact ⟨u', q3, .inr ⟨.inr (fk y (List.mem_of_getElem? h1)), c, q1, (q2.keeps kp).keeps hk₁⟩⟩
   ·obtain ⟨v', z⟩ := hcells y c h
    exact ⟨v', (z.keeps kp).keeps hk₁⟩
   ·obtain ⟨v', o, ho, _⟩ := hcells y c h
    exact (e0.bs c o ho).2
   ·show (some v :: v0s.map some).length = (p0 :: xs).length
    simp [hlen]
  refine PySem.W.kla_codeExpr (wpAny_mono (ht [] _ _ H Q I hq) (fun u' s' hs => ?_) fun e s' hs => hs)
  obtain ⟨x, H', J, rv, q⟩ := hs
  exact ⟨x, H', J.os, J.bare, J.base, J.hok, rv, q⟩
structure LamBase (mg : Str -> Option Value) (c Pt : Addr) (base : Heap) : Prop where
 hd : PySem.W.CodeHd base c Pt
 bm : ∃ bm ob, mg "__builtins__" = some (.ref bm) /\ bm ≠ builtinsNs /\ base.get? bm = some ob /\ ob.cls = .type "module" /\ ob.dict = some builtinsNs /\ ob.data = .plain
theorem funs_new {h b1 b2 : Heap} : ∀ {l : List Env}, h.FunFrames b1 l -> (∀ b ∈ frs l, b2.get? b = none) -> h.FunFrames b2 l
 | [], _, _ => trivial
 | env :: r, ⟨hk, ⟨Lo, o, hf, hn, ho, hd⟩, hr⟩, hb => by
  have e : frs (env :: r) = Lo :: frs r := by unfold frs; rw [List.filterMap_cons, hf]
  exact ⟨hk, ⟨Lo, o, hf, hb Lo (by rw [e]; exact .head _), ho, hd⟩, funs_new hr fun b q => hb b (by rw [e]; exact .tail _ q)⟩
section
variable {X : Cx} {CX : CXT} {E : XK} {k : Nat} {x : Str} {fg c Pt : Addr} {fd : FuncData} {ps : List Str} {e : Expr} {te : TE} {params : Arguments} {body : Expr} {scope : Scope} {lpos p pos : Pos} {clos : List (Str × Addr)} {spG : Heap -> Sp}
def tCallLam (X : Cx) (Pt : Addr) (lpos : Pos) (params : Arguments) (body : Expr) (scope : Scope) (clos : List (Str × Addr)) (spG : Heap -> Sp) (E : XK) (te : TE) : TE := fun σ H Q => te σ H fun v H1 =>
 ∃ tb, H1 Pt = some (.tbl tb) /\ TriplesOk tb.toList /\ codeAmong lpos tb.toList = none /\
  ∀ (b2 : Heap) (f c' : Addr) (ctv : Value) (tb' : Array Value), LamAt b2 f "<lambda>" (X.env.qual ++ "<lambda>") params body scope clos ((X.mg "__name__").getD .none) c' ctv -> (∀ y d, X.env.cells.lookup y = some d -> ∃ v, b2.IsCell d v) ->
   (∀ (i : Nat) (y : Str) (v : V), X.N[i]? = some y -> σ[i]? = some (some v) -> X.env.scope.names.lookup y = some .cell -> ∃ d u, X.env.cells.lookup y = some d /\ b2.IsCell d (some u) /\ RelV v u) ->
   (∀ y z d, X.env.cells.lookup y = some d -> X.env.cells.lookup z = some d -> y = z) -> spG b2 [v, .ref f] (upd H1 Pt (.tbl tb')) Q E
theorem pe_callLam (F : ∀ b2 : Heap, FnOk X.prog X.w X.K X.mg b2 CX k fg fd ps (spG b2)) (hr : Room k X.A) (hg : Gl X x) (hm : X.mg x = some (.ref fg)) (hk : PySem.W.keepIn X.K (.ref fg) = true) (hb : Binds X.K fd ps []) (hx : Passes CX X E)
  (LB : LamBase X.mg c Pt X.base) (hcode : X.env.code = .ref c) (hcl : closureFor scope X.env = pure clos) (hdef : defaultsOf params X.env = ([], [])) (hfn : ∀ y, X.fn y = true) (he : PE X e te) (hdb : (x == ("__debug__" : Str)) = false := by decide)
  (hst : starEach [e, .Lambda params body scope lpos] X.env = [(false, eval e X.env), (false, eval (.Lambda params body scope lpos) X.env)] := by rfl) (hst2 : starEach [.Lambda params body scope lpos] X.env = [(false, eval (.Lambda params body scope lpos) X.env)] := by rfl) :
  PE X (.Call (.Name x p) [e, .Lambda params body scope lpos] [] pos) (tCallLam X Pt lpos params body scope clos spG E te) := by
 intro pins s σ H Q I h
 refine wpAny_Call_Name_kw (ld_glob I hg hm ?_ hdb)
 refine PySem.W.callWith_K (h₀ := X.base) I.ok.mod.kin hk ?_ (by rw [hst, hst2]) (by rw [hst2]; rfl)
 rw [hst]
 show wpAny _ _ (spliced ((false, eval e X.env) :: backTo pos [(false, eval (.Lambda params body scope lpos) X.env)])) _ _ s
 refine Calls.spliced_cons (thn (he pins s σ H _ I h) fun u s1 ⟨v, H1, I1, r1, tb, hP, ht, hnf, hq⟩ => ?_)
 have hPo : s1.heap.get? Pt = some (PySem.W.tabObj tb) := I1.hok Pt _ hP
 have bkne : ∀ b o, X.base.get? b = some o -> b ≠ Pt := fun b o q z => by
  have := (I1.bs b o q).2
  rw [z, hP] at this; cases this
 have hgs := I1.ok.mod.glob
 have hgP : mainGlobals ≠ Pt := by
  obtain ⟨o, es, ep, q, _⟩ := hgs
  exact bkne _ _ q
 obtain ⟨bm, ob, b1, b2, b3, b4, b5, b6⟩ := LB.bm
 have hbG : bm ≠ mainGlobals := fun q => by
  obtain ⟨o, es, ep, e', hd, _⟩ := hgs
  rw [q, e'] at b3; cases b3; rw [hd] at b6; cases b6
 show wpAny _ _ (spliced ((false, eval (.Lambda params body scope lpos) X.env) :: backTo pos [])) _ _ s1
 refine Calls.spliced_cons (PySem.W.kla_eval hdef (PySem.W.kla_makeFunction (mg := X.mg) (c := c) (P := Pt) (ps := tb) hcl I1.ok.glob (hgs.keeps I1.bk) hcode (LB.hd.keeps I1.bk) hPo ht hnf hgP ⟨bm, ob, b1, b2, hbG, bkne _ _ b3, I1.bk _ _ b3, b4, b5, b6⟩ fun c' ctv h' tk hx' hge hlt hrec htb => Calls.spliced_nil ?_))
 generalize hobe : PySem.W.kla_obj "<lambda>" (X.env.qual ++ "<lambda>") params body scope clos ((X.mg "__name__").getD .none) c' ctv = lob
 generalize htb2 : tb ++ #[rawInt lpos.line, rawInt lpos.col, .ref c'] = tb2 at htb
 have kpt : ∀ b o, b ≠ Pt -> s1.heap.get? b = some o -> (h'.push lob).get? b = some o := fun b o hne q => Heap.get?_push_of_some _ (hx' b o hne q)
 have P2 : (h'.push lob).get? Pt = some (PySem.W.tabObj tb2) := Heap.get?_push_of_some _ htb
 have nP : ∀ b, H1 b = none -> b ≠ Pt := fun b q z => by rw [z, hP] at q; cases q
 have U : Un X.fs [] H1 (upd H1 Pt (.tbl tb2)) s1.heap (h'.push lob) := by
  refine ⟨fun b o q n _ _ => kpt b o (nP b n) q, fun b o q n _ _ => ⟨o.slots, kpt b o (nP b n) q⟩, fun b o q n _ => by rw [upd_ne (nP b n)]; exact n, fun b o q _ => ?_, fun b xs q => ?_, fun b o u' q => ?_, fun b ps q => ?_⟩
  ·by_cases hb' : b = Pt
   ·exact ⟨_, by rw [hb']; exact P2⟩
   ·exact ⟨o, kpt b o hb' q⟩
  ·rw [upd_ne (fun z => by rw [z, hP] at q; cases q)]; exact q
  ·rw [upd_ne (fun z => by rw [z, hP] at q; cases q)]; exact q
  ·by_cases hb' : b = Pt
   ·rw [hb', hP] at q
    cases q
    exact ⟨#[rawInt lpos.line, rawInt lpos.col, .ref c'], by rw [hb', upd_same, htb2]⟩
   ·exact ⟨#[], by rw [upd_ne hb', q]; simp⟩
 have ok2 : HOk X.prog X.w (upd H1 Pt (.tbl tb2)) (h'.push lob) := fun b o q => by
  by_cases hb' : b = Pt
  ·subst hb'
   rw [upd_same] at q
   cases q
   exact P2
  ·rw [upd_ne hb'] at q
   refine (I1.hok b o q).stay (fun b' u' hc q' => kpt b' u' ?_ q') (fun b' q' => ?_) fun b' xs q' => ?_
   ·rcases hc with rfl | hc
    ·exact hb'
    ·intro z; rw [z, hP] at hc; cases hc
   ·rw [upd_ne (fun z => by rw [z, hP] at q'; cases q')]; exact q'
   ·rw [upd_ne (fun z => by rw [z, hP] at q'; cases q')]; exact q'
 have I2 : Inv X pins σ (upd H1 Pt (.tbl tb2)) { s1 with heap := h'.push lob, toks := tk } := I1.un (t' := tk) U ok2
 generalize hH2 : upd H1 Pt (.tbl tb2) = H2 at I2
 have get2 : ∀ b o, (h'.push lob).get? b = some o -> H2 b = none -> b ∉ frs X.stack -> (PySem.W.hideAll (h'.push lob) (trk (h'.push lob) H2 ++ frs X.stack)).get? b = some o := fun b o q n nf => PySem.W.hideAll_get _ q fun hm' => by
  rcases List.mem_append.mp hm' with z | z
  ·have z' : (H2 b).isSome = true := (List.mem_filter.mp z).2
   rw [n] at z'; cases z'
  ·exact nf z
 have of2 : ∀ b o, (PySem.W.hideAll (h'.push lob) (trk (h'.push lob) H2 ++ frs X.stack)).get? b = some o -> (h'.push lob).get? b = some o /\ H2 b = none := fun b o q => by
  have q' : (h'.push lob).get? b = some o := PySem.W.of_hideAll _ q
  refine ⟨q', ?_⟩
  cases z : H2 b with
  | none => rfl
  | some y =>
   have hm' : b ∈ trk (h'.push lob) H2 := List.mem_filter.mpr ⟨List.mem_range.mpr (Heap.lt_size q'), by simp [z]⟩
   rw [PySem.W.hideAll_none _ (List.mem_append_left _ hm')] at q
   cases q
 have nofr : ∀ b ∈ frs X.stack, (PySem.W.hideAll (h'.push lob) (trk (h'.push lob) H2 ++ frs X.stack)).get? b = none := fun b q => PySem.W.hideAll_none _ (List.mem_append_right _ q)
 have sz2 : (PySem.W.hideAll (h'.push lob) (trk (h'.push lob) H2 ++ frs X.stack)).objs.size = (h'.push lob).objs.size := PySem.W.hideAll_size _ _
 generalize PySem.W.hideAll (h'.push lob) (trk (h'.push lob) H2 ++ frs X.stack) = base2 at get2 of2 nofr sz2
 have kb : ∀ b o, X.base.get? b = some o -> base2.get? b = some o := fun b o q => get2 b o (I2.bs b o q).1 (I2.bs b o q).2 fun z => by
  have := (I2.stack.mem z).1
  rw [q] at this; cases this
 have mod2 : Mod X.K X.mg base2 := ⟨I2.ok.mod.kin.keeps kb, I2.ok.mod.glob.keeps kb, let ⟨mb, z1, z2⟩ := I2.ok.mod.blt; ⟨mb, z1.keeps kb, z2⟩, I2.ok.mod.nolimit.keeps kb⟩
 have en : Env0 X.prog X.w X.K X.mg base2 X.A X.stack { s1 with heap := h'.push lob, toks := tk } H2 :=
  ⟨I2.ok.frames, mod2, of2, Nat.le_of_eq sz2, funs_new I2.stack nofr, I2.stkFree, I2.hok, I2.bare⟩
 have newf : ∀ b o, s1.heap.objs.size ≤ b -> (h'.push lob).get? b = some o -> base2.get? b = some o := fun b o hs q => by
  have hn1 : H1 b = none := I1.hok.fresh hs
  refine get2 b o q ?_ fun z => ?_
  ·rw [<- hH2, upd_ne (nP b hn1)]; exact hn1
  ·rcases List.mem_cons.mp (I1.stkSub b z) with q' | q'
   ·exact absurd (Nat.lt_of_lt_of_le (q' ▸ I1.lt) hs) (Nat.lt_irrefl _)
   ·exact I1.nofs hs q'
 have hsz : s1.heap.objs.size ≤ h'.objs.size := Nat.le_trans hge (Nat.le_of_lt hlt)
 have LA : LamAt base2 h'.objs.size "<lambda>" (X.env.qual ++ "<lambda>") params body scope clos ((X.mg "__name__").getD .none) c' ctv := by
  refine ⟨by rw [hobe]; exact newf _ _ hsz (Heap.get?_push_size _ (by rw [<- hobe]; rfl)), ?_⟩
  obtain ⟨c2, oc, vs, t, e2, hoc, hd, hv⟩ := hrec
  cases e2
  exact ⟨c', oc, vs, t, rfl, newf _ _ hge (Heap.get?_push_of_some _ hoc), hd, hv⟩
 have cell2 : ∀ y d v', X.env.cells.lookup y = some d -> (h'.push lob).IsCell d v' -> base2.IsCell d v' := fun y d v' hd ⟨o, q1, q2⟩ => by
  refine ⟨o, get2 d o q1 (I2.freeC y d hd) fun z => ?_, q2⟩
  rcases List.mem_cons.mp (I2.stkSub d z) with q' | q'
  ·exact I2.cne y d hd q'
  ·obtain ⟨_, o', q3, _⟩ := I2.ok.funs.mem q'
   exact absurd (Nat.lt_of_lt_of_le (Heap.lt_size q3) (I2.ok.cab y d (hfn y) hd)) (Nat.lt_irrefl _)
 have hsp := hq base2 h'.objs.size c' ctv tb2 LA (fun y d hd => let ⟨v', z⟩ := I2.cell y d hd; ⟨v', cell2 y d v' hd z⟩) (fun i y v' q1 q2 q3 => by
  obtain ⟨m, hn, hl⟩ := I2.loc
  obtain ⟨u', ru, lk⟩ := hl i y v' q1 q2 (.inr (.inl q3))
  rcases lk with ⟨z, _⟩ | ⟨_, d, hd, z⟩
  ·have z' : X.env.scope.names.lookup y = some .local := z
   rw [q3] at z'; cases z'
  ·exact ⟨d, u', hd, cell2 y d _ hd z, ru⟩) I2.ok.inj
 rw [hH2] at hsp
 refine ⟨I2.kIn, ?_⟩
 have r2 : Vals [v, V.ref h'.objs.size] [u, Value.ref h'.objs.size] := .cons r1 (.cons rfl .nil)
 have hl : ([u, Value.ref h'.objs.size] : List Value).length = ps.length := by rw [<- r2.length]; exact (F base2).len _ _ _ _ hsp
 have hbd := hb { s1 with heap := h'.push lob, toks := tk } [u, Value.ref h'.objs.size] I2.kIn (by rw [List.append_nil]; exact hl)
 rw [List.append_nil] at hbd
 refine wpAny_call (codeAny_mono ((F base2).run X.A X.stack { s1 with heap := h'.push lob, toks := tk } H2 ⟨[u, Value.ref h'.objs.size], []⟩ [u, Value.ref h'.objs.size] [v, V.ref h'.objs.size] Q E hr en hbd r2 hsp) fun r s' hq' => ?_)
 cases r with
 | error e' => exact hx pins σ H2 _ e' s' I2 hq'
 | ok fl =>
  cases fl with
  | ret u' => exact I2.after hq'
  | next => exact False.elim hq'
  | brk => exact False.elim hq'
  | cont => exact False.elim hq'
end
end L2
end
section
set_option Elab.async false
set_option linter.all false
set_option maxRecDepth 100000
set_option maxHeartbeats 4000000
namespace L2
open PySem PySem.Spec PyProof.Rows
open PySem.W (WData Codec OpenSpec Well WellAll ReadsW ReadsAllW)
theorem spec_callL {P : Program} {w : World} {K : PySem.W.Frag} {mg mb : Str -> Option Value} {k : Nat} {fa c Pt : Addr} {fd : FuncData} {ps : List Str} {sp : Sp} {s₁ : Shared} {vals : List Value} {ds : List WData} {R : PySem.W.WRecords} {cl : Str -> Option Addr} {d0 : WData}
  (KX : K.In s₁.heap) (hns : s₁.heap.Ns mainGlobals mg) (hb : s₁.heap.Ns builtinsNs mb) (hbb : ∀ x : Str, x ≠ "__name__" -> mb x = bootBuiltins x) (hlim : s₁.heap.NoLimit) (hg : s₁.gens = #[])
  (hwl : WellAll w.params s₁.heap vals ds) (hpl : plWs ds = true) (hwt : ∀ d ∈ ds, d.weight ≤ 1048576) (hr : Room k callerA)
  (hC : PySem.W.CodeHd s₁.heap c Pt) (hP : s₁.heap.get? Pt = some (PySem.W.tabObj #[])) (hnt : PySem.W.noTabs K = true) (hPc : Pt ≠ cStatics)
  (hbm : ∃ bm ob, mg "__builtins__" = some (.ref bm) /\ bm ≠ builtinsNs /\ s₁.heap.get? bm = some ob /\ ob.cls = .type "module" /\ ob.dict = some builtinsNs /\ ob.data = .plain)
  (F : ∀ base : Heap, K.In base -> base.Ns mainGlobals mg -> LamBase mg c Pt base -> FnOk P w K mg base CX0 k fa fd ps sp) (hbind : ∀ (s : Shared) (us : List Value), us.length = ps.length -> BindsTo s fd ⟨us, []⟩ (ps.zip us)) (hlen : ds.length = ps.length)
  (hsp : ∀ (H H2 : Hp) (xs : List V), Same H H2 -> H2 Pt = some (.tbl #[]) -> DwAll K H xs ds -> sp xs H2 (fun v H' => Dw K H' v d0) fun _ _ _ => False) :
  codeAny (model P w) callerA (.call (.ref fa) ⟨vals, []⟩) (fun r s' => ∃ u as, r = .ok (.ret u) /\ ReadsW R cl s'.heap u d0 as /\ OldK s₁.heap s'.heap /\ s'.os = s₁.os /\ AllBare s'.gens) s₁ := by
 obtain ⟨A, ho, ar⟩ := area_all ds vals hwl hpl hwt
 have hO : OnlyF (argH K s₁.heap A) := argH_only ar
 have hok : HOk P w (argH K s₁.heap A) s₁.heap := argH_ok ar
 have hS := dw_all KX ar ds vals hwl hpl ho
 have hV := vals_toV ho
 have hK : ∀ b u, argH K s₁.heap A b = some u -> K.lookup b = none := fun b u q => (argH_is ar q).1
 have noA : ∀ {b : Addr} {o : Obj}, s₁.heap.get? b = some o -> (∀ its n, o.data ≠ .seq its n) -> argH K s₁.heap A b = none := fun {b o} e d => by
  cases q : argH K s₁.heap A b with
  | none => rfl
  | some u =>
   obtain ⟨_, vs, _, _, ⟨e2, _⟩ | ⟨e2, _⟩⟩ := argH_is ar q
   ·rw [e2] at e
    cases e
    exact absurd rfl (d _ _)
   ·rw [e2] at e
    cases e
    exact absurd rfl (d _ _)
 generalize argH K s₁.heap A = H at hO hok hS hK noA
 have nP : H Pt = none := noA hP (fun its n z => by cases z)
 have neP : ∀ {b : Addr} {o : Obj}, s₁.heap.get? b = some o -> o.cls ≠ .none -> b ≠ Pt := fun {b o} e hc z => by
  rw [z, hP] at e
  cases e
  exact hc rfl
 have s2 : Same H (upd H Pt (.tbl #[])) := fun b o e => by rw [upd_ne (ne_of_none e nP)]; exact e
 have hP2 : upd H Pt (.tbl #[]) Pt = some (.tbl #[]) := upd_same
 have back2 : ∀ b, b ≠ Pt -> upd H Pt (.tbl #[]) b = H b := fun b hb => upd_ne hb
 have hok2 : HOk P w (upd H Pt (.tbl #[])) s₁.heap := fun b o e => by
  by_cases hb' : b = Pt
  ·subst hb'
   rw [upd_same] at e
   cases e
   exact hP
  ·rw [upd_ne hb'] at e
   exact (hok b o e).stay (fun _ _ _ q => q) (fun b' q => s2 _ _ q) fun b' xs q => s2 _ _ q
 have hsp2 := hsp H (upd H Pt (.tbl #[])) (vals.map toV) s2 hP2 hS
 generalize upd H Pt (.tbl #[]) = H2 at s2 hP2 back2 hok2 hsp2
 have base_of : ∀ {b : Addr} {o : Obj}, s₁.heap.get? b = some o -> H2 b = none -> (hidT s₁.heap H2).get? b = some o := fun e n => hidT_get e n
 have free2 : ∀ {b : Addr} {o : Obj}, s₁.heap.get? b = some o -> (∀ its n, o.data ≠ .seq its n) -> b ≠ Pt -> H2 b = none := fun e d hb' => by rw [back2 _ hb']; exact noA e d
 have nsK : ∀ {b : Addr} {m : Str -> Option Value}, s₁.heap.Ns b m -> (hidT s₁.heap H2).Ns b m := fun {b m} ⟨o, es, ep, e, d, r⟩ => ⟨o, es, ep, base_of e (free2 e (fun its n z => by rw [d] at z; cases z) fun z => by rw [z, hP] at e; cases e; cases d), d, r⟩
 have nK : ∀ b o, K.lookup b = some o -> H2 b = none := fun b o e => by
  have hne : b ≠ Pt := fun z => by
   have e2 := KX b o e
   rw [z, hP] at e2
   have h2 := List.all_eq_true.mp hnt (b, o) (PySem.W.mem_of_lookupK e)
   cases e2
   exact absurd (show false = true from h2) Bool.false_ne_true
  rw [back2 b hne]
  cases q : H b with
  | none => rfl
  | some u =>
   rw [hK b u q] at e
   cases e
 have hKb : K.In (hidT s₁.heap H2) := fun b o e => base_of (KX b o e) (nK b o e)
 have hM : Mod K mg (hidT s₁.heap H2) := ⟨hKb, nsK hns, ⟨mb, nsK hb, hbb⟩, let ⟨mc, h1, h2⟩ := hlim; ⟨mc, nsK h1, h2⟩⟩
 have e0 : Env0 P w K mg (hidT s₁.heap H2) callerA [] s₁ H2 := ⟨rfl, hM, fun b o e => of_hidT e, Nat.le_of_eq (hidT_size _ _), trivial, fun b hb => absurd (show b ∈ ([] : List Addr) from hb) (by simp), hok2, .of_eq hg⟩
 have hl : vals.length = ps.length := by rw [wellAll_len hwl]; exact hlen
 have LB : LamBase mg c Pt (hidT s₁.heap H2) := by
  refine ⟨?_, ?_⟩
  ·obtain ⟨o, vs, file, tf, flags, tg, inF, text, tt, e1, r1, r2, r3⟩ := hC
   exact ⟨o, vs, file, tf, flags, tg, inF, text, tt, base_of e1 (free2 e1 (fun its n z => by rw [r2] at z; cases z) (neP e1 (by rw [r1]; intro z; cases z))), r1, r2, r3⟩
  ·obtain ⟨bm, ob, b1, b2, b3, b4, b5, b6⟩ := hbm
   exact ⟨bm, ob, b1, b2, base_of b3 (free2 b3 (fun its n z => by rw [b6] at z; cases z) (neP b3 (by rw [b4]; intro z; cases z))), b4, b5, b6⟩
 refine codeAny_mono ((F _ hKb (nsK hns) LB).run callerA [] s₁ H2 ⟨vals, []⟩ vals (vals.map toV) _ _ hr e0 (hbind s₁ vals hl) hV hsp2) fun r s' x => ?_
 cases r with
 | error e => exact False.elim x
 | ok fl =>
  cases fl with
  | next => exact False.elim x
  | brk => exact False.elim x
  | cont => exact False.elim x
  | ret u =>
   obtain ⟨v, H', os, bare, un, hok', r', q⟩ := x
   have kept : ∀ b o, b ≠ Pt -> s₁.heap.get? b = some o -> s'.heap.get? b = some o := fun b o hb' e => by
    cases q2 : H2 b with
    | none => exact un.keep b o e q2 (by intro z; exact absurd (show b ∈ ([] : List Addr) from z) (by simp)) (by simp)
    | some u2 =>
     rw [back2 b hb'] at q2
     rcases hO b with z | ⟨ob, u3, z⟩
     ·rw [q2] at z
      cases z
     ·have z2 := un.frzs b ob _ (s2 _ _ z)
      obtain ⟨e1, _⟩ := hok b _ z
      obtain ⟨e2, _⟩ := hok' b _ z2
      rw [e] at e1
      cases e1
      exact e2
   have KX' : K.In s'.heap := fun b o e => kept b o (fun z => by
    have := nK b o e
    rw [z, hP2] at this
    cases this) (KX b o e)
   obtain ⟨more, hm⟩ := un.tbls Pt #[] hP2
   have hP' : s'.heap.get? Pt = some (PySem.W.tabObj (#[] ++ more)) := hok' Pt _ hm
   have hC' : PySem.W.CodeHd s'.heap c Pt := by
    obtain ⟨o, vs, file, tf, flags, tg, inF, text, tt, e1, r1, r2, r3⟩ := hC
    exact ⟨o, vs, file, tf, flags, tg, inF, text, tt, kept _ _ (neP e1 (by rw [r1]; intro z; cases z)) e1, r1, r2, r3⟩
   obtain ⟨as, hrd⟩ := Dw.reads (R := R) (cl := cl) hok' KX' d0 v u q r'
   exact ⟨u, as, rfl, hrd, (OldK.refl _).step_table (hC.tab hP) (hC.tab hP) (hC'.tab hP') (fun b o hb' e => kept b o hb' e) hPc, os, bare⟩
theorem walk_specL {r : OpenSpec} {k : Nat} {q : Program} {loose : List Str} {XP : (Str -> Option Value) -> Heap -> Prop} {YP : World -> Heap -> Prop} {d d' : DefRec} {K : Params -> PySem.W.Frag} {ps : List Str} {c Pt : Addr} {sp : PySem.W.Frag -> Sp}
  (hwell : r.wellSaid = true) (hdf : d.params.defaults = []) (hlen : r.args.length = ps.length) (hr : Room k callerA) (hY : ∀ (w : World) (h : Heap), YP w h -> (K w.params).In h)
  (hrec : (recsOf q).find? (fun e => e.name == d.name) = some d') (ht : ∀ w : World, PySem.W.tabIn (K w.params) d.name = some (c, Pt)) (hnt : ∀ w : World, PySem.W.noTabs (K w.params) = true) (hPc : Pt ≠ cStatics)
  (F : ∀ (w : World) (mg : Str -> Option Value) (fa : Addr) (h : Heap), YP w h -> (K w.params).In h -> h.Ns mainGlobals mg -> mg d.name = some (.ref fa) ->
   ∃ fd : FuncData, (∀ (s : Shared) (us : List Value), us.length = ps.length -> BindsTo s fd ⟨us, []⟩ (ps.zip us)) /\
    ∀ base : Heap, (K w.params).In base -> base.Ns mainGlobals mg -> LamBase mg c Pt base -> FnOk r.prog w (K w.params) mg base CX0 k fa fd ps (sp (K w.params)))
  (hsp : ∀ (K : PySem.W.Frag) (H H2 : Hp) (xs : List V) (a : Codec.denoteAll r.args), Same H H2 -> H2 Pt = some (.tbl #[]) -> Codec.withinAll r.args a = true -> Codec.app r.args r.asked a = true -> DwAll K H xs (Codec.encAll r.args a) ->
   sp K xs H2 (fun v H' => Dw K H' v (r.ret.enc (Codec.app r.args r.f a))) fun _ _ _ => False) :
  PySem.W.WalkOS q loose XP YP r d [] (fun f vs => PySem.call f vs) := by
 intro w s_0 s₁ mg mb G Y fa o pm cd doc dV kV ho hd hcd hD hmg hg args vals as hpre hlay hrd hwl hlo
 obtain ⟨a, e1, e2⟩ := PySem.W.os_pre_some hpre
 obtain ⟨e3, hwi⟩ := Codec.encAll_of_decAll r.args args a e1
 subst e3
 have KX := hY w _ Y
 obtain ⟨fd, hb, hF⟩ := F w mg fa _ Y KX G.T.g hmg
 obtain ⟨hC, hP⟩ := PySem.W.tab_of G.T KX hrec (ht w)
 refine PySem.W.enter_call (codeAny_mono (spec_callL (R := []) (cl := classAt s_0.heap) (d0 := r.ret.enc (Codec.app r.args r.f a)) KX G.T.g G.T.b G.T.builtins G.T.nolimit hg hwl (pl_encAll _ _) (layable_weight hlay) hr hC hP (hnt w) hPc G.T.bmain hF hb (by rw [encAll_len]; exact hlen)
  (fun H H2 xs hO hP2 hS => hsp (K w.params) H H2 xs a hO hP2 hwi e2 hS)) fun r' s' hq => ?_)
 obtain ⟨u, as', rfl, h1, h2, h3, h4⟩ := hq
 exact ⟨.inl ⟨u, _, as', rfl, fun _ => rfl, h1, (OpenSpec.post_iff hwell hwi _ _).mpr rfl, fun z => Bool.noConfusion (show false = true from z)⟩, h2, h3, h4⟩
end L2
end
section
set_option Elab.async false
set_option linter.all false
set_option maxRecDepth 100000
set_option maxHeartbeats 4000000
namespace My
open PySem PySem.Spec PyProof.Rows L2 TL
abbrev S (w : T) : Str := ⟨w.toArray⟩
abbrev strV (w : T) : V := .str (S w)
theorem S_len (w : T) : (S w).length = w.length := by rw [len_tl, tl_mk]
theorem S_inj {a b : T} (h : S a = S b) : a = b := by
 have := congrArg tl h
 exact this
theorem ofS (s : String) : Str.ofString s = S (Kwc.text s) := ext_tl (by rw [tl_ofString, tl_mk]; rfl)
theorem strV_dec (a b : T) : decide (strV a = strV b) = decide (a = b) := by
 by_cases h : a = b
 ·subst h; simp
 ·have : ¬ strV a = strV b := fun q => h (S_inj (V.str.inj q))
  rw [decide_eq_false h, decide_eq_false this]
theorem starts_S (w p : T) : Txt.startswith (S w) (S p) = decide (w.take p.length = p) := by
 unfold Txt.startswith
 rw [PySem.StrLaws.subAt_eq, S_len, S_len]
 show (decide (0 + p.length ≤ w.length) && ((w.drop 0).take p.length == p)) = _
 rw [List.drop_zero]
 by_cases h : w.take p.length = p
 ·have hl : p.length ≤ w.length := by
   have := congrArg List.length h
   rw [List.length_take] at this
   omega
  rw [decide_eq_true h, decide_eq_true (by omega), h]
  simp
 ·rw [decide_eq_false h, beq_eq_false_iff_ne.mpr h, Bool.and_false]
theorem ends_S (w p : T) (hp : p.length ≤ w.length \/ True) : Txt.endswith (S w) (S p) = decide (p.length ≤ w.length /\ w.drop (w.length - p.length) = p) := by
 unfold Txt.endswith
 rw [PySem.StrLaws.subAt_eq, S_len, S_len]
 show (decide (0 + p.length ≤ w.length) && ((w.drop (w.length - p.length)).take p.length == p)) = _
 by_cases h : p.length ≤ w.length
 ·have e : (w.drop (w.length - p.length)).take p.length = w.drop (w.length - p.length) := List.take_of_length_le (by rw [List.length_drop]; omega)
  rw [e, decide_eq_true (show 0 + p.length ≤ w.length by omega), Bool.true_and]
  by_cases q : w.drop (w.length - p.length) = p
  ·rw [decide_eq_true ⟨h, q⟩, q]; simp
  ·rw [decide_eq_false (fun z => q z.2), beq_eq_false_iff_ne.mpr q]
 ·rw [decide_eq_false (show ¬ 0 + p.length ≤ w.length by omega), decide_eq_false (fun z => h z.1), Bool.false_and]
def cutT (w : T) (lo hi : Option Int) : T := (w.drop (HT.sIx w.length 0 lo)).take (HT.sIx w.length w.length hi - HT.sIx w.length 0 lo)
theorem cut_S (w : T) (lo hi : Option Int) : cutS (S w) lo hi = S (cutT w lo hi) := by
 refine ext_tl ?_
 rw [tl_mk]
 unfold cutS cutT
 rw [S_len]
structure Plain (w : T) : Prop where
 sg : ∀ c ∈ w, sign c = true
 ln : w.length ≤ 500
theorem sign_lt {c : Nat} (h : sign c = true) : c < 128 := by
 simp [sign, wsign, isD, Kwc.letter] at h
 omega
theorem Plain.drop {w : T} (p : Plain w) (n : Nat) : Plain (w.drop n) := ⟨fun c h => p.sg c (List.mem_of_mem_drop h), by rw [List.length_drop]; have := p.ln; omega⟩
theorem Plain.take {w : T} (p : Plain w) (n : Nat) : Plain (w.take n) := ⟨fun c h => p.sg c (List.mem_of_mem_take h), by rw [List.length_take]; have := p.ln; omega⟩
theorem digit_small : ∀ c, c < 128 -> Unicode.isDigit c = isD c := by decide +kernel
theorem isdigit_S {w : T} (p : Plain w) : Txt.isdigit (S w) = (!w.isEmpty && w.all isD) := by
 unfold Txt.isdigit
 rw [S_len]
 have h1 : (S w).cps.all Unicode.isDigit = w.all isD := by
  rw [<- Array.all_toList]
  show w.all Unicode.isDigit = w.all isD
  rw [Bool.eq_iff_iff, List.all_eq_true, List.all_eq_true]
  constructor
  ·intro h c hc
   rw [<- digit_small c (sign_lt (p.sg c hc))]; exact h c hc
  ·intro h c hc
   rw [digit_small c (sign_lt (p.sg c hc))]; exact h c hc
 rw [h1]
 cases w with
 | nil => rfl
 | cons a b => simp
theorem val_eq : ∀ (l : T) (a : Nat), l.foldl (fun acc c => acc * 10 + (c - 48)) a = l.foldl (fun n b => 10 * n + (b - 48)) a
 | [], _ => rfl
 | c :: l, a => by
  rw [List.foldl_cons, List.foldl_cons, val_eq l, Nat.mul_comm]
theorem int_S {w : T} (h : w.all isD = true) (hn : w ≠ []) (hl : w.length ≤ 500) : PySem.intText? (S w) = some ((val w : Nat) : Int) := by
 have e := PySem.intText_digits (x := S w) (fun c hc => by
  have := List.all_eq_true.mp h c hc
  simpa [isD] using this) hn (by rw [S_len]; omega)
 rw [e]
 show some (((PySem.NumText.digitsVal w : Nat)) : Int) = _
 unfold PySem.NumText.digitsVal val
 rw [val_eq]
theorem spl_spl (c : Nat) : ∀ (l acc : T), TL.spl [c] 0 acc l = My.spl c acc.reverse l
 | [], acc => by rw [TL.spl_nil]; simp [My.spl]
 | b :: l, acc => by
  unfold My.spl
  by_cases h : b = c
  ·subst h
   rw [if_pos rfl, TL.spl_hit (by simp [TL.pre]), List.reverse_reverse]
   show _ :: TL.spl [b] 0 [] l = _
   rw [spl_spl b l []]
   rfl
  ·rw [if_neg h, TL.spl_miss (TL.pre_of_head [] l h), spl_spl c l (acc ++ [b])]
   simp
theorem split_S (w : T) (c : Nat) (hc : c < 256) : Txt.split (S w) (S [c]) = (My.spl c [] w).map S := by
 have h := TL.split_spl (S w) (S [c]) (by simp [TL.tl]) (TL.kind_ok (by simp [hc]))
 have e : TL.spl [c] 0 [] w = My.spl c [] w := spl_spl c w []
 refine TL.map_tl_inj ?_
 rw [h]
 show TL.spl [c] 0 [] w = _
 rw [e, List.map_map]
 have : (TL.tl ∘ S) = (id : T -> T) := rfl
 rw [this, List.map_id]
structure Known (P : Program) (w : World) (K : PySem.W.Frag) (mg : Str -> Option Value) (base : Heap) (CX : CXT) (k : Nat) (x : Str) (ps : List Str) (sp : Sp) : Prop where
 ex : ∃ (f : Addr) (fd : FuncData), mg x = some (.ref f) /\ PySem.W.keepIn K (.ref f) = true /\ Binds K fd ps [] /\ FnOk P w K mg base CX k f fd ps sp
structure TopFn (K : PySem.W.Frag) (mg : Str -> Option Value) (x : Str) (st : Stmt) : Prop where
 ex : ∃ (f : Addr) (fd : FuncData), mg x = some (.ref f) /\ Fun K x x st f fd
section
variable {X : Cx} {CX : CXT} {E : XK} {x : Str} {p pos : Pos} {e : Expr} {es : List Expr} {t : TA} {k : Nat} {ps : List Str} {sp : Sp}
theorem pe_kn (N : Known X.prog X.w X.K X.mg X.base CX k x ps sp) (hr : Room k X.A) (hg : Gl X x) (hx : Passes CX X E) (ha : PA X (e :: es) t) (hdb : (x == ("__debug__" : Str)) = false := by decide)
  (he : starEach (e :: es) X.env = (false, eval e X.env) :: starEach es X.env := by rfl) (hpl : (backTo pos (starEach es X.env)).any (·.1) = false := by rfl) : PE X (.Call (.Name x p) (e :: es) [] pos) (tCall sp [] E t) := by
 obtain ⟨f, fd, m, kp, b, G⟩ := N.ex
 exact pe_call G hr hg m kp b .nil hx ha hdb he hpl
end
section
variable {P : Program} {w : World} {K : PySem.W.Frag} {mg : Str -> Option Value} {base : Heap}
theorem known_of {CX : CXT} {x : Str} {st : Stmt} {ps : List Str} {k : Nat} {sp : Sp} (N : TopFn K mg x st)
  (hb : ∀ (kV doc pm : Value) (an : Option Addr) (cdv ct : Value) (us : List Value), us.length = ps.length -> bindArgs (PySem.W.fnOf x x (defArgs st) (defBody st) (defScope st) .none kV doc pm an cdv ct) ⟨us, []⟩ = pure (ps.zip us))
  (h : ∀ f fd, Fun K x x st f fd -> FnOk P w K mg base CX k f fd ps sp) : Known P w K mg base CX k x ps sp := by
 obtain ⟨f, fd, m, F⟩ := N.ex
 exact ⟨f, fd, m, F.kp, F.binds hb, h f fd F⟩
end
inductive RV where
 | non
 | i (n : Int)
 | b (c : Bool)
 | l (ns : List Int)
def RetR (H : Hp) (Q : VK) : RV -> Prop
 | .non => ∀ H', Same H H' -> Q .non H'
 | .i n => ∀ H', Same H H' -> Q (.int n) H'
 | .b c => ∀ H', Same H H' -> Q (.bl c) H'
 | .l ns => ∀ H' p, Same H H' -> H p = none -> H' p = some (.lst (ns.map V.int)) -> Q (.ref p) H'
def optI : Option Nat -> RV
 | none => .non
 | some n => .i n
def optZ : Option Int -> RV
 | none => .non
 | some n => .i n
def optL : Option (List Int) -> RV
 | none => .non
 | some l => .l l
theorem RetR.mono {H H1 : Hp} {Q : VK} {r : RV} (h : RetR H Q r) (s : Same H H1) : RetR H1 Q r := by
 cases r with
 | non => exact fun H' s' => h H' (s.trans s')
 | i n => exact fun H' s' => h H' (s.trans s')
 | b c => exact fun H' s' => h H' (s.trans s')
 | l ns => exact fun H' p s' hn hp => h H' p (s.trans s') (s.free hn) hp
theorem same_new {H H1 : Hp} {p : Addr} {o : HO} (s : Same H H1) (hp : H1 p = none) : Same H (upd H1 p o) := fun b u e => by
 rw [upd_ne (ne_of_none (s b u e) hp)]
 exact s b u e
def sp1 (f : T -> RV) : Sp := fun vs H Q _ => ∃ w, vs = [strV w] /\ Plain w /\ RetR H Q (f w)
def top (i : Nat) : Stmt := PySem.Challenge.pw_weathercode_s04_first.main.body.getD i (.Pass ⟨0, 0, 0, 0⟩)
end My
end
section
set_option Elab.async false
set_option linter.all false
set_option maxRecDepth 100000
set_option maxHeartbeats 4000000
namespace My
open PySem PySem.Spec PyProof.Rows L2 TL
theorem small500 {n : Nat} (h : n ≤ 500) : n ≤ sizeLine := Nat.le_trans h (by decide)
theorem Plain.size {w : T} (p : Plain w) : (S w).length ≤ sizeLine := by rw [S_len]; exact small500 p.ln
theorem dec_intV (a b : Int) : decide (V.int a = V.int b) = decide (a = b) := by
 by_cases h : a = b
 ·subst h; simp
 ·rw [decide_eq_false h, decide_eq_false fun q => h (V.int.inj q)]
theorem bt_all : bootBuiltins "all" = some (.builtin "all") := by decide +kernel
theorem bt_ord : bootBuiltins "ord" = some (.builtin "ord") := by decide +kernel
theorem bt_int : bootBuiltins "int" = some (.type "int") := by decide +kernel
theorem bt_any : bootBuiltins "any" = some (.builtin "any") := by decide +kernel
theorem bt_set : bootBuiltins "set" = some (.type "set") := by decide +kernel
theorem bt_dict : bootBuiltins "dict" = some (.type "dict") := by decide +kernel
structure Bt (mg : Str -> Option Value) : Prop where
 len : mg "len" = none
 all : mg "all" = none
 ord : mg "ord" = none
 dict : mg "dict" = none
 int : mg "int" = none
 set : mg "set" = none
 range : mg "range" = none
 min : mg "min" = none
 any : mg "any" = none
def GV (mg : Str -> Option Value) (x : Str) (v : V) : Prop := ∃ u, mg x = some u /\ RelV v u
theorem pe_gv {X : Cx} {x : Str} {v : V} {pos : Pos} (g : GV X.mg x v) (hg : Gl X x) (hd : (x == ("__debug__" : Str)) = false := by decide) : PE X (.Name x pos) (tC v) := by
 obtain ⟨u, hm, r⟩ := g
 exact pe_glob hg hm r hd
theorem iteB {c : Bool} {A B : Prop} (h1 : c = true -> A) (h2 : c = false -> B) : if c = true then A else B := by
 cases c with
 | true => exact iteT (h1 rfl)
 | false => exact iteF (h2 rfl)
theorem nt {b : Bool} (h : (!b) = true) : b = false := by cases b <;> first | rfl | cases h
theorem nf {b : Bool} (h : (!b) = false) : b = true := by cases b <;> first | rfl | cases h
theorem text_plain (s : String) (h : (Kwc.text s).all sign = true := by decide) (hl : (Kwc.text s).length ≤ 500 := by decide) : Plain (Kwc.text s) := ⟨List.all_eq_true.mp h, hl⟩
abbrev zs (l : List Nat) : List Int := l.map fun (n : Nat) => (n : Int)
def spNW : Sp := fun vs H Q _ => ∃ (p : T) (k lo hi : Nat), vs = [strV p, .int k, .int lo, .int hi] /\ Plain p /\ 0 < k /\ RetR H Q (optI (nw p k lo hi))
def rStation (w : T) : RV := optL ((stationOf w).map zs)
def rClock (w : T) : RV := optL ((clockOf w).map fun c => [(c.1 : Int), (c.2 : Int)])
def rMoment (w : T) : RV := optL ((momentOf w).map fun c => [(c.1 : Int), (c.2.1 : Int), (c.2.2 : Int)])
def spMM : Sp := fun vs H Q _ => ∃ (w m : T), vs = [strV w, strV m] /\ Plain w /\ Plain m /\ RetR H Q (optI (markedMinutes w m))
def rFrom (w : T) : RV := optI (markedMinutes w (Kwc.text "FM"))
def rTill (w : T) : RV := optI (markedMinutes w (Kwc.text "TL"))
def spMF : Sp := fun vs H Q _ => ∃ n : Nat, vs = [.int n] /\ RetR H Q (.b (metresFit n))
def rSight (w : T) : RV := optI (sightOf w)
def rDegree (w : T) : RV := optZ (degreeOf w)
def rDegrees (w : T) : RV := optL ((degreesOf w).map fun p => [p.1, p.2])
def rPress (w : T) : RV := optI (pressureOf w)
def rPlain (w : T) : RV := optL ((plainSkyOf w).map Kwc.skyNumbers)
abbrev cloudN (c : Kwc.Cloud) : List Int := [(c.amount : Int), (c.height : Int), (c.kind : Int)]
def rLayer (w : T) : RV := optL ((layerOf w).map cloudN)
def rDir (w : T) : RV := optI (directionOf w)
def rWdeg (w : T) : RV := optI (windDegrees w)
def rGust (w : T) : RV := optI (gustsOf w)
def spWF : Sp := fun vs H Q _ => ∃ d s g : Nat, vs = [.int d, .int s, .int g] /\ RetR H Q (.b (windFits d s g))
abbrev windN (x : Kwc.Wind) : List Int := [(x.dir : Int), (x.speed : Int), (x.gust : Int)]
def rWind (w : T) : RV := optL ((windOf w).map windN)
def rSector (w : T) : RV := optL ((sectorOf w).map fun p => [(p.1 : Int), (p.2 : Int)])
def rManner (w : T) : RV := optI (changeMannerOf w)
abbrev optV : Option Nat -> V
 | none => .non
 | some n => .int n
structure Kinds (K : PySem.W.Frag) (H : Hp) (p : Addr) (ks : List T) : Prop where
 sq : SqL K H p (ks.map strV)
 pl : ∀ k ∈ ks, Plain k
 ln : ks.length ≤ 500
def spAllRain (K : PySem.W.Frag) : Sp := fun vs H Q _ => ∃ p ks, vs = [.ref p] /\ Kinds K H p ks /\ RetR H Q (.b (allRain ks))
def spKindsFit (K : PySem.W.Frag) : Sp := fun vs H Q _ => ∃ p ks, vs = [.ref p] /\ Kinds K H p ks /\ RetR H Q (.b (kindsFit ks))
def spStrFits (K : PySem.W.Frag) : Sp := fun vs H Q _ => ∃ (s : Nat) (p : Addr) (ks : List T), vs = [.int s, .ref p] /\ Kinds K H p ks /\ RetR H Q (.b (strengthFits s ks))
def spMannerFits (K : PySem.W.Frag) : Sp := fun vs H Q _ => ∃ (m : T) (p : Addr) (ks : List T), vs = [strV m, .ref p] /\ Plain m /\ Kinds K H p ks /\ RetR H Q (.b (mannerFits m ks))
def spWxFits (K : PySem.W.Frag) : Sp := fun vs H Q _ => ∃ (s : Nat) (m : T) (p : Addr) (ks : List T), vs = [.int s, strV m, .ref p] /\ Plain m /\ Kinds K H p ks /\ RetR H Q (.b (wxFits s m ks))
def rStrength (w : T) : RV := .i (strengthOf w)
abbrev wxN (x : Kwc.Wx) : List Int := (x.strength : Int) :: (x.desc : Int) :: (x.kinds.length : Int) :: x.kinds.map fun (k : Nat) => (k : Int)
def spWxNum (K : PySem.W.Frag) : Sp := fun vs H Q _ => ∃ (s : Nat) (m : T) (p : Addr) (ks : List T), vs = [.int s, strV m, .ref p] /\ (m = [] \/ m ∈ MANN) /\ Kinds K H p ks /\ (∀ k ∈ ks, k ∈ KN) /\
 RetR H Q (.l (wxN ⟨s, if m = [] then 0 else ix MANN m, ks.map (ix KN)⟩))
def rWx (w : T) : RV := optL ((weatherOf w).map wxN)
def rChWx (w : T) : RV := optL ((changedWx w).map Kwc.wxNumbers)
def cuF (wl : Addr) (k : Int) : List (Str × V) := putF "place" (.int k) (putF "words" (.ref wl) [])
structure CurAt (C : Addr) (H : Hp) (p : Addr) (l : List T) : Prop where
 ex : ∃ (dx wl : Addr) (ws : List T) (k : Nat), H p = some (.ins C dx (cuF wl k)) /\ H wl = some (.lst (ws.map strV)) /\ l = ws.drop k /\ (∀ w ∈ ws, Plain w) /\ (ws.length ≤ 500 /\ ws ≠ [])
def But (p : Addr) (H H' : Hp) : Prop := ∀ b o, H b = some o -> b ≠ p -> H' b = some o
theorem But.of {p : Addr} {H H' : Hp} (s : Same H H') : But p H H' := fun b o e _ => s b o e
theorem But.trans {p : Addr} {H H1 H2 : Hp} (a : But p H H1) (b : But p H1 H2) : But p H H2 := fun c o e n => b c o (a c o e n) n
theorem CurAt.same {C : Addr} {H H' : Hp} {p : Addr} {l : List T} (c : CurAt C H p l) (s : Same H H') : CurAt C H' p l := by
 obtain ⟨dx, wl, ws, k, h1, h2, h3⟩ := c.ex
 exact ⟨dx, wl, ws, k, s _ _ h1, s _ _ h2, h3⟩
theorem CurAt.new {C : Addr} {H H' : Hp} {p q : Addr} {l : List T} (c : CurAt C H p l) (h : H q = none) : q ≠ p := fun e => by
 obtain ⟨dx, wl, ws, k, h1, _⟩ := c.ex
 rw [e, h1] at h; cases h
theorem CurAt.ne {C : Addr} {H : Hp} {p q : Addr} {l : List T} {xs : List V} (c : CurAt C H p l) (h : H q = some (.lst xs)) : q ≠ p := fun e => by
 obtain ⟨dx, wl, ws, k, h1, _⟩ := c.ex
 rw [e, h1] at h; cases h
def ValIs (H H' : Hp) : RV -> V -> Prop
 | .non, v => v = .non
 | .i n, v => v = .int n
 | .b c, v => v = .bl c
 | .l ns, v => ∃ q, v = .ref q /\ H q = none /\ H' q = some (.lst (ns.map V.int))
structure RdOk (P : Program) (w : World) (K : PySem.W.Frag) (mg : Str -> Option Value) (base : Heap) (f : Addr) (g : T -> RV) : Prop where
 kp : PySem.W.keepIn K (.ref f) = true
 ok : ∃ (k : Nat) (fd : FuncData) (ps : List Str), FnOk P w K mg base CX0 k f fd ps (sp1 g) /\ k ≤ 9 /\ Binds K fd ps []
def spCuInit (C : Addr) : Sp := fun vs H Q _ => ∃ (p dx wl : Addr) (ws : List T), vs = [.ref p, .ref wl] /\ H p = some (.ins C dx []) /\ H wl = some (.lst (ws.map strV)) /\ (∀ w ∈ ws, Plain w) /\ (ws.length ≤ 500 /\ ws ≠ []) /\
 ∀ H', But p H H' -> CurAt C H' p ws -> Q .non H'
def spAtEnd (C : Addr) : Sp := fun vs H Q _ => ∃ p l, vs = [.ref p] /\ CurAt C H p l /\ Q (.bl l.isEmpty) H
def spWord (C : Addr) : Sp := fun vs H Q _ => ∃ p l, vs = [.ref p] /\ CurAt C H p l /\ Q (strV (l.headD [])) H
def spAdvance (C : Addr) : Sp := fun vs H Q _ => ∃ p l, vs = [.ref p] /\ CurAt C H p l /\ ∀ H', But p H H' -> CurAt C H' p l.tail -> Q .non H'
def spOptional (P : Program) (w : World) (K : PySem.W.Frag) (mg : Str -> Option Value) (base : Heap) (C : Addr) : Sp := fun vs H Q _ => ∃ p l f g, vs = [.ref p, .ref f] /\ CurAt C H p l /\ RdOk P w K mg base f g /\
 (g (l.headD []) = .non -> ∀ H', Same H H' -> Q .non H') /\ (g (l.headD []) ≠ .non -> ∀ H' v, But p H H' -> CurAt C H' p l.tail -> ValIs H H' (g (l.headD [])) v -> v ≠ .non -> Q v H')
def spRequired (P : Program) (w : World) (K : PySem.W.Frag) (mg : Str -> Option Value) (base : Heap) (C XC : Addr) : Sp := fun vs H Q E => ∃ p l f g, vs = [.ref p, .ref f] /\ CurAt C H p l /\ RdOk P w K mg base f g /\
 (g (l.headD []) = .non -> ∀ H', E (.ref XC) none H') /\ (g (l.headD []) ≠ .non -> ∀ H' v, But p H H' -> CurAt C H' p l.tail -> ValIs H H' (g (l.headD [])) v -> Q v H')
def spDemanded (XC : Addr) : Sp := fun vs H Q E => ∃ v, vs = [v] /\ (v = .non -> ∀ H', E (.ref XC) none H') /\ (v ≠ .non -> Q v H)
def spTake (C XC : Addr) (f : List T -> Option (List Int × List T)) : Sp := fun vs H Q E => ∃ p l, vs = [.ref p] /\ CurAt C H p l /\ (f l = none -> ∀ H', E (.ref XC) none H') /\
 (∀ ns r, f l = some (ns, r) -> ∀ H' q, But p H H' -> CurAt C H' p r -> H q = none -> H' q = some (.lst (ns.map V.int)) -> Q (.ref q) H')
def tWindF (l : List T) : Option (List Int × List T) := match takeWind l with
 | none => none
 | some (w, r) => some ([(w.dir : Int), (w.speed : Int), (w.gust : Int), (w.from_ : Int), (w.to : Int)], r)
def tWxF (l : List T) : Option (List Int × List T) := some (Kwc.wxNumbers (upto weatherOf 3 l).1, (upto weatherOf 3 l).2)
def tSkyF (l : List T) : Option (List Int) × List T := ((takeSky l).1.map Kwc.skyNumbers, (takeSky l).2)
structure LaysAt (H : Hp) (p : Addr) (as : List Addr) (cs : List Kwc.Cloud) : Prop where
 lst : H p = some (.lst (as.map V.ref))
 len : as.length = cs.length
 at_ : ∀ (j : Nat) (a : Addr) (c : Kwc.Cloud), as[j]? = some a -> cs[j]? = some c -> H a = some (.lst ((cloudN c).map V.int))
def spFollows : Sp := fun vs H Q _ => ∃ p q as cs c, vs = [.ref p, .ref q] /\ LaysAt H p as cs /\ cs.length ≤ 4 /\ H q = some (.lst ((cloudN c).map V.int)) /\ Q (.bl (follows cs c)) H
def spLayers (C : Addr) : Sp := fun vs H Q _ => ∃ p l, vs = [.ref p] /\ CurAt C H p l /\ ∀ H' q as, But p H H' -> CurAt C H' p (layersFrom [] l).2 -> H q = none -> LaysAt H' q as (layersFrom [] l).1 -> Q (.ref q) H'
def spText (XC : Addr) (K : PySem.W.Frag) : Sp := fun vs H Q E => ∃ (a : Addr) (t : T), vs = [.ref a] /\ SqL K H a ((zs t).map V.int) /\ t.length ≤ 400 /\ (t.all sign = false -> ∀ H', E (.ref XC) none H') /\
 (t.all sign = true -> ∀ H', Same H H' -> Q (strV t) H')
def spWords (XC : Addr) (K : PySem.W.Frag) : Sp := fun vs H Q E => ∃ (a : Addr) (t : T), vs = [.ref a] /\ SqL K H a ((zs t).map V.int) /\ t.length ≤ 400 /\ (¬ (t.all sign = true /\ t.getLast? = some 61) -> ∀ H', E (.ref XC) none H') /\
 (t.all sign = true /\ t.getLast? = some 61 -> ∀ H' q, Same H H' -> H q = none -> H' q = some (.lst ((Kwc.split [] t.dropLast).map strV)) -> Q (.ref q) H')
def TG (K : PySem.W.Frag) (mg : Str -> Option Value) (x : Str) (ws : List T) : Prop := ∃ a, mg x = some (.ref a) /\ ∃ (o : Obj) (its : Array Value) (n : Nat), K.lookup a = some o /\ o.cls = .type "tuple" /\ o.dict = none /\ o.data = .seq its n /\ its.size ≤ sizeLine /\ Vals (ws.map strV) its.toList
theorem TG.get {K : PySem.W.Frag} {mg : Str -> Option Value} {x : Str} {ws : List T} (g : TG K mg x ws) : ∃ a, GV mg x (.ref a) /\ (∀ H, SqT K H a (ws.map strV)) /\ ∃ o, K.lookup a = some o /\ o.cls = .type "tuple" /\ o.dict = none := by
 obtain ⟨a, m, o, its, n, h1, h2, h3, h4, h5, h6⟩ := g
 exact ⟨a, ⟨_, m, rfl⟩, fun H => .inr ⟨o, its, n, h1, h2, h4, h5, h6⟩, o, h1, h2, h3⟩
end My
end
section
set_option Elab.async false
set_option linter.all false
set_option maxRecDepth 100000
set_option maxHeartbeats 4000000
namespace My
open PySem PySem.Spec PyProof.Rows L2 TL
section
variable {P : Program} {w : World} {K : PySem.W.Frag} {mg : Str -> Option Value} {base : Heap}
abbrev st_number_within : Stmt := top 6
theorem sc_number_within : FnScope ["part", "size", "lowest", "highest", "number"] ["part", "size", "lowest", "highest"] (defScope st_number_within) := ⟨rfl, rfl, rfl, by decide +kernel, rfl, by decide +kernel, by decide +kernel⟩
theorem nw_none_dig {p : T} {k lo hi : Nat} (h : (!p.isEmpty && p.all isD) = false) : nw p k lo hi = none := by
 unfold nw Kwc.whole
 by_cases e : p.length = k
 ·rw [if_pos e, number_eq]
  have : (p.isEmpty || !(p.all isD)) = true := by
   cases a : p.isEmpty <;> cases b : p.all isD <;> rw [a, b] at h <;> first | rfl | cases h
  rw [if_pos this]
 ·rw [if_neg e]
theorem nw_dig {p : T} {k lo hi : Nat} (e : p.length = k) (h : (!p.isEmpty && p.all isD) = true) : nw p k lo hi = if lo ≤ val p /\ val p ≤ hi then some (val p) else none := by
 unfold nw Kwc.whole
 have h2 : (p.isEmpty || !(p.all isD)) = false := by
  cases a : p.isEmpty <;> cases b : p.all isD <;> rw [a, b] at h <;> first | rfl | cases h
 rw [if_pos e, number_eq, h2]
 simp only [Bool.false_eq_true, if_false]
theorem kn_nw (N : TopFn K mg "number_within" st_number_within) (B : Bt mg) : Known P w K mg base CX0 1 "number_within" ["part", "size", "lowest", "highest"] spNW := by
 refine known_of N (fun _ _ _ _ _ _ us hl => match us, hl with | [_, _, _, _], _ => rfl) fun f fd Fu => ?_
 refine Fu.ok sc_number_within (fun vs H Q E h => ?_) (fun cdv A outer s H vs Q E hr h => ?_)
 ·obtain ⟨p, k, lo, hi, rfl, _⟩ := h
  rfl
 ·obtain ⟨p, k, lo, hi, rfl, hp, hk, ret⟩ := h
  refine ⟨_, (pss_cons (ps_if (PW.pt (pw_or (pt_cmpR op_ne (pe_callB call_len_str (by rfl) B.len PySem.boot_len (pa_cons (pv 0) pa_nil)) (pv 1) (nomark _)) (pw_or1 (pt_not (pt_val (pe_m0 PySem.F.slot_str_isdigit PySem.F.type_str_isdigit mt_isdigit (pv 0)))))))
   (pss_one (ps_ret pe_non))
   pss_nil)
   (pss_cons (ps_set (i := 4) sc_number_within.nd rfl (by first | exact Or.inl rfl | exact Or.inr rfl) (pe_callTy call_int_str (by rfl) B.int bt_int (pa_cons (pv 0) pa_nil)))
   (pss_one (ps_ret (pe_ifExp (pt_chain op_le op_le (pv 2) (pv 4) (pv 3)) (pv 4) pe_non))))), ?_⟩
  refine ⟨_, rfl, _, rfl, hp.size, _, rfl, rfl, _, rfl, ?_⟩
  rw [dec_intV, S_len]
  refine iteB (fun e => ?_) (fun e => ?_)
  ·refine iteT ?_
   have hne : p.length ≠ k := by simp at e; omega
   have : nw p k lo hi = none := by unfold nw Kwc.whole; rw [if_neg hne]
   rw [this] at ret
   exact ret H (Same.refl H)
  ·have he : p.length = k := by simp at e; omega
   refine ⟨_, rfl, ⟨_, rfl⟩, _, rfl, rfl, trivial, _, rfl, ?_⟩
   rw [isdigit_S hp]
   refine iteB (fun e2 => ?_) (fun e2 => ?_)
   ·have : nw p k lo hi = none := nw_none_dig (nt e2)
    rw [this] at ret
    exact ret H (Same.refl H)
   ·have hd : (!p.isEmpty && p.all isD) = true := nf e2
    have ha : p.all isD = true := by rw [Bool.and_eq_true] at hd; exact hd.2
    have hn : p ≠ [] := fun q => by rw [q] at hd; cases hd
    rw [nw_dig he hd] at ret
    refine ⟨_, rfl, _, _, rfl, int_S ha hn hp.ln, by rw [S_len]; have := hp.ln; omega, ?_⟩
    refine ⟨_, rfl, _, rfl, _, _, rfl, rfl, _, rfl, ?_⟩
    refine iteB (fun e3 => ?_) (fun e3 => ?_)
    ·refine ⟨_, rfl, _, _, rfl, rfl, _, rfl, ?_⟩
     refine iteB (fun e4 => ?_) (fun e4 => ?_)
     ·rw [if_pos ⟨by simp at e3; omega, by simp at e4; omega⟩] at ret
      exact ⟨_, rfl, ret H (Same.refl H)⟩
     ·rw [if_neg (by simp at e4; omega)] at ret
      exact ret H (Same.refl H)
    ·rw [if_neg (by simp at e3; omega)] at ret
     exact ⟨_, rfl, ret H (Same.refl H)⟩
end
end My
end
section
set_option Elab.async false
set_option linter.all false
set_option maxRecDepth 100000
set_option maxHeartbeats 4000000
namespace My
open PySem PySem.Spec PyProof.Rows L2 TL
theorem wipe1 (σ : L2.St) (j : Nat) (v : Option V) : wipe ((wipe σ [j]).set j v) [j] = wipe σ [j] := by
 show ((σ.set j none).set j v).set j none = σ.set j none
 rw [List.set_set, List.set_set]
def LcR (J : It) (j : Nat) (te : TE) (σ : L2.St) (H1 : Hp) (D : Addr) (Q : VK) : Prop :=
  ∃ W : Nat -> Nat -> Hp -> Prop, (∃ m, W 0 m (upd H1 D (.lst []))) /\ ∀ i m H, W i m H ->
   (J.stop i H /\ Q (.ref D) H) \/ (J.go i H /\ ∃ Nx : Hp -> Prop, (∀ H', Nx H' -> ∃ m', m' < m /\ W (i + 1) m' H') /\ ∀ x H', J.yld i H x H' -> gName j x (wipe σ [j]) H' fun σ2 H2 => wipe σ2 [j] = wipe σ [j] /\ tYes σ2 H2 fun b H3 =>
    if b = true then te σ2 H3 fun y H4 => ∃ acc, H4 D = some (.lst acc) /\ acc.length < sizeLine /\ Nx (upd H4 D (.lst (acc ++ [y]))) else Nx H3)
theorem lc_gen {J : It} {n j : Nat} {src : Nat -> V} {te : TE} {σ : L2.St} {H1 : Hp} {D : Addr} {Q : VK} (R : Nat -> List V -> Hp -> Prop) (hgo : ∀ i H, i < n -> Same H1 H -> J.go i H) (hst : ∀ i H, n ≤ i -> Same H1 H -> J.stop i H) (hy : ∀ i H x H', i < n -> Same H1 H -> J.yld i H x H' -> H' = H /\ x = src i)
  (hD : H1 D = none) (hn : n < sizeLine) (h0 : R 0 [] (upd H1 D (.lst []))) (hl : ∀ i acc H, R i acc H -> acc.length = i)
  (elem : ∀ i acc H' (k : VK), i < n -> Same H1 H' -> H' D = some (.lst acc) -> R i acc H' -> (∀ y H4, Same H' H4 -> R (i + 1) (acc ++ [y]) (upd H4 D (.lst (acc ++ [y]))) -> k y H4) -> te ((wipe σ [j]).set j (some (src i))) H' k)
  (fin : ∀ H acc, Same H1 H -> H D = some (.lst acc) -> R n acc H -> Q (.ref D) H) : LcR J j te σ H1 D Q := by
 refine ⟨fun i m H => ∃ acc, i ≤ n /\ m = n - i /\ Same H1 H /\ H D = some (.lst acc) /\ R i acc H, ⟨n, [], Nat.zero_le _, rfl, fun b o e => by rw [upd_ne (ne_of_none e hD)]; exact e, upd_same, h0⟩, fun i m H ⟨acc, hi, hm, hs, hd, hR⟩ => ?_⟩
 by_cases he : i = n
 ·left
  subst he
  exact ⟨hst _ _ (Nat.le_refl _) hs, fin H acc hs hd hR⟩
 ·right
  have hlt : i < n := by omega
  refine ⟨hgo i H hlt hs, fun H' => ∃ acc, Same H1 H' /\ H' D = some (.lst acc) /\ R (i + 1) acc H', fun H' ⟨acc', q1, q2, q3⟩ => ⟨n - (i + 1), by omega, acc', by omega, rfl, q1, q2, q3⟩, fun x H' hx => ?_⟩
  obtain ⟨rfl, rfl⟩ := hy i H x H' hlt hs hx
  refine ⟨wipe1 σ j _, ?_⟩
  refine elem i acc H' _ hlt hs hd hR fun y H4 s4 r4 => ⟨acc, s4 _ _ hd, by rw [hl i acc _ hR]; omega, acc ++ [y], fun b o e => ?_, upd_same, r4⟩
  rw [upd_ne (ne_of_none e hD)]
  exact s4 _ _ (hs b o e)
theorem lc_read {J : It} {n j : Nat} {src val : Nat -> V} {te : TE} {σ : L2.St} {H1 : Hp} {D : Addr} {Q : VK} (hgo : ∀ i H, i < n -> Same H1 H -> J.go i H) (hst : ∀ i H, n ≤ i -> Same H1 H -> J.stop i H) (hy : ∀ i H x H', i < n -> Same H1 H -> J.yld i H x H' -> H' = H /\ x = src i)
  (hD : H1 D = none) (hn : n < sizeLine) (elem : ∀ i H' (k : VK), i < n -> Same H1 H' -> (∀ H4, Same H' H4 -> k (val i) H4) -> te ((wipe σ [j]).set j (some (src i))) H' k)
  (fin : ∀ H, Same H1 H -> H D = some (.lst ((List.range n).map val)) -> Q (.ref D) H) : LcR J j te σ H1 D Q := by
 refine lc_gen (fun i acc _ => acc = (List.range i).map val) hgo hst hy hD hn rfl (fun i acc H e => by rw [e]; simp) (fun i acc H' k hi hs hd hR hk => ?_) fun H acc hs hd hR => fin H hs (by rw [<- hR]; exact hd)
 refine elem i H' k hi hs fun H4 s4 => hk _ H4 s4 ?_
 rw [hR, List.range_succ, List.map_append]
 rfl
theorem range_map_getD {A B : Type} (d : A) (f : A -> B) : ∀ l : List A, (List.range l.length).map (fun i => f (l.getD i d)) = l.map f
 | [] => rfl
 | a :: l => by
  rw [List.length_cons, List.range_succ_eq_map, List.map_cons, List.map_map, List.map_cons, <- range_map_getD d f l]
  rfl
theorem its_go {w : T} {i : Nat} {H : Hp} (h : i < w.length) : (Its (S w)).go i H := by show i < w.toArray.size; simpa using h
theorem its_stop {w : T} {i : Nat} {H : Hp} (h : w.length ≤ i) : (Its (S w)).stop i H := by show w.toArray.size ≤ i; simpa using h
theorem its_yld {w : T} {i : Nat} {H H' : Hp} {x : V} (hi : i < w.length) (h : (Its (S w)).yld i H x H') : H' = H /\ x = .str ⟨#[w.getD i 0]⟩ := by
 obtain ⟨e1, c, e2, e3⟩ := h
 refine ⟨e1, ?_⟩
 have e4 : w[i]? = some c := by simpa using e2
 rw [e3, List.getD_eq_getElem?_getD, e4]
 rfl
theorem lc_str {w : T} {val : Nat -> V} {j : Nat} {te : TE} {σ : L2.St} {H1 : Hp} {Q : VK} (hw : w.length < sizeLine)
  (elem : ∀ i H' (k : VK), i < w.length -> Same H1 H' -> (∀ H4, Same H' H4 -> k (val (w.getD i 0)) H4) -> te ((wipe σ [j]).set j (some (.str ⟨#[w.getD i 0]⟩))) H' k)
  (fin : ∀ H D, Same H1 H -> H1 D = none -> H D = some (.lst (w.map val)) -> Q (.ref D) H) (D : Addr) (hD : H1 D = none) : LcR (Its (S w)) j te σ H1 D Q :=
 lc_read (n := w.length) (src := fun i => .str ⟨#[w.getD i 0]⟩) (val := fun i => val (w.getD i 0)) (fun i H hi _ => its_go hi) (fun i H hi _ => its_stop hi) (fun i H x H' hi _ hx => its_yld hi hx) hD hw elem
  fun H hs hd => fin H D hs hD (by rw [hd, range_map_getD])
theorem lc_list {K : PySem.W.Frag} {a : Addr} {A : Type} {xs : List A} {f : A -> V} {d : A} {val : A -> V} {j : Nat} {te : TE} {σ : L2.St} {H1 : Hp} {Q : VK} (hs : SqL K H1 a (xs.map f)) (hw : xs.length < sizeLine)
  (elem : ∀ i H' (k : VK), i < xs.length -> Same H1 H' -> (∀ H4, Same H' H4 -> k (val (xs.getD i d)) H4) -> te ((wipe σ [j]).set j (some (f (xs.getD i d)))) H' k)
  (fin : ∀ H D, Same H1 H -> H1 D = none -> H D = some (.lst (xs.map val)) -> Q (.ref D) H) (D : Addr) (hD : H1 D = none) : LcR (Itl K a) j te σ H1 D Q := by
 refine lc_read (n := xs.length) (src := fun i => f (xs.getD i d)) (val := fun i => val (xs.getD i d)) (fun i H hi s => ?_) (fun i H hi s => ?_) (fun i H x H' hi s hx => ?_) hD hw elem fun H hs' hd => fin H D hs' hD (by rw [hd, range_map_getD])
 ·exact ⟨_, f xs[i], s.seq hs, by rw [List.getElem?_map, List.getElem?_eq_getElem hi]; rfl⟩
 ·exact ⟨_, s.seq hs, by rw [List.length_map]; exact hi⟩
 ·obtain ⟨e1, e2⟩ := hx
  refine ⟨e1, ?_⟩
  have e3 := e2 _ (s.seq hs)
  rw [List.getElem?_map, List.getElem?_eq_getElem hi] at e3
  rw [List.getD_eq_getElem?_getD, List.getElem?_eq_getElem hi]
  exact (Option.some.inj e3).symm
theorem lc_even {n : Nat} {val : Nat -> V} {j : Nat} {te : TE} {σ : L2.St} {H1 : Hp} {Q : VK} (hn : n < sizeLine)
  (elem : ∀ i H' (k : VK), i < n -> Same H1 H' -> (∀ H4, Same H' H4 -> k (val i) H4) -> te ((wipe σ [j]).set j (some (.int (0 + (i : Nat) * 2)))) H' k)
  (fin : ∀ H D, Same H1 H -> H1 D = none -> H D = some (.lst ((List.range n).map val)) -> Q (.ref D) H) (D : Addr) (hD : H1 D = none) : LcR (Itc 0 2 n) j te σ H1 D Q :=
 lc_read (n := n) (src := fun i => .int (0 + (i : Nat) * 2)) (val := val) (fun i H hi _ => hi) (fun i H hi _ => hi) (fun i H x H' _ _ hx => hx) hD hn elem fun H hs hd => fin H D hs hD hd
theorem rd_str {w : T} {i j : Nat} {val : Nat -> V} {te : TE} {σ : L2.St} {H1 : Hp} {Q : VK} (hσ : σ[i]? = some (some (strV w))) (hw : w.length < sizeLine)
  (elem : ∀ i H' (k : VK), i < w.length -> Same H1 H' -> (∀ H4, Same H' H4 -> k (val (w.getD i 0)) H4) -> te ((wipe σ [j]).set j (some (.str ⟨#[w.getD i 0]⟩))) H' k)
  (fin : ∀ H D, Same H1 H -> H1 D = none -> H D = some (.lst (w.map val)) -> Q (.ref D) H) : tLc (iStr (tVar i)) (gName j) tYes te [j] σ H1 Q :=
 ⟨_, hσ, _, rfl, fun D hD => lc_str hw elem fin D hD⟩
theorem rd_list {K : PySem.W.Frag} {a : Addr} {A : Type} {xs : List A} {f : A -> V} {d : A} {val : A -> V} {i j : Nat} {te : TE} {σ : L2.St} {H1 : Hp} {Q : VK} (hσ : σ[i]? = some (some (.ref a))) (hs : SqL K H1 a (xs.map f)) (hw : xs.length < sizeLine)
  (elem : ∀ i H' (k : VK), i < xs.length -> Same H1 H' -> (∀ H4, Same H' H4 -> k (val (xs.getD i d)) H4) -> te ((wipe σ [j]).set j (some (f (xs.getD i d)))) H' k)
  (fin : ∀ H D, Same H1 H -> H1 D = none -> H D = some (.lst (xs.map val)) -> Q (.ref D) H) : tLc (iList K (tVar i)) (gName j) tYes te [j] σ H1 Q :=
 ⟨_, hσ, _, rfl, ⟨_, hs⟩, fun D hD => lc_list hs hw elem fin D hD⟩
theorem rd_even {ta : TA} {m n j : Nat} {val : Nat -> V} {te : TE} {σ : L2.St} {H1 : Hp} {Q : VK} (ht : ∀ R : List V -> Hp -> Prop, R [.int 0, .int m, .int 2] H1 -> ta σ H1 R) (hr : RgC 0 m 2 n) (hn : n < sizeLine)
  (elem : ∀ i H' (k : VK), i < n -> Same H1 H' -> (∀ H4, Same H' H4 -> k (val i) H4) -> te ((wipe σ [j]).set j (some (.int (0 + (i : Nat) * 2)))) H' k)
  (fin : ∀ H D, Same H1 H -> H1 D = none -> H D = some (.lst ((List.range n).map val)) -> Q (.ref D) H) : tLc (iRng3 ta) (gName j) tYes te [j] σ H1 Q :=
 ht _ ⟨0, m, 2, n, rfl, hr, fun D hD => lc_even hn elem fin D hD⟩
end My
end
section
set_option Elab.async false
set_option linter.all false
set_option maxRecDepth 100000
set_option maxHeartbeats 4000000
namespace My
open PySem PySem.Spec PyProof.Rows L2 TL
theorem cut_take {w : T} (i : Int) (k : Nat) (h : i = k) : cutT w none (some i) = w.take k := by
 subst h
 unfold cutT
 rw [HT.sIx_nat, HT.sIx_none, List.drop_zero, Nat.sub_zero]
 by_cases q : k ≤ w.length
 ·rw [Nat.min_eq_left q]
 ·rw [Nat.min_eq_right (by omega), List.take_of_length_le (Nat.le_refl _), List.take_of_length_le (by omega)]
theorem cut_drop {w : T} (i : Int) (k : Nat) (h : i = k) : cutT w (some i) none = w.drop k := by
 subst h
 unfold cutT
 rw [HT.sIx_nat, HT.sIx_none]
 by_cases q : k ≤ w.length
 ·rw [Nat.min_eq_left q, List.take_of_length_le (by rw [List.length_drop]; omega)]
 ·rw [Nat.min_eq_right (by omega), List.drop_of_length_le (Nat.le_refl _), List.drop_of_length_le (by omega)]
  simp
theorem cut_mid {w : T} (i j : Int) (a b : Nat) (h1 : i = a) (h2 : j = b) : cutT w (some i) (some j) = (w.drop a).take (b - a) := by
 subst h1 h2
 unfold cutT
 rw [HT.sIx_nat, HT.sIx_nat]
 by_cases q : a ≤ w.length
 ·rw [Nat.min_eq_left q]
  by_cases q2 : b ≤ w.length
  ·rw [Nat.min_eq_left q2]
  ·rw [Nat.min_eq_right (by omega), List.take_of_length_le (by rw [List.length_drop]; omega), List.take_of_length_le (by rw [List.length_drop]; omega)]
 ·rw [Nat.min_eq_right (show w.length ≤ a by omega), List.drop_of_length_le (Nat.le_refl _), List.drop_of_length_le (show w.length ≤ a by omega)]
  simp
theorem sIx_neg (n d k : Nat) (hk : 0 < k) {i : Int} (h : i = -(k : Int)) : HT.sIx n d (some i) = n - k := by
 subst h
 show (if -(k : Int) < 0 then (-(k : Int) + (n : Int)).toNat else _) = _
 rw [if_pos (by omega)]
 omega
theorem cut_neg {w : T} (i : Int) (k : Nat) (hk : 0 < k) (h : i = -(k : Int)) : cutT w none (some i) = w.take (w.length - k) := by
 unfold cutT
 rw [sIx_neg _ _ k hk h, HT.sIx_none, List.drop_zero, Nat.sub_zero]
theorem cut_dneg {w : T} (i j : Int) (a k : Nat) (hk : 0 < k) (h1 : i = a) (h2 : j = -(k : Int)) : cutT w (some i) (some j) = (w.take (w.length - k)).drop a := by
 subst h1
 unfold cutT
 rw [sIx_neg _ _ k hk h2, HT.sIx_nat, List.drop_take]
 by_cases q : a ≤ w.length
 ·rw [Nat.min_eq_left q]
 ·rw [Nat.min_eq_right (by omega), List.drop_of_length_le (Nat.le_refl _), List.drop_of_length_le (by omega)]
  simp
theorem take_dropLast (w : T) : w.take (w.length - 1) = w.dropLast := by rw [List.dropLast_eq_take]
theorem Plain.of_sub {w v : T} (p : Plain w) (h : ∀ c ∈ v, c ∈ w) (hl : v.length ≤ w.length) : Plain v := ⟨fun c hc => p.sg c (h c hc), Nat.le_trans hl p.ln⟩
theorem Plain.dropLast {w : T} (p : Plain w) : Plain w.dropLast := by rw [<- take_dropLast]; exact p.take _
theorem nil_plain : Plain [] := ⟨fun _ h => (by cases h), by decide⟩
theorem wr (s : String) : V.str (Str.ofString s) = strV (Kwc.text s) := by rw [ofS]
end My
end
section
set_option Elab.async false
set_option linter.all false
set_option maxRecDepth 100000
set_option maxHeartbeats 4000000
namespace My
open PySem PySem.Spec PyProof.Rows L2 TL
theorem ends_last (w : T) (c : Nat) : Txt.endswith (S w) (S [c]) = decide (w.getLast? = some c) := by
 rw [ends_S w [c] (.inr trivial)]
 cases hw : w.getLast? with
 | none =>
  have : w = [] := by simpa using hw
  subst this
  rfl
 | some x =>
  have hne : w ≠ [] := fun e => by rw [e] at hw; cases hw
  have hd : w.drop (w.length - 1) = [x] := by
   have h1 := List.dropLast_concat_getLast hne
   rw [List.getLast?_eq_some_getLast hne] at hw
   have h2 := Option.some.inj hw
   conv => lhs; rw [<- h1]
   rw [h2]
   rw [List.drop_append_of_le_length (by simp), List.drop_of_length_le (by simp)]
   rfl
  show decide (1 ≤ w.length /\ w.drop (w.length - 1) = [c]) = decide (some x = some c)
  rw [hd]
  have hl : 1 ≤ w.length := by cases w with
   | nil => exact absurd rfl hne
   | cons a b => simp
  by_cases q : x = c
  ·subst q; simp [hl]
  ·rw [decide_eq_false (fun z => q (List.cons.inj z.2).1), decide_eq_false (fun z => q (Option.some.inj z))]
theorem eqStr (a : T) (s : String) : decide (V.str (S a) = V.str (Str.ofString s)) = decide (a = Kwc.text s) := by rw [ofS s]; exact strV_dec a _
theorem startsT (w : T) (s : String) : Txt.startswith (S w) (Str.ofString s) = decide (w.take (Kwc.text s).length = Kwc.text s) := by rw [ofS s, starts_S]
theorem inV_S (c : T) : ∀ ws : List T, inV (strV c) (ws.map strV) = ws.contains c
 | [] => rfl
 | x :: ws => by
  have ih := inV_S c ws
  unfold inV at ih ⊢
  rw [List.map_cons, List.any_cons, ih, List.contains_cons]
  congr 1
  show (S x == S c) = (c == x)
  by_cases e : x = c
  ·subst e; simp
  ·have h1 : S x ≠ S c := fun q => e (S_inj q)
   rw [beq_eq_false_iff_ne.mpr h1, beq_eq_false_iff_ne.mpr fun q => e q.symm]
theorem op_inK {X : Cx} (K : PySem.W.Frag) (h : X.K = K) : OpR X (compareOp .In) (rIn K false) := by rw [<- h]; exact op_in_seq
theorem flat_strs (ws : List T) : (ws.map strV).all flatV = true := by
 rw [List.all_map, List.all_eq_true]
 intro x _
 rfl
theorem place_eq : ∀ (l : List String) (w : T) (k : Nat), Kwc.placeIn l w k = if (l.map Kwc.text).contains w then some ((l.map Kwc.text).idxOf w + k) else none
 | [], w, k => rfl
 | s :: l, w, k => by
  rw [Kwc.placeIn, place_eq l w (k + 1), List.map_cons, List.contains_cons, List.idxOf_cons]
  by_cases e : Kwc.text s = w
  ·rw [beq_iff_eq.mpr e, beq_iff_eq.mpr e.symm, if_pos rfl, Bool.true_or, if_pos rfl]
   simp
  ·have e2 : (w == Kwc.text s) = false := beq_eq_false_iff_ne.mpr fun q => e q.symm
   rw [beq_eq_false_iff_ne.mpr e, e2, Bool.false_or]
   simp only [Bool.false_eq_true, if_false]
   by_cases q : (l.map Kwc.text).contains w = true
   ·rw [if_pos q, if_pos q]
    simp only [cond_false]
    congr 1
    omega
   ·rw [if_neg q, if_neg q]
theorem idx_at : ∀ {ws : List T} {c : T}, c ∈ ws -> ws[ws.idxOf c]? = some c /\ ∀ m z, m < ws.idxOf c -> ws[m]? = some z -> z ≠ c
 | x :: ws, c, h => by
  rw [List.idxOf_cons]
  by_cases e : x = c
  ·subst e
   simp
  ·rw [beq_eq_false_iff_ne.mpr e]
   have hc : c ∈ ws := by
    rcases List.mem_cons.mp h with q | q
    ·exact absurd q.symm e
    ·exact q
   obtain ⟨h1, h2⟩ := idx_at hc
   simp only [cond_false]
   refine ⟨by simpa using h1, fun m z hm hz => ?_⟩
   cases m with
   | zero =>
    have : x = z := by simpa using hz
    rw [<- this]; exact e
   | succ m => exact h2 m z (by omega) (by simpa using hz)
theorem eqV_S (a b : T) : eqV (strV a) (strV b) = decide (a = b) := by
 show (S a == S b) = _
 by_cases e : a = b
 ·subst e; simp
 ·rw [beq_eq_false_iff_ne.mpr fun q => e (S_inj q), decide_eq_false e]
theorem idx_read {K : PySem.W.Frag} {H : Hp} {a : Addr} {ws : List T} {c : T} {Q : VK} (hs : SqT K H a (ws.map strV)) (hc : c ∈ ws) (q : Q (.int (ws.idxOf c : Nat)) H) : rIndexT K (.ref a) [strV c] H Q := by
 obtain ⟨h1, h2⟩ := idx_at hc
 refine ⟨a, _, strV c, ws.idxOf c, strV c, rfl, rfl, hs, rfl, flat_strs ws, by rw [List.getElem?_map, h1]; rfl, by rw [eqV_S]; simp, fun m z' hm hz => ?_, q⟩
 rw [List.getElem?_map] at hz
 cases e : ws[m]? with
 | none => rw [e] at hz; cases hz
 | some z =>
  rw [e] at hz
  have : strV z = z' := Option.some.inj hz
  subst this
  rw [eqV_S, decide_eq_false (h2 m z hm e)]
theorem spl_chars (c : Nat) : ∀ (l acc : T), ∀ x ∈ My.spl c acc l, (∀ b ∈ x, b ∈ acc \/ b ∈ l) /\ x.length ≤ acc.length + l.length
 | [], acc, x, hx => by
  have : x = acc.reverse := by simpa [My.spl] using hx
  subst this
  exact ⟨fun b hb => .inl (by simpa using hb), by simp⟩
 | b :: l, acc, x, hx => by
  unfold My.spl at hx
  split at hx
  ·rcases List.mem_cons.mp hx with q | q
   ·subst q
    exact ⟨fun b hb => .inl (by simpa using hb), by simp⟩
   ·obtain ⟨h1, h2⟩ := spl_chars c l [] x q
    refine ⟨fun z hz => .inr ?_, by simp at h2 ⊢; omega⟩
    rcases h1 z hz with y | y
    ·cases y
    ·exact List.mem_cons_of_mem _ y
  ·obtain ⟨h1, h2⟩ := spl_chars c l (b :: acc) x hx
   refine ⟨fun z hz => ?_, by simp at h2 ⊢; omega⟩
   rcases h1 z hz with y | y
   ·rcases List.mem_cons.mp y with y | y
    ·right; rw [y]; simp
    ·exact .inl y
   ·exact .inr (List.mem_cons_of_mem _ y)
theorem spl_plain {c : Nat} {w : T} (p : Plain w) : ∀ x ∈ My.spl c [] w, Plain x := fun x hx => by
 obtain ⟨h1, h2⟩ := spl_chars c w [] x hx
 refine p.of_sub (fun b hb => ?_) (by simpa using h2)
 rcases h1 b hb with q | q
 ·cases q
 ·exact q
theorem at_of' {xs : List Nat} {z : Int} {j : Nat} {v : Nat} (e : z = (j : Int)) (h : xs[j]? = some v) : atI xs z = some v := by
 subst e
 exact atI_nat h
end My
end
section
set_option Elab.async false
set_option linter.all false
set_option maxRecDepth 100000
set_option maxHeartbeats 4000000
namespace My
open PySem PySem.Spec PyProof.Rows L2 TL
section
variable {P : Program} {w : World} {K : PySem.W.Frag} {mg : Str -> Option Value} {base : Heap}
abbrev st_clock_of : Stmt := top 18
theorem sc_clock_of : FnScope ["part", "hour", "minute"] ["part"] (defScope st_clock_of) := ⟨rfl, rfl, rfl, by decide +kernel, rfl, by decide +kernel, by decide +kernel⟩
theorem kn_clock (N : TopFn K mg "clock_of" st_clock_of) (kn_number_within : Known P w K mg base CX0 1 "number_within" ["part", "size", "lowest", "highest"] spNW) : Known P w K mg base CX0 2 "clock_of" ["part"] (sp1 rClock) := by
 refine known_of N (fun _ _ _ _ _ _ us hl => match us, hl with | [_], _ => rfl) fun f fd Fu => ?_
 refine Fu.ok sc_clock_of (fun vs H Q E h => ?_) (fun cdv A outer s H vs Q E hr h => ?_)
 ·obtain ⟨p, rfl, _⟩ := h
  rfl
 ·obtain ⟨p, rfl, hp, ret⟩ := h
  refine ⟨_, (pss_cons (ps_set (i := 1) sc_clock_of.nd rfl (by first | exact Or.inl rfl | exact Or.inr rfl) (pe_kn kn_number_within (hr.mono (by decide)) rfl pass0 (pa_cons (pe_slice sl_str (pv 0) po_none (po_some pe_int)) (pa_cons pe_int (pa_cons pe_int (pa_cons pe_int pa_nil))))))
   (pss_cons (ps_set (i := 2) sc_clock_of.nd rfl (by first | exact Or.inl rfl | exact Or.inr rfl) (pe_kn kn_number_within (hr.mono (by decide)) rfl pass0 (pa_cons (pe_slice sl_str (pv 0) (po_some pe_int) po_none) (pa_cons pe_int (pa_cons pe_int (pa_cons pe_int pa_nil))))))
   (pss_one (ps_ret (pe_ifExp (PW.pt (pw_or (pt_cmp (pc_isN (pv 1))) (pw_or1 (pt_cmp (pc_isN (pv 2)))))) pe_non (pe_lst (pa_cons (pv 1) (pa_cons (pv 2) pa_nil)))))))), ?_⟩
  refine ⟨_, rfl, _, rfl, _, rfl, hp.size, ?_⟩
  refine ⟨p.take 2, 2, 0, 23, by rw [cut_S, cut_take 2 2 rfl]; rfl, hp.take 2, by decide, ?_⟩
  unfold rClock clockOf at ret
  cases e1 : nw (p.take 2) 2 0 23 with
  | none =>
   intro H1 s1
   refine ⟨_, rfl, _, rfl, _, rfl, hp.size, p.drop 2, 2, 0, 59, by rw [cut_S, cut_drop 2 2 rfl]; rfl, hp.drop 2, by decide, ?_⟩
   rw [e1] at ret
   cases e2 : nw (p.drop 2) 2 0 59 with
   | none => exact fun H2 s2 => ⟨_, rfl, _, rfl, ret H2 (s1.trans s2)⟩
   | some m => exact fun H2 s2 => ⟨_, rfl, _, rfl, ret H2 (s1.trans s2)⟩
  | some a =>
   intro H1 s1
   refine ⟨_, rfl, _, rfl, _, rfl, hp.size, p.drop 2, 2, 0, 59, by rw [cut_S, cut_drop 2 2 rfl]; rfl, hp.drop 2, by decide, ?_⟩
   rw [e1] at ret
   cases e2 : nw (p.drop 2) 2 0 59 with
   | none =>
    rw [e2] at ret
    exact fun H2 s2 => ⟨_, rfl, _, rfl, _, rfl, _, rfl, ret H2 (s1.trans s2)⟩
   | some m =>
    rw [e2] at ret
    refine fun H2 s2 => ⟨_, rfl, _, rfl, _, rfl, _, rfl, _, rfl, _, rfl, (by show 2 ≤ sizeLine; decide), fun q hq => ?_⟩
    exact ret _ q (same_new (s1.trans s2) hq) ((s1.trans s2).free hq) upd_same
abbrev st_metres_fit : Stmt := top 23
theorem sc_metres_fit : FnScope ["metres"] ["metres"] (defScope st_metres_fit) := ⟨rfl, rfl, rfl, by decide +kernel, rfl, by decide +kernel, by decide +kernel⟩
theorem kn_metres (N : TopFn K mg "metres_fit" st_metres_fit) : Known P w K mg base CX0 1 "metres_fit" ["metres"] spMF := by
 refine known_of N (fun _ _ _ _ _ _ us hl => match us, hl with | [_], _ => rfl) fun f fd Fu => ?_
 refine Fu.ok sc_metres_fit (fun vs H Q E h => ?_) (fun cdv A outer s H vs Q E hr h => ?_)
 ·obtain ⟨n, rfl, _⟩ := h
  rfl
 ·obtain ⟨n, rfl, ret⟩ := h
  refine ⟨_, (pss_cons (ps_if (pt_cmpR op_lt (pv 0) pe_int (nomark _))
   (pss_one (ps_ret (pe_cmpR op_eq (pe_op op_mod (pv 0) pe_int) pe_int (nomark _))))
   pss_nil)
   (pss_cons (ps_if (pt_cmpR op_lt (pv 0) pe_int (nomark _))
   (pss_one (ps_ret (pe_cmpR op_eq (pe_op op_mod (pv 0) pe_int) pe_int (nomark _))))
   pss_nil)
   (pss_one (ps_ret (pe_or (pe_cmpR op_eq (pv 0) pe_int (nomark _)) (pe_one (pe_and (pe_cmpR op_le (pv 0) pe_int (nomark _)) (pe_one (pe_cmpR op_eq (pe_op op_mod (pv 0) pe_int) pe_int (nomark _)))))))))), ?_⟩
  unfold metresFit at ret
  refine ⟨_, rfl, _, _, rfl, rfl, _, rfl, ?_⟩
  refine iteB (fun e => ?_) (fun e => ?_)
  ·rw [if_pos (by simp at e; omega)] at ret
   refine ⟨_, rfl, _, _, rfl, rfl, (by show (0 : Int) < 50; decide), rfl, ?_⟩
   rw [dec_intV]
   have : decide ((n : Int) % 50 = 0) = (n % 50 == 0) := by
    rw [Bool.eq_iff_iff]; simp; omega
   rw [this]
   exact ret H (Same.refl H)
  ·rw [if_neg (by simp at e; omega)] at ret
   refine ⟨_, rfl, _, _, rfl, rfl, _, rfl, ?_⟩
   refine iteB (fun e2 => ?_) (fun e2 => ?_)
   ·rw [if_pos (by simp at e2; omega)] at ret
    refine ⟨_, rfl, _, _, rfl, rfl, (by show (0 : Int) < 100; decide), rfl, ?_⟩
    rw [dec_intV]
    have : decide ((n : Int) % 100 = 0) = (n % 100 == 0) := by
     rw [Bool.eq_iff_iff]; simp; omega
    rw [this]
    exact ret H (Same.refl H)
   ·rw [if_neg (by simp at e2; omega)] at ret
    refine ⟨_, rfl, rfl, _, rfl, ?_⟩
    rw [dec_intV]
    have e9 : decide ((n : Int) = 9999) = (n == 9999) := by rw [Bool.eq_iff_iff]; simp; omega
    rw [e9]
    refine iteB (fun e3 => ?_) (fun e3 => ?_)
    ·rw [e3] at ret
     exact ret H (Same.refl H)
    ·rw [e3, Bool.false_or] at ret
     refine ⟨_, rfl, _, _, rfl, rfl, _, rfl, ?_⟩
     have e90 : decide ((n : Int) ≤ 9000) = decide (n ≤ 9000) := by rw [Bool.eq_iff_iff]; simp; omega
     rw [e90]
     refine iteB (fun e4 => ?_) (fun e4 => ?_)
     ·rw [e4, Bool.true_and] at ret
      refine ⟨_, rfl, _, _, rfl, rfl, (by show (0 : Int) < 1000; decide), rfl, ?_⟩
      rw [dec_intV]
      have : decide ((n : Int) % 1000 = 0) = (n % 1000 == 0) := by
       rw [Bool.eq_iff_iff]; simp; omega
      rw [this]
      exact ret H (Same.refl H)
     ·rw [e4, Bool.false_and] at ret
      exact ret H (Same.refl H)
abbrev st_from_of : Stmt := top 21
theorem sc_from_of : FnScope ["word"] ["word"] (defScope st_from_of) := ⟨rfl, rfl, rfl, by decide +kernel, rfl, by decide +kernel, by decide +kernel⟩
theorem kn_from (N : TopFn K mg "from_of" st_from_of) (g_FROM : GV mg "FROM" (.str (Str.ofString "FM"))) (kn_marked_minutes : Known P w K mg base CX0 3 "marked_minutes" ["word", "mark"] spMM) : Known P w K mg base CX0 4 "from_of" ["word"] (sp1 rFrom) := by
 refine known_of N (fun _ _ _ _ _ _ us hl => match us, hl with | [_], _ => rfl) fun f fd Fu => ?_
 refine Fu.ok sc_from_of (fun vs H Q E h => ?_) (fun cdv A outer s H vs Q E hr h => ?_)
 ·obtain ⟨p, rfl, _⟩ := h
  rfl
 ·obtain ⟨p, rfl, hp, ret⟩ := h
  refine ⟨_, (pss_one (ps_ret (pe_kn kn_marked_minutes (hr.mono (by decide)) rfl pass0 (pa_cons (pv 0) (pa_cons (pe_gv g_FROM (by rfl)) pa_nil))))), ?_⟩
  exact ⟨_, rfl, p, Kwc.text "FM", by rw [wr]; rfl, hp, text_plain _, ret⟩
abbrev st_till_of : Stmt := top 22
theorem sc_till_of : FnScope ["word"] ["word"] (defScope st_till_of) := ⟨rfl, rfl, rfl, by decide +kernel, rfl, by decide +kernel, by decide +kernel⟩
theorem kn_till (N : TopFn K mg "till_of" st_till_of) (g_TILL : GV mg "TILL" (.str (Str.ofString "TL"))) (kn_marked_minutes : Known P w K mg base CX0 3 "marked_minutes" ["word", "mark"] spMM) : Known P w K mg base CX0 4 "till_of" ["word"] (sp1 rTill) := by
 refine known_of N (fun _ _ _ _ _ _ us hl => match us, hl with | [_], _ => rfl) fun f fd Fu => ?_
 refine Fu.ok sc_till_of (fun vs H Q E h => ?_) (fun cdv A outer s H vs Q E hr h => ?_)
 ·obtain ⟨p, rfl, _⟩ := h
  rfl
 ·obtain ⟨p, rfl, hp, ret⟩ := h
  refine ⟨_, (pss_one (ps_ret (pe_kn kn_marked_minutes (hr.mono (by decide)) rfl pass0 (pa_cons (pv 0) (pa_cons (pe_gv g_TILL (by rfl)) pa_nil))))), ?_⟩
  exact ⟨_, rfl, p, Kwc.text "TL", by rw [wr]; rfl, hp, text_plain _, ret⟩
abbrev st_marked_minutes : Stmt := top 20
theorem sc_marked_minutes : FnScope ["word", "mark", "clock"] ["word", "mark"] (defScope st_marked_minutes) := ⟨rfl, rfl, rfl, by decide +kernel, rfl, by decide +kernel, by decide +kernel⟩
theorem kn_marked (N : TopFn K mg "marked_minutes" st_marked_minutes) (B : Bt mg) (kn_clock_of : Known P w K mg base CX0 2 "clock_of" ["part"] (sp1 rClock)) : Known P w K mg base CX0 3 "marked_minutes" ["word", "mark"] spMM := by
 refine known_of N (fun _ _ _ _ _ _ us hl => match us, hl with | [_, _], _ => rfl) fun f fd Fu => ?_
 refine Fu.ok sc_marked_minutes (fun vs H Q E h => ?_) (fun cdv A outer s H vs Q E hr h => ?_)
 ·obtain ⟨p, m, rfl, _⟩ := h
  rfl
 ·obtain ⟨p, m, rfl, hp, hm, ret⟩ := h
  refine ⟨_, (pss_cons (ps_if (pt_not (pt_val (pe_m1 PySem.F.slot_str_startswith PySem.F.type_str_startswith mt_startswith (pv 0) (pv 1))))
   (pss_one (ps_ret pe_non))
   pss_nil)
   (pss_cons (ps_set (i := 2) sc_marked_minutes.nd rfl (by first | exact Or.inl rfl | exact Or.inr rfl) (pe_kn kn_clock_of (hr.mono (by decide)) rfl pass0 (pa_cons (pe_slice sl_str (pv 0) (po_some (pe_callB call_len_str (by rfl) B.len PySem.boot_len (pa_cons (pv 1) pa_nil))) po_none) pa_nil)))
   (pss_one (ps_ret (pe_ifExp (pt_cmp (pc_isN (pv 2))) pe_non (pe_op op_add (pe_op op_mul (pe_ix ix_list (pv 2) pe_int (fun _ _ => rfl)) pe_int) (pe_ix ix_list (pv 2) pe_int (fun _ _ => rfl)))))))), ?_⟩
  unfold markedMinutes at ret
  refine ⟨_, rfl, ⟨_, rfl⟩, _, rfl, _, _, rfl, rfl, _, rfl, ?_⟩
  rw [starts_S]
  refine iteB (fun e => ?_) (fun e => ?_)
  ·rw [if_neg (by simpa using e)] at ret
   exact ret H (Same.refl H)
  ·rw [if_pos (by simpa using e)] at ret
   refine ⟨_, rfl, _, rfl, _, rfl, hm.size, _, rfl, _, rfl, hp.size, p.drop m.length, by rw [cut_S, cut_drop _ m.length (by rw [S_len])]; rfl, hp.drop _, ?_⟩
   unfold rClock
   cases e1 : clockOf (p.drop m.length) with
   | none =>
    rw [e1] at ret
    exact fun H1 s1 => ⟨_, rfl, _, rfl, ret H1 s1⟩
   | some c =>
    rw [e1] at ret
    refine fun H1 q s1 hq hq1 => ⟨_, rfl, _, rfl, ?_⟩
    refine ⟨_, rfl, q, _, _, _, rfl, rfl, SqL.of hq1, at_of (j := 0) rfl rfl, _, _, rfl, rfl, .inr ⟨by decide, by decide⟩, _, rfl, q, _, _, _, rfl, rfl, SqL.of hq1, at_of (j := 1) rfl rfl, _, _, rfl, rfl, ?_⟩
    exact ret H1 s1
end
end My
end
section
set_option Elab.async false
set_option linter.all false
set_option maxRecDepth 100000
set_option maxHeartbeats 4000000
namespace My
open PySem PySem.Spec PyProof.Rows L2 TL
section
variable {P : Program} {w : World} {K : PySem.W.Frag} {mg : Str -> Option Value} {base : Heap}
abbrev st_moment_of : Stmt := top 19
theorem sc_moment_of : FnScope ["word", "day", "clock"] ["word"] (defScope st_moment_of) := ⟨rfl, rfl, rfl, by decide +kernel, rfl, by decide +kernel, by decide +kernel⟩
theorem kn_moment (N : TopFn K mg "moment_of" st_moment_of) (kn_number_within : Known P w K mg base CX0 1 "number_within" ["part", "size", "lowest", "highest"] spNW) (kn_clock_of : Known P w K mg base CX0 2 "clock_of" ["part"] (sp1 rClock)) :
  Known P w K mg base CX0 3 "moment_of" ["word"] (sp1 rMoment) := by
 refine known_of N (fun _ _ _ _ _ _ us hl => match us, hl with | [_], _ => rfl) fun f fd Fu => ?_
 refine Fu.ok sc_moment_of (fun vs H Q E h => ?_) (fun cdv A outer s H vs Q E hr h => ?_)
 ·obtain ⟨p, rfl, _⟩ := h
  rfl
 ·obtain ⟨p, rfl, hp, ret⟩ := h
  refine ⟨_, (pss_cons (ps_if (pt_not (pt_val (pe_m1 PySem.F.slot_str_endswith PySem.F.type_str_endswith mt_endswith (pv 0) pe_str)))
   (pss_one (ps_ret pe_non))
   pss_nil)
   (pss_cons (ps_set (i := 1) sc_moment_of.nd rfl (by first | exact Or.inl rfl | exact Or.inr rfl) (pe_kn kn_number_within (hr.mono (by decide)) rfl pass0 (pa_cons (pe_slice sl_str (pv 0) po_none (po_some pe_int)) (pa_cons pe_int (pa_cons pe_int (pa_cons pe_int pa_nil))))))
   (pss_cons (ps_set (i := 2) sc_moment_of.nd rfl (by first | exact Or.inl rfl | exact Or.inr rfl) (pe_kn kn_clock_of (hr.mono (by decide)) rfl pass0 (pa_cons (pe_slice sl_str (pv 0) (po_some pe_int) (po_some (pe_un un_neg pe_int))) pa_nil)))
   (pss_one (ps_ret (pe_ifExp (PW.pt (pw_or (pt_cmp (pc_isN (pv 1))) (pw_or1 (pt_cmp (pc_isN (pv 2)))))) pe_non (pe_op op_cat (pe_lst (pa_cons (pv 1) pa_nil)) (pv 2)))))))), ?_⟩
  unfold rMoment momentOf at ret
  refine ⟨_, rfl, ⟨_, rfl⟩, _, _, rfl, rfl, _, rfl, ?_⟩
  rw [ofS "Z", show Kwc.text "Z" = [90] from rfl, ends_last]
  refine iteB (fun e => ?_) (fun e => ?_)
  ·rw [if_neg (by simpa using e)] at ret
   exact ret H (Same.refl H)
  ·rw [if_pos (by simpa using e)] at ret
   refine ⟨_, rfl, _, rfl, _, rfl, hp.size, p.take 2, 2, 1, 31, by rw [cut_S, cut_take 2 2 rfl]; rfl, hp.take 2, by decide, ?_⟩
   have ew : cutT p (some 2) (some (-1)) = p.dropLast.drop 2 := by rw [cut_dneg 2 (-1) 2 1 (by decide) rfl rfl, take_dropLast]
   cases e1 : nw (p.take 2) 2 1 31 with
   | none =>
    intro H1 s1
    refine ⟨_, rfl, _, rfl, _, rfl, _, rfl, _, rfl, hp.size, p.dropLast.drop 2, by rw [cut_S, ew]; rfl, (hp.dropLast).drop 2, ?_⟩
    rw [e1] at ret
    unfold rClock
    cases e2 : clockOf (p.dropLast.drop 2) with
    | none => exact fun H2 s2 => ⟨_, rfl, _, rfl, ret H2 (s1.trans s2)⟩
    | some m => exact fun H2 q s2 _ _ => ⟨_, rfl, _, rfl, ret H2 (s1.trans s2)⟩
   | some a =>
    intro H1 s1
    refine ⟨_, rfl, _, rfl, _, rfl, _, rfl, _, rfl, hp.size, p.dropLast.drop 2, by rw [cut_S, ew]; rfl, (hp.dropLast).drop 2, ?_⟩
    rw [e1] at ret
    unfold rClock
    cases e2 : clockOf (p.dropLast.drop 2) with
    | none =>
     rw [e2] at ret
     exact fun H2 s2 => ⟨_, rfl, _, rfl, _, rfl, _, rfl, ret H2 (s1.trans s2)⟩
    | some m =>
     rw [e2] at ret
     refine fun H2 q s2 hn hq => ⟨_, rfl, _, rfl, _, rfl, _, rfl, _, rfl, (by show 1 ≤ sizeLine; decide), fun r hr1 => ?_⟩
     refine ⟨_, rfl, r, q, _, _, rfl, rfl, upd_same, (by rw [upd_ne (ne_of_none hq hr1)]; exact hq), (by show 3 ≤ sizeLine; decide), fun z hz => ?_⟩
     have s3 : Same H (upd H2 r (.lst [.int a])) := same_new (s1.trans s2) hr1
     exact ret _ z (same_new s3 hz) (s3.free hz) upd_same
abbrev st_sight_of : Stmt := top 24
theorem sc_sight_of : FnScope ["word", "metres"] ["word"] (defScope st_sight_of) := ⟨rfl, rfl, rfl, by decide +kernel, rfl, by decide +kernel, by decide +kernel⟩
theorem kn_sight (N : TopFn K mg "sight_of" st_sight_of) (g_CAVOK_WORD : GV mg "CAVOK_WORD" (.str (Str.ofString "CAVOK"))) (g_CAVOK : GV mg "CAVOK" (.int 10000)) (kn_number_within : Known P w K mg base CX0 1 "number_within" ["part", "size", "lowest", "highest"] spNW) (kn_metres_fit : Known P w K mg base CX0 1 "metres_fit" ["metres"] spMF) :
  Known P w K mg base CX0 2 "sight_of" ["word"] (sp1 rSight) := by
 refine known_of N (fun _ _ _ _ _ _ us hl => match us, hl with | [_], _ => rfl) fun f fd Fu => ?_
 refine Fu.ok sc_sight_of (fun vs H Q E h => ?_) (fun cdv A outer s H vs Q E hr h => ?_)
 ·obtain ⟨p, rfl, _⟩ := h
  rfl
 ·obtain ⟨p, rfl, hp, ret⟩ := h
  refine ⟨_, (pss_cons (ps_if (pt_cmpR op_eq (pv 0) (pe_gv g_CAVOK_WORD (by rfl)) (nomark _))
   (pss_one (ps_ret (pe_gv g_CAVOK (by rfl))))
   pss_nil)
   (pss_cons (ps_set (i := 1) sc_sight_of.nd rfl (by first | exact Or.inl rfl | exact Or.inr rfl) (pe_kn kn_number_within (hr.mono (by decide)) rfl pass0 (pa_cons (pv 0) (pa_cons pe_int (pa_cons pe_int (pa_cons pe_int pa_nil))))))
   (pss_one (ps_ret (pe_ifExp (PW.pt (pw_and (pt_cmp (pc_notN (pv 1))) (pw_and1 (pt_val (pe_kn kn_metres_fit (hr.mono (by decide)) rfl pass0 (pa_cons (pv 1) pa_nil)))))) (pv 1) pe_non))))), ?_⟩
  unfold rSight sightOf at ret
  refine ⟨_, rfl, rfl, _, rfl, ?_⟩
  rw [eqStr]
  refine iteB (fun e => ?_) (fun e => ?_)
  ·rw [if_pos (by simpa using e)] at ret
   exact ret H (Same.refl H)
  ·rw [if_neg (by simpa using e)] at ret
   refine ⟨_, rfl, p, 4, 0, 9999, rfl, hp, by decide, ?_⟩
   cases e1 : nw p 4 0 9999 with
   | none =>
    rw [e1] at ret
    exact fun H1 s1 => ⟨_, rfl, _, rfl, ret H1 s1⟩
   | some n =>
    rw [e1] at ret
    refine fun H1 s1 => ⟨_, rfl, _, rfl, _, rfl, n, rfl, fun H2 s2 => ⟨_, rfl, ?_⟩⟩
    refine iteB (fun e2 => ?_) (fun e2 => ?_)
    ·simp only [e2] at ret
     exact ⟨_, rfl, ret H2 (s1.trans s2)⟩
    ·simp only [e2] at ret
     exact ret H2 (s1.trans s2)
abbrev st_degree_of : Stmt := top 25
theorem sc_degree_of : FnScope ["part", "below"] ["part"] (defScope st_degree_of) := ⟨rfl, rfl, rfl, by decide +kernel, rfl, by decide +kernel, by decide +kernel⟩
theorem kn_degree (N : TopFn K mg "degree_of" st_degree_of) (g_MOST_DEGREES : GV mg "MOST_DEGREES" (.int 60)) (kn_number_within : Known P w K mg base CX0 1 "number_within" ["part", "size", "lowest", "highest"] spNW) : Known P w K mg base CX0 2 "degree_of" ["part"] (sp1 rDegree) := by
 refine known_of N (fun _ _ _ _ _ _ us hl => match us, hl with | [_], _ => rfl) fun f fd Fu => ?_
 refine Fu.ok sc_degree_of (fun vs H Q E h => ?_) (fun cdv A outer s H vs Q E hr h => ?_)
 ·obtain ⟨p, rfl, _⟩ := h
  rfl
 ·obtain ⟨p, rfl, hp, ret⟩ := h
  refine ⟨_, (pss_cons (ps_if (pt_val (pe_m1 PySem.F.slot_str_startswith PySem.F.type_str_startswith mt_startswith (pv 0) pe_str))
   (pss_cons (ps_set (i := 1) sc_degree_of.nd rfl (by first | exact Or.inl rfl | exact Or.inr rfl) (pe_kn kn_number_within (hr.mono (by decide)) rfl pass0 (pa_cons (pe_slice sl_str (pv 0) (po_some pe_int) po_none) (pa_cons pe_int (pa_cons pe_int (pa_cons (pe_gv g_MOST_DEGREES (by rfl)) pa_nil))))))
   (pss_one (ps_ret (pe_ifExp (pt_cmp (pc_isN (pv 1))) pe_non (pe_un un_neg (pv 1))))))
   pss_nil)
   (pss_one (ps_ret (pe_kn kn_number_within (hr.mono (by decide)) rfl pass0 (pa_cons (pv 0) (pa_cons pe_int (pa_cons pe_int (pa_cons (pe_gv g_MOST_DEGREES (by rfl)) pa_nil)))))))), ?_⟩
  unfold rDegree degreeOf at ret
  refine ⟨_, rfl, ⟨_, rfl⟩, _, _, rfl, rfl, _, rfl, ?_⟩
  rw [startsT]
  refine iteB (fun e => ?_) (fun e => ?_)
  ·have e' : p.take 1 = [77] := of_decide_eq_true e
   rw [if_pos e'] at ret
   refine ⟨_, rfl, _, rfl, _, rfl, hp.size, p.drop 1, 2, 1, 60, by rw [cut_S, cut_drop 1 1 rfl]; rfl, hp.drop 1, by decide, ?_⟩
   cases e1 : nw (p.drop 1) 2 1 60 with
   | none =>
    rw [e1] at ret
    exact fun H1 s1 => ⟨_, rfl, _, rfl, ret H1 s1⟩
   | some n =>
    rw [e1] at ret
    exact fun H1 s1 => ⟨_, rfl, _, rfl, _, rfl, _, rfl, ret H1 s1⟩
  ·have e' : ¬ p.take 1 = [77] := of_decide_eq_false e
   rw [if_neg e'] at ret
   refine ⟨_, rfl, p, 2, 0, 60, rfl, hp, by decide, ?_⟩
   cases e1 : nw p 2 0 60 with
   | none =>
    rw [e1] at ret
    exact ret
   | some n =>
    rw [e1] at ret
    exact ret
abbrev st_pressure_of : Stmt := top 27
theorem sc_pressure_of : FnScope ["word"] ["word"] (defScope st_pressure_of) := ⟨rfl, rfl, rfl, by decide +kernel, rfl, by decide +kernel, by decide +kernel⟩
theorem kn_press (N : TopFn K mg "pressure_of" st_pressure_of) (g_LEAST_PRESSURE : GV mg "LEAST_PRESSURE" (.int 850)) (g_MOST_PRESSURE : GV mg "MOST_PRESSURE" (.int 1100)) (kn_number_within : Known P w K mg base CX0 1 "number_within" ["part", "size", "lowest", "highest"] spNW) : Known P w K mg base CX0 2 "pressure_of" ["word"] (sp1 rPress) := by
 refine known_of N (fun _ _ _ _ _ _ us hl => match us, hl with | [_], _ => rfl) fun f fd Fu => ?_
 refine Fu.ok sc_pressure_of (fun vs H Q E h => ?_) (fun cdv A outer s H vs Q E hr h => ?_)
 ·obtain ⟨p, rfl, _⟩ := h
  rfl
 ·obtain ⟨p, rfl, hp, ret⟩ := h
  refine ⟨_, (pss_cons (ps_if (pt_not (pt_val (pe_m1 PySem.F.slot_str_startswith PySem.F.type_str_startswith mt_startswith (pv 0) pe_str)))
   (pss_one (ps_ret pe_non))
   pss_nil)
   (pss_one (ps_ret (pe_kn kn_number_within (hr.mono (by decide)) rfl pass0 (pa_cons (pe_slice sl_str (pv 0) (po_some pe_int) po_none) (pa_cons pe_int (pa_cons (pe_gv g_LEAST_PRESSURE (by rfl)) (pa_cons (pe_gv g_MOST_PRESSURE (by rfl)) pa_nil)))))))), ?_⟩
  unfold rPress pressureOf at ret
  refine ⟨_, rfl, ⟨_, rfl⟩, _, _, rfl, rfl, _, rfl, ?_⟩
  rw [startsT]
  refine iteB (fun e => ?_) (fun e => ?_)
  ·have e' : ¬ p.take 1 = [81] := of_decide_eq_false (nt e)
   rw [if_neg e'] at ret
   exact ret H (Same.refl H)
  ·have e' : p.take 1 = [81] := of_decide_eq_true (nf e)
   rw [if_pos e'] at ret
   exact ⟨_, rfl, _, rfl, _, rfl, hp.size, p.drop 1, 4, 850, 1100, by rw [cut_S, cut_drop 1 1 rfl]; rfl, hp.drop 1, by decide, ret⟩
abbrev st_plain_sky_of : Stmt := top 41
theorem sc_plain_sky_of : FnScope ["word", "hundreds"] ["word"] (defScope st_plain_sky_of) := ⟨rfl, rfl, rfl, by decide +kernel, rfl, by decide +kernel, by decide +kernel⟩
theorem kn_plain (N : TopFn K mg "plain_sky_of" st_plain_sky_of) (g_CLEAR_WORD : GV mg "CLEAR_WORD" (.str (Str.ofString "NSC"))) (g_MOST_UPRIGHT : GV mg "MOST_UPRIGHT" (.int 100)) (g_CLEAR : GV mg "CLEAR" (.int 0)) (g_UPRIGHT : GV mg "UPRIGHT" (.int 1)) (kn_number_within : Known P w K mg base CX0 1 "number_within" ["part", "size", "lowest", "highest"] spNW) : Known P w K mg base CX0 2 "plain_sky_of" ["word"] (sp1 rPlain) := by
 refine known_of N (fun _ _ _ _ _ _ us hl => match us, hl with | [_], _ => rfl) fun f fd Fu => ?_
 refine Fu.ok sc_plain_sky_of (fun vs H Q E h => ?_) (fun cdv A outer s H vs Q E hr h => ?_)
 ·obtain ⟨p, rfl, _⟩ := h
  rfl
 ·obtain ⟨p, rfl, hp, ret⟩ := h
  refine ⟨_, (pss_cons (ps_if (pt_cmpR op_eq (pv 0) (pe_gv g_CLEAR_WORD (by rfl)) (nomark _))
   (pss_one (ps_ret (pe_lst (pa_cons (pe_gv g_CLEAR (by rfl)) pa_nil))))
   pss_nil)
   (pss_cons (ps_if (pt_not (pt_val (pe_m1 PySem.F.slot_str_startswith PySem.F.type_str_startswith mt_startswith (pv 0) pe_str)))
   (pss_one (ps_ret pe_non))
   pss_nil)
   (pss_cons (ps_set (i := 1) sc_plain_sky_of.nd rfl (by first | exact Or.inl rfl | exact Or.inr rfl) (pe_kn kn_number_within (hr.mono (by decide)) rfl pass0 (pa_cons (pe_slice sl_str (pv 0) (po_some pe_int) po_none) (pa_cons pe_int (pa_cons pe_int (pa_cons (pe_gv g_MOST_UPRIGHT (by rfl)) pa_nil))))))
   (pss_one (ps_ret (pe_ifExp (pt_cmp (pc_isN (pv 1))) pe_non (pe_lst (pa_cons (pe_gv g_UPRIGHT (by rfl)) (pa_cons (pv 1) pa_nil))))))))), ?_⟩
  unfold rPlain plainSkyOf at ret
  refine ⟨_, rfl, rfl, _, rfl, ?_⟩
  rw [eqStr]
  refine iteB (fun e => ?_) (fun e => ?_)
  ·rw [if_pos (by simpa using e)] at ret
   exact ⟨(by show 1 ≤ sizeLine; decide), fun q hq => ret _ q (same_new (Same.refl H) hq) hq upd_same⟩
  ·rw [if_neg (by simpa using e)] at ret
   refine ⟨_, rfl, ⟨_, rfl⟩, _, _, rfl, rfl, _, rfl, ?_⟩
   rw [startsT]
   refine iteB (fun e2 => ?_) (fun e2 => ?_)
   ·have e' : ¬ p.take 2 = [86, 86] := of_decide_eq_false (nt e2)
    rw [if_neg e'] at ret
    exact ret H (Same.refl H)
   ·have e' : p.take 2 = [86, 86] := of_decide_eq_true (nf e2)
    rw [if_pos e'] at ret
    refine ⟨_, rfl, _, rfl, _, rfl, hp.size, p.drop 2, 3, 0, 100, by rw [cut_S, cut_drop 2 2 rfl]; rfl, hp.drop 2, by decide, ?_⟩
    cases e1 : nw (p.drop 2) 3 0 100 with
    | none =>
     rw [e1] at ret
     exact fun H1 s1 => ⟨_, rfl, _, rfl, ret H1 s1⟩
    | some n =>
     rw [e1] at ret
     exact fun H1 s1 => ⟨_, rfl, _, rfl, _, rfl, (by show 2 ≤ sizeLine; decide), fun q hq => ret _ q (same_new s1 hq) (s1.free hq) upd_same⟩
end
end My
end
section
set_option Elab.async false
set_option linter.all false
set_option maxRecDepth 100000
set_option maxHeartbeats 4000000
namespace My
open PySem PySem.Spec PyProof.Rows L2 TL
section
variable {P : Program} {w : World} {K : PySem.W.Frag} {mg : Str -> Option Value} {base : Heap}
def dirFits (n : Nat) : Bool := decide (10 ≤ n) && (decide (n ≤ 360) && (n % 10 == 0))
def spDF : Sp := fun vs H Q _ => ∃ n : Nat, vs = [.int n] /\ RetR H Q (.b (dirFits n))
theorem dir_eq (p : T) : directionOf p = match nw p 3 0 999 with
  | some n => if dirFits n = true then some n else none
  | none => none := by
 unfold directionOf nw dirFits
 cases e : Kwc.whole 3 p with
 | none => rfl
 | some n =>
  by_cases h1 : 10 ≤ n /\ n ≤ 360
  ·have h2 : 0 ≤ n /\ n ≤ 999 := ⟨Nat.zero_le _, by omega⟩
   simp only [if_pos h1, if_pos h2]
   simp [h1.1, h1.2]
  ·simp only [if_neg h1]
   by_cases h2 : 0 ≤ n /\ n ≤ 999
   ·simp only [if_pos h2]
    rw [if_neg (by intro z; simp at z; omega)]
   ·simp only [if_neg h2]
abbrev st_direction_fits : Stmt := top 72
theorem sc_direction_fits : FnScope ["degrees"] ["degrees"] (defScope st_direction_fits) := ⟨rfl, rfl, rfl, by decide +kernel, rfl, by decide +kernel, by decide +kernel⟩
theorem kn_dfits (N : TopFn K mg "direction_fits" st_direction_fits) : Known P w K mg base CX0 1 "direction_fits" ["degrees"] spDF := by
 refine known_of N (fun _ _ _ _ _ _ us hl => match us, hl with | [_], _ => rfl) fun f fd Fu => ?_
 refine Fu.ok sc_direction_fits (fun vs H Q E h => ?_) (fun cdv A outer s H vs Q E hr h => ?_)
 ·obtain ⟨n, rfl, _⟩ := h
  rfl
 ·obtain ⟨n, rfl, ret⟩ := h
  refine ⟨_, (pss_one (ps_ret (pe_and (pe_chain op_le op_le pe_int (pv 0) pe_int) (pe_one (pe_cmpR op_eq (pe_op op_mod (pv 0) pe_int) pe_int (nomark _)))))), ?_⟩
  unfold dirFits at ret
  refine ⟨_, rfl, _, _, rfl, rfl, _, rfl, ?_⟩
  have e10 : decide ((10 : Int) ≤ (n : Int)) = decide (10 ≤ n) := by rw [Bool.eq_iff_iff]; simp; omega
  have e36 : decide ((n : Int) ≤ 360) = decide (n ≤ 360) := by rw [Bool.eq_iff_iff]; simp; omega
  dsimp only
  rw [e10]
  refine iteB (fun e1 => ?_) (fun e1 => ?_)
  ·rw [e1, Bool.true_and] at ret
   refine ⟨_, _, rfl, rfl, _, rfl, ?_⟩
   rw [e36]
   refine iteB (fun e2 => ?_) (fun e2 => ?_)
   ·rw [e2, Bool.true_and] at ret
    refine ⟨_, rfl, _, _, rfl, rfl, (by show (0 : Int) < 10; decide), rfl, ?_⟩
    rw [dec_intV]
    have : decide ((n : Int) % 10 = 0) = (n % 10 == 0) := by
     rw [Bool.eq_iff_iff]; simp; omega
    rw [this]
    exact ret H (Same.refl H)
   ·rw [e2, Bool.false_and] at ret
    exact ret H (Same.refl H)
  ·rw [e1, Bool.false_and] at ret
   exact ⟨_, rfl, iteF (ret H (Same.refl H))⟩
abbrev st_direction_of : Stmt := top 73
theorem sc_direction_of : FnScope ["part", "degrees"] ["part"] (defScope st_direction_of) := ⟨rfl, rfl, rfl, by decide +kernel, rfl, by decide +kernel, by decide +kernel⟩
theorem kn_direction (N : TopFn K mg "direction_of" st_direction_of) (kn_number_within : Known P w K mg base CX0 1 "number_within" ["part", "size", "lowest", "highest"] spNW) (kn_direction_fits : Known P w K mg base CX0 1 "direction_fits" ["degrees"] spDF) : Known P w K mg base CX0 2 "direction_of" ["part"] (sp1 rDir) := by
 refine known_of N (fun _ _ _ _ _ _ us hl => match us, hl with | [_], _ => rfl) fun f fd Fu => ?_
 refine Fu.ok sc_direction_of (fun vs H Q E h => ?_) (fun cdv A outer s H vs Q E hr h => ?_)
 ·obtain ⟨p, rfl, _⟩ := h
  rfl
 ·obtain ⟨p, rfl, hp, ret⟩ := h
  refine ⟨_, (pss_cons (ps_set (i := 1) sc_direction_of.nd rfl (by first | exact Or.inl rfl | exact Or.inr rfl) (pe_kn kn_number_within (hr.mono (by decide)) rfl pass0 (pa_cons (pv 0) (pa_cons pe_int (pa_cons pe_int (pa_cons pe_int pa_nil))))))
   (pss_one (ps_ret (pe_ifExp (PW.pt (pw_and (pt_cmp (pc_notN (pv 1))) (pw_and1 (pt_val (pe_kn kn_direction_fits (hr.mono (by decide)) rfl pass0 (pa_cons (pv 1) pa_nil)))))) (pv 1) pe_non)))), ?_⟩
  unfold rDir at ret
  rw [dir_eq] at ret
  refine ⟨_, rfl, p, 3, 0, 999, rfl, hp, by decide, ?_⟩
  cases e1 : nw p 3 0 999 with
  | none =>
   rw [e1] at ret
   exact fun H1 s1 => ⟨_, rfl, _, rfl, ret H1 s1⟩
  | some n =>
   rw [e1] at ret
   refine fun H1 s1 => ⟨_, rfl, _, rfl, _, rfl, n, rfl, fun H2 s2 => ⟨_, rfl, ?_⟩⟩
   refine iteB (fun e2 => ?_) (fun e2 => ?_)
   ·simp only [e2] at ret
    exact ⟨_, rfl, ret H2 (s1.trans s2)⟩
   ·simp only [e2] at ret
    exact ret H2 (s1.trans s2)
abbrev st_wind_degrees : Stmt := top 74
theorem sc_wind_degrees : FnScope ["part"] ["part"] (defScope st_wind_degrees) := ⟨rfl, rfl, rfl, by decide +kernel, rfl, by decide +kernel, by decide +kernel⟩
theorem kn_wdeg (N : TopFn K mg "wind_degrees" st_wind_degrees) (g_VARIABLE : GV mg "VARIABLE" (.int 999)) (kn_direction_of : Known P w K mg base CX0 2 "direction_of" ["part"] (sp1 rDir)) : Known P w K mg base CX0 3 "wind_degrees" ["part"] (sp1 rWdeg) := by
 refine known_of N (fun _ _ _ _ _ _ us hl => match us, hl with | [_], _ => rfl) fun f fd Fu => ?_
 refine Fu.ok sc_wind_degrees (fun vs H Q E h => ?_) (fun cdv A outer s H vs Q E hr h => ?_)
 ·obtain ⟨p, rfl, _⟩ := h
  rfl
 ·obtain ⟨p, rfl, hp, ret⟩ := h
  refine ⟨_, (pss_cons (ps_if (pt_cmpR op_eq (pv 0) pe_str (nomark _))
   (pss_one (ps_ret (pe_gv g_VARIABLE (by rfl))))
   pss_nil)
   (pss_cons (ps_if (pt_cmpR op_eq (pv 0) pe_str (nomark _))
   (pss_one (ps_ret pe_int))
   pss_nil)
   (pss_one (ps_ret (pe_kn kn_direction_of (hr.mono (by decide)) rfl pass0 (pa_cons (pv 0) pa_nil)))))), ?_⟩
  unfold rWdeg windDegrees at ret
  refine ⟨_, rfl, rfl, _, rfl, ?_⟩
  rw [eqStr]
  refine iteB (fun e => ?_) (fun e => ?_)
  ·rw [if_pos (by simpa using e)] at ret
   exact ret H (Same.refl H)
  ·rw [if_neg (by simpa using e)] at ret
   refine ⟨_, rfl, rfl, _, rfl, ?_⟩
   rw [eqStr]
   refine iteB (fun e2 => ?_) (fun e2 => ?_)
   ·rw [if_pos (by simpa using e2)] at ret
    exact ret H (Same.refl H)
   ·rw [if_neg (by simpa using e2)] at ret
    exact ⟨_, rfl, p, rfl, hp, ret⟩
abbrev st_gusts_of : Stmt := top 75
theorem sc_gusts_of : FnScope ["part"] ["part"] (defScope st_gusts_of) := ⟨rfl, rfl, rfl, by decide +kernel, rfl, by decide +kernel, by decide +kernel⟩
theorem kn_gusts (N : TopFn K mg "gusts_of" st_gusts_of) (g_MOST_SPEED : GV mg "MOST_SPEED" (.int 99)) (kn_number_within : Known P w K mg base CX0 1 "number_within" ["part", "size", "lowest", "highest"] spNW) : Known P w K mg base CX0 2 "gusts_of" ["part"] (sp1 rGust) := by
 refine known_of N (fun _ _ _ _ _ _ us hl => match us, hl with | [_], _ => rfl) fun f fd Fu => ?_
 refine Fu.ok sc_gusts_of (fun vs H Q E h => ?_) (fun cdv A outer s H vs Q E hr h => ?_)
 ·obtain ⟨p, rfl, _⟩ := h
  rfl
 ·obtain ⟨p, rfl, hp, ret⟩ := h
  refine ⟨_, (pss_cons (ps_if (pt_cmpR op_eq (pv 0) pe_str (nomark _))
   (pss_one (ps_ret pe_int))
   pss_nil)
   (pss_cons (ps_if (pt_cmpR op_ne (pe_ix ix_str (pv 0) pe_int (fun _ _ => rfl)) pe_str (nomark _))
   (pss_one (ps_ret pe_non))
   pss_nil)
   (pss_one (ps_ret (pe_kn kn_number_within (hr.mono (by decide)) rfl pass0 (pa_cons (pe_slice sl_str (pv 0) (po_some pe_int) po_none) (pa_cons pe_int (pa_cons pe_int (pa_cons (pe_gv g_MOST_SPEED (by rfl)) pa_nil))))))))), ?_⟩
  unfold rGust gustsOf at ret
  refine ⟨_, rfl, rfl, _, rfl, ?_⟩
  rw [eqStr]
  refine iteB (fun e => ?_) (fun e => ?_)
  ·have he : p = [] := of_decide_eq_true e
   rw [if_pos he] at ret
   exact ret H (Same.refl H)
  ·have hne : p ≠ [] := of_decide_eq_false e
   rw [if_neg hne] at ret
   match p, hne, hp, ret with
   | c :: r, _, hp, ret =>
    refine ⟨_, rfl, S (c :: r), _, c, rfl, rfl, hp.size, at_of' (j := 0) rfl rfl, rfl, _, rfl, ?_⟩
    have e0 : decide (V.str ⟨#[c]⟩ = V.str (Str.ofString "G")) = decide ([c] = [71]) := by exact eqStr [c] "G"
    rw [e0]
    refine iteB (fun e2 => ?_) (fun e2 => ?_)
    ·rw [if_neg (by simpa using e2)] at ret
     exact ret H (Same.refl H)
    ·rw [if_pos (by simpa using e2)] at ret
     exact ⟨_, rfl, _, rfl, _, rfl, hp.size, r, 2, 1, 99, by rw [cut_S, cut_drop 1 1 rfl]; rfl, hp.drop 1, by decide, ret⟩
abbrev st_wind_fits : Stmt := top 76
theorem sc_wind_fits : FnScope ["degrees", "speed", "gusts"] ["degrees", "speed", "gusts"] (defScope st_wind_fits) := ⟨rfl, rfl, rfl, by decide +kernel, rfl, by decide +kernel, by decide +kernel⟩
theorem kn_wfits (N : TopFn K mg "wind_fits" st_wind_fits) : Known P w K mg base CX0 1 "wind_fits" ["degrees", "speed", "gusts"] spWF := by
 refine known_of N (fun _ _ _ _ _ _ us hl => match us, hl with | [_, _, _], _ => rfl) fun f fd Fu => ?_
 refine Fu.ok sc_wind_fits (fun vs H Q E h => ?_) (fun cdv A outer s H vs Q E hr h => ?_)
 ·obtain ⟨d, t, g, rfl, _⟩ := h
  rfl
 ·obtain ⟨d, t, g, rfl, ret⟩ := h
  refine ⟨_, (pss_cons (ps_if (pt_cmpR op_eq (pv 1) pe_int (nomark _))
   (pss_one (ps_ret (pe_and (pe_cmpR op_eq (pv 0) pe_int (nomark _)) (pe_one (pe_cmpR op_eq (pv 2) pe_int (nomark _))))))
   pss_nil)
   (pss_one (ps_ret (pe_and (pe_cmpR op_ne (pv 0) pe_int (nomark _)) (pe_one (pe_or (pe_cmpR op_eq (pv 2) pe_int (nomark _)) (pe_one (pe_cmpR op_gt (pv 2) (pv 1) (nomark _))))))))), ?_⟩
  unfold windFits at ret
  have z0 : ∀ n : Nat, decide (V.int (n : Int) = V.int 0) = (n == 0) := fun n => by rw [dec_intV, Bool.eq_iff_iff]; simp
  refine ⟨_, rfl, rfl, _, rfl, ?_⟩
  rw [z0]
  refine iteB (fun e => ?_) (fun e => ?_)
  ·rw [if_pos (by simpa using e)] at ret
   refine ⟨_, rfl, rfl, _, rfl, ?_⟩
   rw [z0]
   refine iteB (fun e2 => ?_) (fun e2 => ?_)
   ·rw [e2, Bool.true_and] at ret
    refine ⟨_, rfl, rfl, ?_⟩
    rw [z0]
    exact ret H (Same.refl H)
   ·rw [e2, Bool.false_and] at ret
    exact ret H (Same.refl H)
  ·rw [if_neg (by simpa using e)] at ret
   refine ⟨_, rfl, rfl, _, rfl, ?_⟩
   rw [z0]
   refine iteB (fun e2 => ?_) (fun e2 => ?_)
   ·have : (d != 0) = true := e2
    rw [this, Bool.true_and] at ret
    refine ⟨_, rfl, rfl, _, rfl, ?_⟩
    rw [z0]
    refine iteB (fun e3 => ?_) (fun e3 => ?_)
    ·rw [e3, Bool.true_or] at ret
     exact ret H (Same.refl H)
    ·rw [e3, Bool.false_or] at ret
     refine ⟨_, rfl, _, rfl, _, _, rfl, rfl, ?_⟩
     show Q (.bl (decide ((t : Int) < (g : Int)))) H
     have : decide ((t : Int) < (g : Int)) = decide (t < g) := by rw [Bool.eq_iff_iff]; simp
     rw [this]
     exact ret H (Same.refl H)
   ·have : (d != 0) = false := e2
    rw [this, Bool.false_and] at ret
    exact ret H (Same.refl H)
end
end My
end
section
set_option Elab.async false
set_option linter.all false
set_option maxRecDepth 100000
set_option maxHeartbeats 4000000
namespace My
open PySem PySem.Spec PyProof.Rows L2 TL
theorem retO {H : Hp} {Q : VK} {o : Option Nat} (h : ∀ H', Same H H' -> Q (optV o) H') : RetR H Q (optI o) := by cases o <;> exact h
abbrev optVz : Option Int -> V
 | none => .non
 | some n => .int n
theorem retZ {H : Hp} {Q : VK} {o : Option Int} (h : ∀ H', Same H H' -> Q (optVz o) H') : RetR H Q (optZ o) := by cases o <;> exact h
theorem endsKT (w : T) : Txt.endswith (S w) (Str.ofString "KT") = decide (w.drop (w.length - 2) = [75, 84]) := by
 rw [ofS "KT", ends_S w (Kwc.text "KT") (.inr trivial)]
 show decide (2 ≤ w.length /\ w.drop (w.length - 2) = [75, 84]) = _
 by_cases h : w.drop (w.length - 2) = [75, 84]
 ·have : 2 ≤ w.length := by
   have e := congrArg List.length h
   rw [List.length_drop] at e
   simp at e
   omega
  rw [decide_eq_true h, decide_eq_true ⟨this, h⟩]
 ·rw [decide_eq_false h, decide_eq_false fun z => h z.2]
theorem manner_ix (w : T) : changeMannerOf w = if [Kwc.text "BECMG", Kwc.text "TEMPO"].contains w then some ([Kwc.text "BECMG", Kwc.text "TEMPO"].idxOf w + 1) else none := by
 unfold changeMannerOf
 by_cases h1 : w = Kwc.text "BECMG"
 ·subst h1; rfl
 ·by_cases h2 : w = Kwc.text "TEMPO"
  ·subst h2; rfl
  ·rw [if_neg h1, if_neg h2, if_neg]
   simp [h1, h2]
def degPair (x y : Option Int) : Option (Int × Int) := match x, y with
 | some t, some d => if t < d then none else some (t, d)
 | _, _ => none
theorem degreesOf_two {p a b : T} (h : My.spl 47 [] p = [a, b]) : degreesOf p = degPair (degreeOf a) (degreeOf b) := by unfold degreesOf; rw [h]; rfl
theorem degreesOf_ne {p : T} (h : (My.spl 47 [] p).length ≠ 2) : degreesOf p = none := by
 unfold degreesOf
 split
 ·rename_i a b q2; rw [q2] at h; exact absurd rfl h
 ·rfl
section
variable {P : Program} {w : World} {K : PySem.W.Frag} {mg : Str -> Option Value} {base : Heap}
abbrev st_wind_of : Stmt := top 77
theorem sc_wind_of : FnScope ["word", "body", "degrees", "speed", "gusts"] ["word"] (defScope st_wind_of) := ⟨rfl, rfl, rfl, by decide +kernel, rfl, by decide +kernel, by decide +kernel⟩
theorem kn_wind (N : TopFn K mg "wind_of" st_wind_of) (g_MOST_SPEED : GV mg "MOST_SPEED" (.int 99)) (kn_number_within : Known P w K mg base CX0 1 "number_within" ["part", "size", "lowest", "highest"] spNW) (kn_wind_degrees : Known P w K mg base CX0 3 "wind_degrees" ["part"] (sp1 rWdeg))
  (kn_gusts_of : Known P w K mg base CX0 2 "gusts_of" ["part"] (sp1 rGust)) (kn_wind_fits : Known P w K mg base CX0 1 "wind_fits" ["degrees", "speed", "gusts"] spWF) : Known P w K mg base CX0 4 "wind_of" ["word"] (sp1 rWind) := by
 refine known_of N (fun _ _ _ _ _ _ us hl => match us, hl with | [_], _ => rfl) fun f fd Fu => ?_
 refine Fu.ok sc_wind_of (fun vs H Q E h => ?_) (fun cdv A outer s H vs Q E hr h => ?_)
 ·obtain ⟨p, rfl, _⟩ := h
  rfl
 ·obtain ⟨p, rfl, hp, ret⟩ := h
  refine ⟨_, (pss_cons (ps_if (pt_not (pt_val (pe_m1 PySem.F.slot_str_endswith PySem.F.type_str_endswith mt_endswith (pv 0) pe_str)))
   (pss_one (ps_ret pe_non))
   pss_nil)
   (pss_cons (ps_set (i := 1) sc_wind_of.nd rfl (by first | exact Or.inl rfl | exact Or.inr rfl) (pe_slice sl_str (pv 0) po_none (po_some (pe_un un_neg pe_int))))
   (pss_cons (ps_set (i := 2) sc_wind_of.nd rfl (by first | exact Or.inl rfl | exact Or.inr rfl) (pe_kn kn_wind_degrees (hr.mono (by decide)) rfl pass0 (pa_cons (pe_slice sl_str (pv 1) po_none (po_some pe_int)) pa_nil)))
   (pss_cons (ps_set (i := 3) sc_wind_of.nd rfl (by first | exact Or.inl rfl | exact Or.inr rfl) (pe_kn kn_number_within (hr.mono (by decide)) rfl pass0 (pa_cons (pe_slice sl_str (pv 1) (po_some pe_int) (po_some pe_int)) (pa_cons pe_int (pa_cons pe_int (pa_cons (pe_gv g_MOST_SPEED (by rfl)) pa_nil))))))
   (pss_cons (ps_set (i := 4) sc_wind_of.nd rfl (by first | exact Or.inl rfl | exact Or.inr rfl) (pe_kn kn_gusts_of (hr.mono (by decide)) rfl pass0 (pa_cons (pe_slice sl_str (pv 1) (po_some pe_int) po_none) pa_nil)))
   (pss_cons (ps_if (PW.pt (pw_or (pt_cmp (pc_isN (pv 2))) (pw_or (pt_cmp (pc_isN (pv 3))) (pw_or1 (pt_cmp (pc_isN (pv 4)))))))
   (pss_one (ps_ret pe_non))
   pss_nil)
   (pss_one (ps_ret (pe_ifExp (pt_val (pe_kn kn_wind_fits (hr.mono (by decide)) rfl pass0 (pa_cons (pv 2) (pa_cons (pv 3) (pa_cons (pv 4) pa_nil))))) (pe_lst (pa_cons (pv 2) (pa_cons (pv 3) (pa_cons (pv 4) pa_nil)))) pe_non))))))))), ?_⟩
  unfold rWind windOf at ret
  refine ⟨_, rfl, ⟨_, rfl⟩, _, _, rfl, rfl, _, rfl, ?_⟩
  rw [endsKT]
  refine iteB (fun e => ?_) (fun e => ?_)
  ·rw [if_neg (of_decide_eq_false (nt e))] at ret
   exact ret H (Same.refl H)
  ·rw [if_pos (of_decide_eq_true (nf e))] at ret
   refine ⟨_, rfl, _, rfl, _, rfl, _, rfl, hp.size, ?_⟩
   have eb : cutS (S p) none (some (-2)) = S (p.take (p.length - 2)) := by rw [cut_S, cut_neg (-2) 2 (by decide) rfl]
   show (tSeq _ _) _ _ _
   revert ret
   have hb := hp.take (p.length - 2)
   rw [eb]
   generalize p.take (p.length - 2) = b at hb
   intro ret
   refine ⟨_, rfl, _, rfl, _, rfl, hb.size, b.take 3, by rw [cut_S, cut_take 3 3 rfl]; rfl, hb.take 3, retO fun H1 s1 => ?_⟩
   refine ⟨_, rfl, _, rfl, _, rfl, _, rfl, hb.size, (b.drop 3).take 2, 2, 0, 99, by rw [cut_S, cut_mid 3 5 3 5 rfl rfl]; rfl, (hb.drop 3).take 2, by decide, retO fun H2 s2 => ?_⟩
   refine ⟨_, rfl, _, rfl, _, rfl, hb.size, b.drop 5, by rw [cut_S, cut_drop 5 5 rfl]; rfl, hb.drop 5, retO fun H3 s3 => ?_⟩
   have ss := (s1.trans s2).trans s3
   refine ⟨_, rfl, _, rfl, ?_⟩
   cases e1 : windDegrees (b.take 3) with
   | none =>
    rw [e1] at ret
    exact ret H3 ss
   | some d =>
    refine ⟨_, rfl, _, rfl, ?_⟩
    cases e2 : nw ((b.drop 3).take 2) 2 0 99 with
    | none =>
     rw [e1, e2] at ret
     exact ret H3 ss
    | some t =>
     refine ⟨_, rfl, _, rfl, ?_⟩
     cases e3 : gustsOf (b.drop 5) with
     | none =>
      rw [e1, e2, e3] at ret
      exact ret H3 ss
     | some g =>
      rw [e1, e2, e3] at ret
      refine ⟨_, rfl, _, rfl, _, rfl, d, t, g, rfl, fun H4 s4 => ⟨_, rfl, ?_⟩⟩
      refine iteB (fun e4 => ?_) (fun e4 => ?_)
      ·simp only [e4] at ret
       refine ⟨_, rfl, _, rfl, _, rfl, (by show 3 ≤ sizeLine; decide), fun q hq => ?_⟩
       exact ret _ q (same_new (ss.trans s4) hq) ((ss.trans s4).free hq) upd_same
      ·simp only [e4] at ret
       exact ret H4 (ss.trans s4)
abbrev st_sector_of : Stmt := top 79
theorem sc_sector_of : FnScope ["word", "start", "end"] ["word"] (defScope st_sector_of) := ⟨rfl, rfl, rfl, by decide +kernel, rfl, by decide +kernel, by decide +kernel⟩
theorem kn_sector (N : TopFn K mg "sector_of" st_sector_of) (B : Bt mg) (kn_direction_of : Known P w K mg base CX0 2 "direction_of" ["part"] (sp1 rDir)) : Known P w K mg base CX0 3 "sector_of" ["word"] (sp1 rSector) := by
 refine known_of N (fun _ _ _ _ _ _ us hl => match us, hl with | [_], _ => rfl) fun f fd Fu => ?_
 refine Fu.ok sc_sector_of (fun vs H Q E h => ?_) (fun cdv A outer s H vs Q E hr h => ?_)
 ·obtain ⟨p, rfl, _⟩ := h
  rfl
 ·obtain ⟨p, rfl, hp, ret⟩ := h
  refine ⟨_, (pss_cons (ps_if (PW.pt (pw_or (pt_cmpR op_ne (pe_callB call_len_str (by rfl) B.len PySem.boot_len (pa_cons (pv 0) pa_nil)) pe_int (nomark _)) (pw_or1 (pt_cmpR op_ne (pe_ix ix_str (pv 0) pe_int (fun _ _ => rfl)) pe_str (nomark _)))))
   (pss_one (ps_ret pe_non))
   pss_nil)
   (pss_cons (ps_set (i := 1) sc_sector_of.nd rfl (by first | exact Or.inl rfl | exact Or.inr rfl) (pe_kn kn_direction_of (hr.mono (by decide)) rfl pass0 (pa_cons (pe_slice sl_str (pv 0) po_none (po_some pe_int)) pa_nil)))
   (pss_cons (ps_set (i := 2) sc_sector_of.nd rfl (by first | exact Or.inl rfl | exact Or.inr rfl) (pe_kn kn_direction_of (hr.mono (by decide)) rfl pass0 (pa_cons (pe_slice sl_str (pv 0) (po_some pe_int) po_none) pa_nil)))
   (pss_cons (ps_if (PW.pt (pw_or (pt_cmp (pc_isN (pv 1))) (pw_or (pt_cmp (pc_isN (pv 2))) (pw_or1 (pt_cmpR op_eq (pv 1) (pv 2) (nomark _))))))
   (pss_one (ps_ret pe_non))
   pss_nil)
   (pss_one (ps_ret (pe_lst (pa_cons (pv 1) (pa_cons (pv 2) pa_nil))))))))), ?_⟩
  unfold rSector sectorOf at ret
  refine ⟨_, rfl, _, rfl, hp.size, rfl, _, rfl, ?_⟩
  rw [dec_intV, S_len]
  refine iteB (fun e => ?_) (fun e => ?_)
  ·rw [if_neg (fun z => by have := z.1; simp at e; omega)] at ret
   exact ret H (Same.refl H)
  ·have h7 : p.length = 7 := by simp at e; omega
   have h3 : p[3]? = some (p.getD 3 0) := by
    rw [List.getD_eq_getElem?_getD, List.getElem?_eq_getElem (show 3 < p.length by omega)]; rfl
   refine ⟨_, rfl, S p, _, p.getD 3 0, rfl, rfl, hp.size, at_of' (j := 3) rfl h3, rfl, _, rfl, ?_⟩
   have e0 : decide (V.str ⟨#[p.getD 3 0]⟩ = V.str (Str.ofString "V")) = decide ([p.getD 3 0] = [86]) := eqStr [p.getD 3 0] "V"
   rw [e0]
   refine iteB (fun e2 => ?_) (fun e2 => ?_)
   ·have n86 := of_decide_eq_false (nt e2)
    rw [if_neg (fun z => n86 (by rw [z.2]))] at ret
    exact ret H (Same.refl H)
   ·have y86 := of_decide_eq_true (nf e2)
    rw [if_pos ⟨h7, (List.cons.inj y86).1⟩] at ret
    refine ⟨_, rfl, _, rfl, _, rfl, hp.size, p.take 3, by rw [cut_S, cut_take 3 3 rfl]; rfl, hp.take 3, retO fun H1 s1 => ?_⟩
    refine ⟨_, rfl, _, rfl, _, rfl, hp.size, p.drop 4, by rw [cut_S, cut_drop 4 4 rfl]; rfl, hp.drop 4, retO fun H2 s2 => ?_⟩
    refine ⟨_, rfl, _, rfl, ?_⟩
    cases e1 : directionOf (p.take 3) with
    | none =>
     rw [e1] at ret
     exact ret H2 (s1.trans s2)
    | some a =>
     refine ⟨_, rfl, _, rfl, ?_⟩
     cases e3 : directionOf (p.drop 4) with
     | none =>
      rw [e1, e3] at ret
      exact ret H2 (s1.trans s2)
     | some b =>
      rw [e1, e3] at ret
      refine ⟨_, rfl, _, rfl, rfl, _, rfl, ?_⟩
      rw [dec_intV]
      refine iteB (fun e4 => ?_) (fun e4 => ?_)
      ·simp only [if_pos (show a = b by simp at e4; omega)] at ret
       exact ret H2 (s1.trans s2)
      ·simp only [if_neg (show ¬ a = b by simp at e4; omega)] at ret
       refine ⟨_, rfl, _, rfl, (by show 2 ≤ sizeLine; decide), fun q hq => ?_⟩
       exact ret _ q (same_new (s1.trans s2) hq) ((s1.trans s2).free hq) upd_same
abbrev st_degrees_of : Stmt := top 26
theorem sc_degrees_of : FnScope ["word", "parts", "upper", "lower"] ["word"] (defScope st_degrees_of) := ⟨rfl, rfl, rfl, by decide +kernel, rfl, by decide +kernel, by decide +kernel⟩
theorem kn_degrees (N : TopFn K mg "degrees_of" st_degrees_of) (B : Bt mg) (kn_degree_of : Known P w K mg base CX0 2 "degree_of" ["part"] (sp1 rDegree)) : Known P w K mg base CX0 3 "degrees_of" ["word"] (sp1 rDegrees) := by
 refine known_of N (fun _ _ _ _ _ _ us hl => match us, hl with | [_], _ => rfl) fun f fd Fu => ?_
 refine Fu.ok sc_degrees_of (fun vs H Q E h => ?_) (fun cdv A outer s H vs Q E hr h => ?_)
 ·obtain ⟨p, rfl, _⟩ := h
  rfl
 ·obtain ⟨p, rfl, hp, ret⟩ := h
  refine ⟨_, (pss_cons (ps_set (i := 1) sc_degrees_of.nd rfl (by first | exact Or.inl rfl | exact Or.inr rfl) (pe_split (pv 0) pe_str))
   (pss_cons (ps_if (pt_cmpR op_ne (pe_callB call_len_seq (by rfl) B.len PySem.boot_len (pa_cons (pv 1) pa_nil)) pe_int (nomark _))
   (pss_one (ps_ret pe_non))
   pss_nil)
   (pss_cons (ps_set (i := 2) sc_degrees_of.nd rfl (by first | exact Or.inl rfl | exact Or.inr rfl) (pe_kn kn_degree_of (hr.mono (by decide)) rfl pass0 (pa_cons (pe_ix ix_list (pv 1) pe_int (fun _ _ => rfl)) pa_nil)))
   (pss_cons (ps_set (i := 3) sc_degrees_of.nd rfl (by first | exact Or.inl rfl | exact Or.inr rfl) (pe_kn kn_degree_of (hr.mono (by decide)) rfl pass0 (pa_cons (pe_ix ix_list (pv 1) pe_int (fun _ _ => rfl)) pa_nil)))
   (pss_cons (ps_if (PW.pt (pw_or (pt_cmp (pc_isN (pv 2))) (pw_or (pt_cmp (pc_isN (pv 3))) (pw_or1 (pt_cmpR op_gt (pv 3) (pv 2) (nomark _))))))
   (pss_one (ps_ret pe_non))
   pss_nil)
   (pss_one (ps_ret (pe_lst (pa_cons (pv 2) (pa_cons (pv 3) pa_nil)))))))))), ?_⟩
  unfold rDegrees at ret
  refine ⟨_, rfl, ⟨_, rfl⟩, _, _, rfl, rfl, rfl, (by rw [S_len]; have := hp.ln; exact Nat.le_trans (Nat.add_le_add_right this 2) (by decide)), fun q hq => ?_⟩
  have es : (Txt.split (S p) (Str.ofString "/")).map V.str = (My.spl 47 [] p).map strV := by
   rw [ofS "/", show Kwc.text "/" = [47] from rfl, split_S p 47 (by decide), List.map_map]
   rfl
  rw [es]
  have s0 : Same H (upd H q (.lst ((My.spl 47 [] p).map strV))) := same_new (Same.refl H) hq
  refine ⟨_, rfl, q, _, rfl, .inl (SqL.of upd_same), rfl, _, rfl, ?_⟩
  rw [dec_intV, List.length_map]
  refine iteB (fun e => ?_) (fun e => ?_)
  ·have hne : (My.spl 47 [] p).length ≠ 2 := by simp at e; omega
   rw [degreesOf_ne hne] at ret
   exact ret _ s0
  ·have h2 : (My.spl 47 [] p).length = 2 := by simp at e; omega
   have hpl := spl_plain (c := 47) hp
   match hsp : My.spl 47 [] p, h2, hpl with
   | [a, b], _, hpl =>
    rw [degreesOf_two hsp] at ret
    rw [hsp] at s0
    refine ⟨_, rfl, q, _, _, _, rfl, rfl, SqL.of upd_same, at_of (j := 0) rfl rfl, a, rfl, hpl a (by simp), retZ fun H1 s1 => ?_⟩
    refine ⟨_, rfl, q, _, _, _, rfl, rfl, SqL.of (s1 _ _ upd_same), at_of (j := 1) rfl rfl, b, rfl, hpl b (by simp), retZ fun H2 s2 => ?_⟩
    have ss := (s0.trans s1).trans s2
    refine ⟨_, rfl, _, rfl, ?_⟩
    cases e1 : degreeOf a with
    | none =>
     rw [e1] at ret
     exact ret H2 ss
    | some t =>
     refine ⟨_, rfl, _, rfl, ?_⟩
     cases e2 : degreeOf b with
     | none =>
      rw [e1, e2] at ret
      exact ret H2 ss
     | some d =>
      rw [e1, e2] at ret
      refine ⟨_, rfl, _, rfl, _, _, rfl, rfl, _, rfl, ?_⟩
      refine iteB (fun e4 => ?_) (fun e4 => ?_)
      ·simp only [degPair, if_pos (of_decide_eq_true e4)] at ret
       exact ret H2 ss
      ·simp only [degPair, if_neg (of_decide_eq_false e4)] at ret
       refine ⟨_, rfl, _, rfl, (by show 2 ≤ sizeLine; decide), fun z hz => ?_⟩
       exact ret _ z (same_new ss hz) (ss.free hz) upd_same
abbrev st_layer_of : Stmt := top 42
theorem sc_layer_of : FnScope ["word", "cover", "hundreds", "cloud"] ["word"] (defScope st_layer_of) := ⟨rfl, rfl, rfl, by decide +kernel, rfl, by decide +kernel, by decide +kernel⟩
abbrev coversT : List T := [Kwc.text "FEW", Kwc.text "SCT", Kwc.text "BKN", Kwc.text "OVC"]
abbrev cloudsT : List T := [Kwc.text "", Kwc.text "CB", Kwc.text "TCU"]
theorem kn_layer (N : TopFn K mg "layer_of" st_layer_of) (g_MOST_HUNDREDS : GV mg "MOST_HUNDREDS" (.int 300)) (gC : TG K mg "COVERS" coversT) (gK : TG K mg "CLOUDS" cloudsT) (kn_number_within : Known P w K mg base CX0 1 "number_within" ["part", "size", "lowest", "highest"] spNW) : Known P w K mg base CX0 2 "layer_of" ["word"] (sp1 rLayer) := by
 obtain ⟨aC, g_COVERS, sqC, oC, lC1, lC2, lC3⟩ := gC.get
 obtain ⟨aK, g_CLOUDS, sqK, oK, lK1, lK2, lK3⟩ := gK.get
 refine known_of N (fun _ _ _ _ _ _ us hl => match us, hl with | [_], _ => rfl) fun f fd Fu => ?_
 refine Fu.ok sc_layer_of (fun vs H Q E h => ?_) (fun cdv A outer s H vs Q E hr h => ?_)
 ·obtain ⟨p, rfl, _⟩ := h
  rfl
 ·obtain ⟨p, rfl, hp, ret⟩ := h
  refine ⟨_, (pss_cons (ps_set (i := 1) sc_layer_of.nd rfl (by first | exact Or.inl rfl | exact Or.inr rfl) (pe_slice sl_str (pv 0) po_none (po_some pe_int)))
   (pss_cons (ps_set (i := 2) sc_layer_of.nd rfl (by first | exact Or.inl rfl | exact Or.inr rfl) (pe_kn kn_number_within (hr.mono (by decide)) rfl pass0 (pa_cons (pe_slice sl_str (pv 0) (po_some pe_int) (po_some pe_int)) (pa_cons pe_int (pa_cons pe_int (pa_cons (pe_gv g_MOST_HUNDREDS (by rfl)) pa_nil))))))
   (pss_cons (ps_set (i := 3) sc_layer_of.nd rfl (by first | exact Or.inl rfl | exact Or.inr rfl) (pe_slice sl_str (pv 0) (po_some pe_int) po_none))
   (pss_cons (ps_if (PW.pt (pw_or (pt_cmpR op_notIn_seq (pv 1) (pe_gv g_COVERS (by rfl)) (by rfl)) (pw_or (pt_cmp (pc_isN (pv 2))) (pw_or1 (pt_cmpR op_notIn_seq (pv 3) (pe_gv g_CLOUDS (by rfl)) (by rfl))))))
   (pss_one (ps_ret pe_non))
   pss_nil)
   (pss_one (ps_ret (pe_lst (pa_cons (pe_op op_add (pe_bm PySem.F.plainAttrs_tuple PySem.F.slot_tuple_index PySem.F.type_tuple_index mt_indexT (pe_gv g_COVERS (by rfl)) (pa_cons (pv 1) pa_nil)) pe_int) (pa_cons (pv 2) (pa_cons (pe_bm PySem.F.plainAttrs_tuple PySem.F.slot_tuple_index PySem.F.type_tuple_index mt_indexT (pe_gv g_CLOUDS (by rfl)) (pa_cons (pv 3) pa_nil)) pa_nil)))))))))), ?_⟩
  unfold rLayer layerOf at ret
  rw [place_eq, place_eq] at ret
  have eA : (Kwc.amounts.drop 1).map Kwc.text = coversT := rfl
  have eB : Kwc.cloudKinds.map Kwc.text = cloudsT := rfl
  rw [eA, eB] at ret
  have c1 : cutS (S p) none (some 3) = S (p.take 3) := by rw [cut_S, cut_take 3 3 rfl]
  have c6 : cutS (S p) (some 6) none = S (p.drop 6) := by rw [cut_S, cut_drop 6 6 rfl]
  refine ⟨_, rfl, _, rfl, _, rfl, hp.size, ?_⟩
  refine ⟨_, rfl, _, rfl, _, rfl, _, rfl, hp.size, (p.drop 3).take 3, 3, 0, 300, by rw [cut_S, cut_mid 3 6 3 6 rfl rfl]; rfl, (hp.drop 3).take 3, by decide, retO fun H1 s1 => ?_⟩
  refine ⟨_, rfl, _, rfl, _, rfl, hp.size, ?_⟩
  rw [c1, c6]
  refine ⟨_, rfl, aC, _, rfl, .inr (sqC H1), rfl, flat_strs _, _, rfl, ?_⟩
  rw [if_pos rfl, inV_S]
  refine iteB (fun e => ?_) (fun e => ?_)
  ·simp only [nt e] at ret
   exact ret H1 s1
  ·have hc := nf e
   simp only [hc, if_true] at ret
   refine ⟨_, rfl, _, rfl, ?_⟩
   cases e1 : nw ((p.drop 3).take 3) 3 0 300 with
   | none =>
    rw [e1] at ret
    exact ret H1 s1
   | some n =>
    rw [e1] at ret
    refine ⟨_, rfl, aK, _, rfl, .inr (sqK H1), rfl, flat_strs _, _, rfl, ?_⟩
    rw [if_pos rfl, inV_S]
    refine iteB (fun e2 => ?_) (fun e2 => ?_)
    ·simp only [nt e2] at ret
     exact ret H1 s1
    ·have hk := nf e2
     simp only [hk, if_true] at ret
     refine ⟨.inr (.inl ⟨rfl, oC, lC1, lC2, lC3⟩), _, rfl, ?_⟩
     dsimp only [tNil, tCons]
     refine idx_read (c := p.take 3) (sqC H1) (by simpa using hc) ?_
     refine ⟨_, _, rfl, rfl, _, rfl, ?_⟩
     refine ⟨.inr (.inl ⟨rfl, oK, lK1, lK2, lK3⟩), _, rfl, ?_⟩
     dsimp only [tNil, tCons]
     refine idx_read (c := p.drop 6) (sqK H1) (by simpa using hk) ?_
     refine ⟨(by show 3 ≤ sizeLine; decide), fun q hq => ?_⟩
     exact ret _ q (same_new s1 hq) (s1.free hq) upd_same
abbrev st_change_manner_of : Stmt := top 89
theorem sc_change_manner_of : FnScope ["word"] ["word"] (defScope st_change_manner_of) := ⟨rfl, rfl, rfl, by decide +kernel, rfl, by decide +kernel, by decide +kernel⟩
theorem kn_manner (N : TopFn K mg "change_manner_of" st_change_manner_of) (gM : TG K mg "MANNERS_OF_CHANGE" [Kwc.text "BECMG", Kwc.text "TEMPO"]) : Known P w K mg base CX0 1 "change_manner_of" ["word"] (sp1 rManner) := by
 obtain ⟨aC, g_MANNERS_OF_CHANGE, sqC, oC, lC1, lC2, lC3⟩ := gM.get
 refine known_of N (fun _ _ _ _ _ _ us hl => match us, hl with | [_], _ => rfl) fun f fd Fu => ?_
 refine Fu.ok sc_change_manner_of (fun vs H Q E h => ?_) (fun cdv A outer s H vs Q E hr h => ?_)
 ·obtain ⟨p, rfl, _⟩ := h
  rfl
 ·obtain ⟨p, rfl, hp, ret⟩ := h
  refine ⟨_, (pss_one (ps_ret (pe_ifExp (pt_cmpR op_in_seq (pv 0) (pe_gv g_MANNERS_OF_CHANGE (by rfl)) (by rfl)) (pe_op op_add (pe_bm PySem.F.plainAttrs_tuple PySem.F.slot_tuple_index PySem.F.type_tuple_index mt_indexT (pe_gv g_MANNERS_OF_CHANGE (by rfl)) (pa_cons (pv 0) pa_nil)) pe_int) pe_non))), ?_⟩
  unfold rManner at ret
  rw [manner_ix] at ret
  refine ⟨_, rfl, aC, _, rfl, .inr (sqC H), rfl, flat_strs _, _, rfl, ?_⟩
  rw [if_neg (by decide), inV_S]
  refine iteB (fun e => ?_) (fun e => ?_)
  ·rw [if_pos e] at ret
   refine ⟨.inr (.inl ⟨rfl, oC, lC1, lC2, lC3⟩), _, rfl, ?_⟩
   dsimp only [tNil, tCons]
   refine idx_read (c := p) (sqC H) (by simpa using e) ?_
   refine ⟨_, _, rfl, rfl, ?_⟩
   exact ret H (Same.refl H)
  ·rw [if_neg (by rw [e]; decide)] at ret
   exact ret H (Same.refl H)
abbrev st_station_of : Stmt := top 17
theorem sc_station_of : FnScope ["word", "letter"] ["word"] (defScope st_station_of) := ⟨rfl, rfl, rfl, by decide +kernel, rfl, by decide +kernel, by decide +kernel⟩
abbrev lettersT : T := Kwc.text "ABCDEFGHIJKLMNOPQRSTUVWXYZ"
theorem letters_mem (c : Nat) : decide (c ∈ lettersT) = Kwc.letter c := by
 by_cases h : c < 91
 ·have : ∀ c, c < 91 -> decide (c ∈ lettersT) = Kwc.letter c := by decide
  exact this c h
 ·have h1 : Kwc.letter c = false := by simp [Kwc.letter]; omega
  have h2 : c ∉ lettersT := fun hm => by
   have : ∀ x ∈ lettersT, x < 91 := by decide
   exact h (this c hm)
  rw [h1, decide_eq_false h2]
theorem all_map_id {A : Type} (f : A -> Bool) : ∀ l : List A, (l.map f).all id = l.all f := fun l => by rw [List.all_map]; rfl
theorem kn_station (N : TopFn K mg "station_of" st_station_of) (B : Bt mg) (g_LETTERS : GV mg "LETTERS" (strV lettersT)) : Known P w K mg base CX0 1 "station_of" ["word"] (sp1 rStation) := by
 refine known_of N (fun _ _ _ _ _ _ us hl => match us, hl with | [_], _ => rfl) fun f fd Fu => ?_
 refine Fu.ok sc_station_of (fun vs H Q E h => ?_) (fun cdv A outer s H vs Q E hr h => ?_)
 ·obtain ⟨p, rfl, _⟩ := h
  rfl
 ·obtain ⟨p, rfl, hp, ret⟩ := h
  refine ⟨_, (pss_cons (ps_if (PW.pt (pw_or (pt_cmpR op_ne (pe_callB call_len_str (by rfl) B.len PySem.boot_len (pa_cons (pv 0) pa_nil)) pe_int (nomark _)) (pw_or1 (pt_not (pt_val (pe_callB (call_allB rfl) (by rfl) B.all bt_all (pa_cons (pe_lc rfl sc_station_of.nd (pi_str (pv 0)) (blkOk_by (own := [("letter", 1)]) (by kernel_rfl)) (fun _ _ _ _ _ => pg_name (i := 1) sc_station_of.nd rfl (Or.inl rfl)) (fun _ _ _ _ _ => pts_nil) (fun _ _ _ _ _ => (pe_cmpR op_in_sign (pv 1) (pe_gv g_LETTERS (by rfl)) (by rfl)))) pa_nil)))))))
   (pss_one (ps_ret pe_non))
   pss_nil)
   (pss_one (ps_ret (pe_lc rfl sc_station_of.nd (pi_str (pv 0)) (blkOk_by (own := [("letter", 1)]) (by kernel_rfl)) (fun _ _ _ _ _ => pg_name (i := 1) sc_station_of.nd rfl (Or.inl rfl)) (fun _ _ _ _ _ => pts_nil) (fun _ _ _ _ _ => (pe_callB call_ord (by rfl) B.ord bt_ord (pa_cons (pv 1) pa_nil))))))), ?_⟩
  unfold rStation stationOf at ret
  have hsz : p.length < sizeLine := Nat.lt_of_le_of_lt hp.ln (by decide)
  refine ⟨_, rfl, _, rfl, hp.size, rfl, _, rfl, ?_⟩
  rw [dec_intV, S_len]
  refine iteB (fun e => ?_) (fun e => ?_)
  ·rw [if_neg (fun z => by have := z.1; simp at e; omega)] at ret
   exact ret H (Same.refl H)
  ·have h4 : p.length = 4 := by simp at e; omega
   dsimp only [tNot, tB, tCB, tCons, tNil]
   refine rd_str (val := fun c => V.bl (Kwc.letter c)) rfl hsz (fun i H' k hi hs hk => ?_) (fun H1 D s1 hD hd => ?_)
   ·refine ⟨_, rfl, p.getD i 0, _, rfl, rfl, ?_⟩
    show k (V.bl (decide (p.getD i 0 ∈ lettersT))) H'
    rw [letters_mem]
    exact hk H' (Same.refl _)
   ·refine ⟨D, p.map Kwc.letter, rfl, SqL.of (by rw [hd, List.map_map]; rfl), _, rfl, ?_⟩
    rw [all_map_id]
    refine iteB (fun e2 => ?_) (fun e2 => ?_)
    ·rw [if_neg (fun z => by rw [z.2] at e2; cases e2)] at ret
     exact ret H1 s1
    ·rw [if_pos ⟨h4, nf e2⟩] at ret
     refine rd_str (val := fun c => V.int (c : Int)) rfl hsz (fun i H' k hi hs hk => ?_) (fun H2 D2 s2 hD2 hd2 => ?_)
     ·refine ⟨_, rfl, _, rfl, rfl, ?_⟩
      exact hk H' (Same.refl _)
     ·exact ret H2 D2 (s1.trans s2) (s1.free hD2) (by rw [hd2]; simp)
end
end My
end
section
set_option Elab.async false
set_option linter.all false
set_option maxRecDepth 100000
set_option maxHeartbeats 4000000
namespace My
open PySem PySem.Spec PyProof.Rows L2 TL
structure CurOk (K : PySem.W.Frag) (mg : Str -> Option Value) (C : Addr) : Prop where
 cl : Cls K C
 nW : NoAttr K C "words"
 nP : NoAttr K C "place"
 mgC : mg "Cursor" = some (.ref C)
structure KnM (P : Program) (w : World) (K : PySem.W.Frag) (mg : Str -> Option Value) (base : Heap) (CX : CXT) (k : Nat) (C : Addr) (m : Str) (ps : List Str) (sp : Sp) : Prop where
 ex : ∃ (f : Addr) (fd : FuncData), Meth K C m f /\ Binds K fd ps [] /\ FnOk P w K mg base CX k f fd ps sp
structure TopM (K : PySem.W.Frag) (C : Addr) (m qual : Str) (st : Stmt) : Prop where
 ex : ∃ (f : Addr) (fd : FuncData), Meth K C m f /\ Fun K m qual st f fd
theorem knM_of {P : Program} {w : World} {K : PySem.W.Frag} {mg : Str -> Option Value} {base : Heap} {CX : CXT} {C : Addr} {m qual : Str} {st : Stmt} {ps : List Str} {k : Nat} {sp : Sp} (N : TopM K C m qual st)
  (hb : ∀ (kV doc pm : Value) (an : Option Addr) (cdv ct : Value) (us : List Value), us.length = ps.length -> bindArgs (PySem.W.fnOf m qual (defArgs st) (defBody st) (defScope st) .none kV doc pm an cdv ct) ⟨us, []⟩ = pure (ps.zip us))
  (h : ∀ f fd, Fun K m qual st f fd -> FnOk P w K mg base CX k f fd ps sp) : KnM P w K mg base CX k C m ps sp := by
 obtain ⟨f, fd, me, F⟩ := N.ex
 exact ⟨f, fd, me, F.binds hb, h f fd F⟩
theorem cuF_words (wl : Addr) (k : Int) : (cuF wl k).lookup ("words" : Str) = some (.ref wl) := by
 unfold cuF
 rw [lookup_putF, if_neg (by decide +kernel), lookup_putF, if_pos rfl]
theorem cuF_place (wl : Addr) (k : Int) : (cuF wl k).lookup ("place" : Str) = some (.int k) := by
 unfold cuF
 rw [lookup_putF, if_pos rfl]
theorem cuF_no (wl : Addr) (k : Int) {m : Str} (h1 : ¬ m = "words") (h2 : ¬ m = "place") : (cuF wl k).lookup m = none := by
 unfold cuF
 rw [lookup_putF, if_neg h2, lookup_putF, if_neg h1]
 rfl
theorem cuF_put (wl : Addr) (k z : Int) : putF "place" (.int z) (cuF wl k) = cuF wl z := by
 unfold cuF
 have e : ¬ (("words" : Str) = "place") := by decide +kernel
 simp [putF, e]
theorem cuF_len (wl : Addr) (k : Int) : (cuF wl k).length < 1000 := by
 have h1 := length_putF "place" (.int k) (putF "words" (.ref wl) [])
 have h2 := length_putF "words" (.ref wl) []
 unfold cuF
 simp at h2
 omega
theorem head_getD {ws : List T} {k : Nat} : (ws.drop k).headD [] = (ws[k]?).getD [] := by
 rw [List.headD_eq_head?_getD, List.head?_drop]
section
variable {P : Program} {w : World} {K : PySem.W.Frag} {mg : Str -> Option Value} {base : Heap} {C XC : Addr}
abbrev st_cu___init__ : Stmt := inClass (top 7) 0
theorem sc_cu___init__ : FnScope ["self", "words"] ["self", "words"] (defScope st_cu___init__) := ⟨rfl, rfl, rfl, by decide +kernel, rfl, by decide +kernel, by decide +kernel⟩
theorem ok_init {f : Addr} {fd : FuncData} (Fu : Fun K "__init__" "Cursor.__init__" st_cu___init__ f fd) (CU : CurOk K mg C) : FnOk P w K mg base CX0 1 f fd ["self", "words"] (spCuInit C) := by
 refine Fu.ok sc_cu___init__ (fun vs H Q E h => ?_) (fun cdv A outer s H vs Q E hr h => ?_)
 ·obtain ⟨p, dx, wl, ws, rfl, _⟩ := h
  rfl
 ·obtain ⟨p, dx, wl, ws, rfl, hp, hw, pl, ln, ret⟩ := h
  refine ⟨_, (pss_cons (ps_fld (pv 0) (pv 1) rfl)
   (pss_one (ps_fld (pv 0) pe_int rfl))), ?_⟩
  refine ⟨_, rfl, _, rfl, p, C, dx, _, rfl, hp, CU.cl, CU.nW, (by show 0 < 1000; decide), ?_⟩
  refine ⟨_, rfl, p, C, dx, _, rfl, upd_same, CU.cl, CU.nP, (by have := length_putF "words" (.ref wl) []; simp at this; omega), ?_⟩
  have nwp : wl ≠ p := ne_of hw hp (by intro z; cases z)
  refine ret _ (fun b o e hb => by rw [upd_ne hb, upd_ne hb]; exact e) ⟨dx, wl, ws, 0, upd_same, by rw [upd_ne nwp, upd_ne nwp]; exact hw, rfl, pl, ln⟩
abbrev st_cu_at_end : Stmt := inClass (top 7) 1
theorem sc_cu_at_end : FnScope ["self"] ["self"] (defScope st_cu_at_end) := ⟨rfl, rfl, rfl, by decide +kernel, rfl, by decide +kernel, by decide +kernel⟩
theorem kn_at_end (N : TopM K C "at_end" "Cursor.at_end" st_cu_at_end) (CU : CurOk K mg C) (B : Bt mg) : KnM P w K mg base CX0 1 C "at_end" ["self"] (spAtEnd C) := by
 refine knM_of N (fun _ _ _ _ _ _ us hl => match us, hl with | [_], _ => rfl) fun f fd Fu => ?_
 refine Fu.ok sc_cu_at_end (fun vs H Q E h => ?_) (fun cdv A outer s H vs Q E hr h => ?_)
 ·obtain ⟨p, l, rfl, _⟩ := h
  rfl
 ·obtain ⟨p, l, rfl, ⟨dx, wl, ws, k, h1, h2, h3, h4, h5⟩, ret⟩ := h
  refine ⟨_, (pss_one (ps_ret (pe_cmpR op_ge (pe_fld (pv 0) rfl) (pe_callB call_len_seq (by rfl) B.len PySem.boot_len (pa_cons (pe_fld (pv 0) rfl) pa_nil)) (nomark _)))), ?_⟩
  refine ⟨_, rfl, p, C, dx, _, _, rfl, h1, CU.cl, CU.nP, cuF_place _ _, _, rfl, p, C, dx, _, _, rfl, h1, CU.cl, CU.nW, cuF_words _ _, wl, _, rfl, .inl (SqL.of h2), _, _, rfl, rfl, ?_⟩
  show Q (.bl (decide (((ws.map strV).length : Int) ≤ (k : Int)))) H
  have : decide (((ws.map strV).length : Int) ≤ (k : Int)) = l.isEmpty := by
   rw [List.length_map, h3, Bool.eq_iff_iff]
   simp
  rw [this]
  exact ret
abbrev st_cu_word : Stmt := inClass (top 7) 2
theorem sc_cu_word : FnScope ["self"] ["self"] (defScope st_cu_word) := ⟨rfl, rfl, rfl, by decide +kernel, rfl, by decide +kernel, by decide +kernel⟩
theorem kn_word (N : TopM K C "word" "Cursor.word" st_cu_word) (CU : CurOk K mg C) (M : KnM P w K mg base CX0 1 C "at_end" ["self"] (spAtEnd C)) : KnM P w K mg base CX0 2 C "word" ["self"] (spWord C) := by
 obtain ⟨fa, fda, me_at_end, bc_at_end, gc_at_end⟩ := M.ex
 refine knM_of N (fun _ _ _ _ _ _ us hl => match us, hl with | [_], _ => rfl) fun f fd Fu => ?_
 refine Fu.ok sc_cu_word (fun vs H Q E h => ?_) (fun cdv A outer s H vs Q E hr h => ?_)
 ·obtain ⟨p, l, rfl, _⟩ := h
  rfl
 ·obtain ⟨p, l, rfl, cu, ret⟩ := h
  obtain ⟨dx, wl, ws, k, h1, h2, h3, h4, h5⟩ := cu.ex
  refine ⟨_, (pss_one (ps_ret (pe_ifExp (pt_val (pe_meth0 (pv 0) CU.cl me_at_end gc_at_end (hr.mono (by decide)) bc_at_end .nil pass0)) pe_str (pe_ix ix_list (pe_fld (pv 0) rfl) (pe_fld (pv 0) rfl) (fun _ _ => rfl))))), ?_⟩
  refine ⟨_, rfl, p, dx, _, rfl, h1, cuF_no _ _ (by decide +kernel) (by decide +kernel), p, l, rfl, cu, _, rfl, ?_⟩
  refine iteB (fun e => ?_) (fun e => ?_)
  ·have : l = [] := by simpa using e
   rw [this] at ret
   show Q (.str (Str.ofString "")) H
   rw [ofS ""]
   exact ret
  ·have hlt : k < ws.length := by
    have : l ≠ [] := by simpa using e
    rw [h3] at this
    simp at this
    exact this
   have hx : ws[k]? = some (l.headD []) := by
    rw [h3, head_getD, List.getElem?_eq_getElem hlt]
    rfl
   refine ⟨_, rfl, p, C, dx, _, _, rfl, h1, CU.cl, CU.nW, cuF_words _ _, _, rfl, p, C, dx, _, _, rfl, h1, CU.cl, CU.nP, cuF_place _ _, wl, _, _, _, rfl, rfl, SqL.of h2, at_of (j := k) (v := strV (l.headD [])) rfl (by rw [List.getElem?_map, hx]; rfl), ret⟩
abbrev st_cu_advance : Stmt := inClass (top 7) 3
theorem sc_cu_advance : FnScope ["self"] ["self"] (defScope st_cu_advance) := ⟨rfl, rfl, rfl, by decide +kernel, rfl, by decide +kernel, by decide +kernel⟩
theorem kn_advance (N : TopM K C "advance" "Cursor.advance" st_cu_advance) (CU : CurOk K mg C) : KnM P w K mg base CX0 1 C "advance" ["self"] (spAdvance C) := by
 refine knM_of N (fun _ _ _ _ _ _ us hl => match us, hl with | [_], _ => rfl) fun f fd Fu => ?_
 refine Fu.ok sc_cu_advance (fun vs H Q E h => ?_) (fun cdv A outer s H vs Q E hr h => ?_)
 ·obtain ⟨p, l, rfl, _⟩ := h
  rfl
 ·obtain ⟨p, l, rfl, cu, ret⟩ := h
  obtain ⟨dx, wl, ws, k, h1, h2, h3, h4, h5⟩ := cu.ex
  refine ⟨_, (pss_one (ps_fldaug (pv 0) pe_int in_add)), ?_⟩
  refine ⟨_, rfl, p, C, dx, _, _, rfl, h1, CU.cl, CU.nP, cuF_place _ _, _, _, rfl, rfl, dx, _, h1, cuF_len _ _, ?_⟩
  have nwp : wl ≠ p := ne_of h2 h1 (by intro z; cases z)
  refine ret _ (fun b o e hb => by rw [upd_ne hb]; exact e) ⟨dx, wl, ws, k + 1, ?_, by rw [upd_ne nwp]; exact h2, ?_, h4, h5⟩
  ·rw [upd_same, cuF_put]
   rfl
  ·rw [h3, List.tail_drop]
abbrev st_cu_optional : Stmt := inClass (top 7) 4
theorem sc_cu_optional : FnScope ["self", "reader", "found"] ["self", "reader"] (defScope st_cu_optional) := ⟨rfl, rfl, rfl, by decide +kernel, rfl, by decide +kernel, by decide +kernel⟩
theorem kn_optional (N : TopM K C "optional" "Cursor.optional" st_cu_optional) (CU : CurOk K mg C) (M1 : KnM P w K mg base CX0 2 C "word" ["self"] (spWord C)) (M2 : KnM P w K mg base CX0 1 C "advance" ["self"] (spAdvance C)) :
  KnM P w K mg base CX0 10 C "optional" ["self", "reader"] (spOptional P w K mg base C) := by
 obtain ⟨fw, fdw, me_word, bc_word, gc_word⟩ := M1.ex
 obtain ⟨fa, fda, me_advance, bc_advance, gc_advance⟩ := M2.ex
 refine knM_of N (fun _ _ _ _ _ _ us hl => match us, hl with | [_, _], _ => rfl) fun f fd Fu => ?_
 refine Fu.ok sc_cu_optional (fun vs H Q E h => ?_) (fun cdv A outer s H vs Q E hr h => ?_)
 ·obtain ⟨p, l, rf, g, rfl, _⟩ := h
  rfl
 ·obtain ⟨p, l, rf, g, rfl, cu, ⟨rkp, rk, rfd, rps, rok, rk9, rb⟩, r1, r2⟩ := h
  obtain ⟨dx, wl, ws, k, h1, h2, h3, h4, h5⟩ := cu.ex
  have hpl : Plain (l.headD []) := by
   rw [h3, head_getD]
   cases e : ws[k]? with
   | none => exact nil_plain
   | some x => exact h4 x (List.mem_of_getElem? e)
  refine ⟨_, (pss_cons (ps_set (i := 2) sc_cu_optional.nd rfl (by first | exact Or.inl rfl | exact Or.inr rfl) (pe_callV (i := 1) rfl (Or.inl rfl) pass0 (pa_cons (pe_meth0 (pv 0) CU.cl me_word gc_word (hr.mono (by decide)) bc_word .nil pass0) pa_nil)))
   (pss_cons (ps_if (pt_cmp (pc_notN (pv 2)))
   (pss_one (ps_expr (pe_meth0 (pv 0) CU.cl me_advance gc_advance (hr.mono (by decide)) bc_advance .nil pass0)))
   pss_nil)
   (pss_one (ps_ret (pv 2))))), ?_⟩
  refine ⟨rf, sp1 g, rfl, ⟨⟨rk, rfd, rps, rok, hr.mono rk9, rb⟩, rkp⟩, ?_⟩
  refine ⟨_, rfl, p, dx, _, rfl, h1, cuF_no _ _ (by decide +kernel) (by decide +kernel), p, l, rfl, cu, l.headD [], rfl, hpl, ?_⟩
  have adv : ∀ (H1 : Hp) (v : V), Same H H1 -> v ≠ .non -> g (l.headD []) ≠ .non -> (∀ H', But p H1 H' -> CurAt C H' p l.tail -> ValIs H H' (g (l.headD [])) v) -> ∃ x, some (some v) = some (some x) /\ ∃ c, V.bl (!decide (x = .non)) = .bl c /\
    if c = true then tDrop (tMeth C "advance" (spAdvance C) [] E0 (tVar 0) tNil) { nx := fun σ' H' => tRet (tVar 2) { nx := fun _ H' => Q .non H', rt := Q } σ' H', rt := Q } [some (.ref p), some (.ref rf), some v] H1
    else tNext { nx := fun σ' H' => tRet (tVar 2) { nx := fun _ H' => Q .non H', rt := Q } σ' H', rt := Q } [some (.ref p), some (.ref rf), some v] H1 := by
   intro H1 v s1 hv hg hval
   refine ⟨v, rfl, _, rfl, ?_⟩
   rw [decide_eq_false hv]
   refine iteT ?_
   have cu1 := cu.same s1
   refine ⟨_, rfl, p, dx, _, rfl, s1 _ _ h1, cuF_no _ _ (by decide +kernel) (by decide +kernel), p, l, rfl, cu1, fun H2 b2 c2 => ?_⟩
   exact ⟨v, rfl, r2 hg H2 v ((But.of s1).trans b2) c2 (hval H2 b2 c2) hv⟩
  cases eg : g (l.headD []) with
  | non => exact fun H1 s1 => ⟨_, rfl, _, rfl, _, rfl, r1 eg H1 s1⟩
  | i n => exact fun H1 s1 => adv H1 (.int n) s1 (fun z => by cases z) (by rw [eg]; intro z; cases z) fun H' _ _ => by rw [eg]; exact rfl
  | b c => exact fun H1 s1 => adv H1 (.bl c) s1 (fun z => by cases z) (by rw [eg]; intro z; cases z) fun H' _ _ => by rw [eg]; exact rfl
  | l ns => exact fun H1 q s1 hq hq1 => adv H1 (.ref q) s1 (fun z => by cases z) (by rw [eg]; intro z; cases z) fun H' b' _ => by rw [eg]; exact ⟨q, rfl, hq, b' _ _ hq1 ((cu.same s1).ne hq1)⟩
abbrev st_demanded : Stmt := top 5
theorem sc_demanded : FnScope ["found"] ["found"] (defScope st_demanded) := ⟨rfl, rfl, rfl, by decide +kernel, rfl, by decide +kernel, by decide +kernel⟩
theorem kn_demanded (N : TopFn K mg "demanded" st_demanded) (EX : ExcC K mg "NotReport" XC) : Known P w K mg base (CXe P w XC) 1 "demanded" ["found"] (spDemanded XC) := by
 refine known_of N (fun _ _ _ _ _ _ us hl => match us, hl with | [_], _ => rfl) fun f fd Fu => ?_
 refine Fu.okE sc_demanded (fun vs H Q E h => ?_) ?_
 ·obtain ⟨v, rfl, _⟩ := h
  rfl
 ·rintro X outer cdv A s H vs Q E hr h rfl L
  obtain ⟨v, rfl, r1, r2⟩ := h
  refine ⟨_, (pss_cons (ps_if (pt_cmp (pc_isN (pv 0)))
   (pss_one (ps_raise L rfl EX rfl (pa_cons pe_str pa_nil)))
   pss_nil)
   (pss_one (ps_ret (pv 0)))), ?_⟩
  refine ⟨_, rfl, _, rfl, ?_⟩
  refine iteB (fun e => ?_) (fun e => ?_)
  ·exact ⟨(by show 1 ≤ sizeLine; decide), r1 (of_decide_eq_true e) H⟩
  ·exact ⟨_, rfl, r2 (of_decide_eq_false e)⟩
abbrev st_cu_required : Stmt := inClass (top 7) 5
theorem sc_cu_required : FnScope ["self", "reader"] ["self", "reader"] (defScope st_cu_required) := ⟨rfl, rfl, rfl, by decide +kernel, rfl, by decide +kernel, by decide +kernel⟩
theorem kn_required (N : TopM K C "required" "Cursor.required" st_cu_required) (CU : CurOk K mg C) (M : KnM P w K mg base CX0 10 C "optional" ["self", "reader"] (spOptional P w K mg base C)) (kn_demanded : Known P w K mg base (CXe P w XC) 1 "demanded" ["found"] (spDemanded XC)) :
  KnM P w K mg base (CXe P w XC) 11 C "required" ["self", "reader"] (spRequired P w K mg base C XC) := by
 obtain ⟨fo, fdo, me_optional, bc_optional, gc_optional⟩ := M.ex
 refine knM_of N (fun _ _ _ _ _ _ us hl => match us, hl with | [_, _], _ => rfl) fun f fd Fu => ?_
 refine Fu.okE sc_cu_required (fun vs H Q E h => ?_) ?_
 ·obtain ⟨p, l, rf, g, rfl, _⟩ := h
  rfl
 ·rintro X outer cdv A s H vs Q E hr h rfl L
  obtain ⟨p, l, rf, g, rfl, cu, rd, r1, r2⟩ := h
  obtain ⟨dx, wl, ws, k, h1, _⟩ := cu.ex
  refine ⟨_, (pss_one (ps_ret (pe_kn kn_demanded (hr.mono (by decide)) rfl (passes_on L) (pa_cons (pe_meth (pv 0) CU.cl me_optional gc_optional (hr.mono (by decide)) bc_optional .nil pass0 (pa_cons (pv 1) pa_nil)) pa_nil)))), ?_⟩
  refine ⟨_, rfl, p, dx, _, rfl, h1, cuF_no _ _ (by decide +kernel) (by decide +kernel), _, rfl, p, l, rf, g, rfl, cu, rd, fun eg H' s' => ?_, fun ng H' v b' c' hv vn => ?_⟩
  ·exact ⟨_, rfl, fun _ => r1 eg, fun z => absurd rfl z⟩
  ·exact ⟨_, rfl, fun z => absurd z vn, fun _ => r2 ng H' v b' c' hv⟩
end
end My
end
section
set_option Elab.async false
set_option linter.all false
set_option maxRecDepth 100000
set_option maxHeartbeats 4000000
namespace My
open PySem PySem.Spec PyProof.Rows L2 TL
theorem all_map_id7 {A : Type} (f : A -> Bool) : ∀ l : List A, (l.map f).all id = l.all f := fun l => by rw [List.all_map]; rfl
theorem fold_dd : ∀ (l acc : List Str), (l.foldl ddS acc).length ≤ acc.length + l.length /\ ((l.foldl ddS acc).length = acc.length + l.length ↔ (∀ x ∈ l, x ∉ acc) /\ l.Nodup)
 | [], acc => by simp
 | v :: l, acc => by
  rw [List.foldl_cons]
  obtain ⟨h1, h2⟩ := fold_dd l (ddS acc v)
  by_cases hm : acc.any (· == v) = true
  ·have hv : v ∈ acc := by simpa using hm
   have e : ddS acc v = acc := by unfold ddS; rw [if_pos hm]
   rw [e] at h1 h2 ⊢
   refine ⟨by simp only [List.length_cons]; omega, fun q => ?_, fun q => absurd hv (q.1 v (by simp))⟩
   simp only [List.length_cons] at q
   omega
  ·have hv : v ∉ acc := by simpa using hm
   have e : ddS acc v = acc ++ [v] := by unfold ddS; rw [if_neg hm]
   rw [e] at h1 h2 ⊢
   have hl : (acc ++ [v]).length = acc.length + 1 := by simp
   rw [hl] at h1 h2
   refine ⟨by simp only [List.length_cons]; omega, ?_⟩
   have e2 : acc.length + (v :: l).length = acc.length + 1 + l.length := by simp only [List.length_cons]; omega
   rw [e2, h2]
   constructor
   ·rintro ⟨a, b⟩
    refine ⟨fun x hx => ?_, List.nodup_cons.mpr ⟨fun hvl => a v hvl (by simp), b⟩⟩
    rcases List.mem_cons.mp hx with q | q
    ·rw [q]; exact hv
    ·exact fun z => a x q (by simp [z])
   ·rintro ⟨a, b⟩
    obtain ⟨b1, b2⟩ := List.nodup_cons.mp b
    refine ⟨fun x hx hm' => ?_, b2⟩
    rcases List.mem_append.mp hm' with z | z
    ·exact a x (by simp [hx]) z
    ·have : x = v := by simpa using z
     rw [this] at hx; exact b1 hx
theorem noTw_nodup : ∀ ks : List T, noTw ks = true ↔ (ks.map S).Nodup
 | [] => by simp [noTw]
 | k :: ks => by
  rw [noTw, Bool.and_eq_true, noTw_nodup ks, List.map_cons, List.nodup_cons]
  have : (!ks.contains k) = true ↔ S k ∉ ks.map S := by
   constructor
   ·intro h hm
    obtain ⟨x, hx, e⟩ := List.mem_map.mp hm
    have : x = k := S_inj e
    subst this
    simp [hx] at h
   ·intro h
    have : k ∉ ks := fun hk => h (List.mem_map.mpr ⟨k, hk, rfl⟩)
    simp [this]
  rw [this]
theorem set_size (ks : List T) : decide (((metS (fun i => (ks.map S).getD i Str.empty) (ks.map S).length).length : Int) = (ks.length : Int)) = noTw ks := by
 have e : metS (fun i => (ks.map S).getD i Str.empty) (ks.map S).length = (ks.map S).foldl ddS [] := by
  unfold metS
  rw [range_map_getD Str.empty (fun x => x), List.map_id']
 rw [e]
 have h := (fold_dd (ks.map S) []).2
 simp only [List.length_nil, Nat.zero_add, List.length_map] at h
 rw [Bool.eq_iff_iff, noTw_nodup, decide_eq_true_iff]
 constructor
 ·intro q
  exact (h.mp (by omega)).2
 ·intro q
  have := h.mpr ⟨fun x _ z => (by cases z), q⟩
  omega
theorem set_size_le (ks : List T) : (metS (fun i => (ks.map S).getD i Str.empty) (ks.map S).length).length ≤ ks.length := by
 have := metS_le (fun i => (ks.map S).getD i Str.empty) (ks.map S).length
 exact Nat.le_trans this (by rw [List.length_map]; exact Nat.le_refl _)
theorem Kinds.same {K : PySem.W.Frag} {H H' : Hp} {p : Addr} {ks : List T} (k : Kinds K H p ks) (s : Same H H') : Kinds K H' p ks := ⟨s.seq k.sq, k.pl, k.ln⟩
theorem Kinds.strs {K : PySem.W.Frag} {H : Hp} {p : Addr} {ks : List T} (k : Kinds K H p ks) : SqL K H p ((ks.map S).map V.str) := by
 rw [List.map_map]; exact k.sq
theorem Kinds.lt {K : PySem.W.Frag} {H : Hp} {p : Addr} {ks : List T} (k : Kinds K H p ks) : ks.length < sizeLine := Nat.lt_of_le_of_lt k.ln (by decide)
section
variable {P : Program} {w : World} {K : PySem.W.Frag} {mg : Str -> Option Value} {base : Heap}
abbrev st_strength_of : Stmt := top 63
theorem sc_strength_of : FnScope ["word"] ["word"] (defScope st_strength_of) := ⟨rfl, rfl, rfl, by decide +kernel, rfl, by decide +kernel, by decide +kernel⟩
theorem kn_strength (N : TopFn K mg "strength_of" st_strength_of) (gS : TG K mg "STRENGTHS" [[45], [], [43]]) (g_LIGHT : GV mg "LIGHT" (.int 0)) (g_NEITHER : GV mg "NEITHER" (.int 1)) (g_HEAVY : GV mg "HEAVY" (.int 2)) : Known P w K mg base CX0 1 "strength_of" ["word"] (sp1 rStrength) := by
 obtain ⟨aS, g_STRENGTHS, sqS, oS, lS1, lS2, lS3⟩ := gS.get
 refine known_of N (fun _ _ _ _ _ _ us hl => match us, hl with | [_], _ => rfl) fun f fd Fu => ?_
 refine Fu.ok sc_strength_of (fun vs H Q E h => ?_) (fun cdv A outer s H vs Q E hr h => ?_)
 ·obtain ⟨p, rfl, _⟩ := h
  rfl
 ·obtain ⟨p, rfl, hp, ret⟩ := h
  refine ⟨_, (pss_cons (ps_if (pt_val (pe_m1 PySem.F.slot_str_startswith PySem.F.type_str_startswith mt_startswith (pv 0) (pe_ix ix_tup (pe_gv g_STRENGTHS (by rfl)) (pe_gv g_LIGHT (by rfl)) (fun _ _ => rfl))))
   (pss_one (ps_ret (pe_gv g_LIGHT (by rfl))))
   pss_nil)
   (pss_one (ps_ret (pe_ifExp (pt_val (pe_m1 PySem.F.slot_str_startswith PySem.F.type_str_startswith mt_startswith (pv 0) (pe_ix ix_tup (pe_gv g_STRENGTHS (by rfl)) (pe_gv g_HEAVY (by rfl)) (fun _ _ => rfl)))) (pe_gv g_HEAVY (by rfl)) (pe_gv g_NEITHER (by rfl)))))), ?_⟩
  unfold rStrength strengthOf at ret
  refine ⟨_, rfl, ⟨_, rfl⟩, aS, _, _, _, rfl, rfl, sqS H, at_of (j := 0) rfl rfl, _, _, rfl, rfl, _, rfl, ?_⟩
  rw [starts_S]
  refine iteB (fun e => ?_) (fun e => ?_)
  ·have e' : p.take 1 = [45] := of_decide_eq_true e
   rw [if_pos e'] at ret
   exact ret H (Same.refl H)
  ·have e' : ¬ p.take 1 = [45] := of_decide_eq_false e
   rw [if_neg e'] at ret
   refine ⟨_, rfl, ⟨_, rfl⟩, aS, _, _, _, rfl, rfl, sqS H, at_of (j := 2) rfl rfl, _, _, rfl, rfl, _, rfl, ?_⟩
   rw [starts_S]
   refine iteB (fun e2 => ?_) (fun e2 => ?_)
   ·have e' : p.take 1 = [43] := of_decide_eq_true e2
    rw [if_pos e'] at ret
    exact ret H (Same.refl H)
   ·have e' : ¬ p.take 1 = [43] := of_decide_eq_false e2
    rw [if_neg e'] at ret
    exact ret H (Same.refl H)
abbrev st_all_rain : Stmt := top 58
theorem sc_all_rain : FnScope ["kinds", "kind"] ["kinds"] (defScope st_all_rain) := ⟨rfl, rfl, rfl, by decide +kernel, rfl, by decide +kernel, by decide +kernel⟩
theorem kn_allrain (N : TopFn K mg "all_rain" st_all_rain) (B : Bt mg) (gR : TG K mg "RAIN_KINDS" RAIN) : Known P w K mg base CX0 1 "all_rain" ["kinds"] (spAllRain K) := by
 obtain ⟨aR, g_RAIN_KINDS, sqR, _⟩ := gR.get
 refine known_of N (fun _ _ _ _ _ _ us hl => match us, hl with | [_], _ => rfl) fun f fd Fu => ?_
 refine Fu.ok sc_all_rain (fun vs H Q E h => ?_) (fun cdv A outer s H vs Q E hr h => ?_)
 ·obtain ⟨p, ks, rfl, _⟩ := h
  rfl
 ·obtain ⟨p, ks, rfl, hk, ret⟩ := h
  refine ⟨_, (pss_one (ps_ret (pe_callB (call_allB rfl) (by rfl) B.all bt_all (pa_cons (pe_lc rfl sc_all_rain.nd (pi_list (pv 0)) (blkOk_by (own := [("kind", 1)]) (by kernel_rfl)) (fun _ _ _ _ _ => pg_name (i := 1) sc_all_rain.nd rfl (Or.inl rfl)) (fun _ _ _ _ _ => pts_nil) (fun _ _ _ _ _ => (pe_cmpR (op_inK K rfl) (pv 1) (pe_gv g_RAIN_KINDS (by rfl)) (by rfl)))) pa_nil)))), ?_⟩
  dsimp only [tRet, tCB, tCons, tNil]
  refine rd_list (d := []) (f := strV) (val := fun k => V.bl (RAIN.contains k)) rfl hk.sq hk.lt (fun i H' k hi hs hkk => ?_) (fun H1 D s1 hD hd => ?_)
  ·refine ⟨_, rfl, aR, _, rfl, .inr (sqR H'), rfl, flat_strs _, ?_⟩
   rw [if_neg (by decide), inV_S]
   exact hkk H' (Same.refl _)
  ·refine ⟨D, ks.map fun k => RAIN.contains k, rfl, SqL.of (by rw [hd, List.map_map]; rfl), ?_⟩
   rw [all_map_id7]
   exact ret H1 s1
abbrev st_kinds_fit : Stmt := top 59
theorem sc_kinds_fit : FnScope ["kinds"] ["kinds"] (defScope st_kinds_fit) := ⟨rfl, rfl, rfl, by decide +kernel, rfl, by decide +kernel, by decide +kernel⟩
theorem kn_kfit (N : TopFn K mg "kinds_fit" st_kinds_fit) (B : Bt mg) (g_MOST_KINDS : GV mg "MOST_KINDS" (.int 3)) (kn_all_rain : Known P w K mg base CX0 1 "all_rain" ["kinds"] (spAllRain K)) : Known P w K mg base CX0 2 "kinds_fit" ["kinds"] (spKindsFit K) := by
 refine known_of N (fun _ _ _ _ _ _ us hl => match us, hl with | [_], _ => rfl) fun f fd Fu => ?_
 refine Fu.ok sc_kinds_fit (fun vs H Q E h => ?_) (fun cdv A outer s H vs Q E hr h => ?_)
 ·obtain ⟨p, ks, rfl, _⟩ := h
  rfl
 ·obtain ⟨p, ks, rfl, hk, ret⟩ := h
  refine ⟨_, (pss_cons (ps_if (PW.pt (pw_or (pt_cmpR op_gt (pe_callB call_len_seq (by rfl) B.len PySem.boot_len (pa_cons (pv 0) pa_nil)) (pe_gv g_MOST_KINDS (by rfl)) (nomark _)) (pw_or1 (pt_cmpR op_ne (pe_callB call_lenS (by rfl) B.len PySem.boot_len (pa_cons (pe_callTy (call_setT rfl) (by rfl) B.set bt_set (pa_cons (pv 0) pa_nil)) pa_nil)) (pe_callB call_len_seq (by rfl) B.len PySem.boot_len (pa_cons (pv 0) pa_nil)) (nomark _)))))
   (pss_one (ps_ret pe_bl))
   pss_nil)
   (pss_one (ps_ret (pe_or (pe_cmpR op_lt (pe_callB call_len_seq (by rfl) B.len PySem.boot_len (pa_cons (pv 0) pa_nil)) pe_int (nomark _)) (pe_one (pe_kn kn_all_rain (hr.mono (by decide)) rfl pass0 (pa_cons (pv 0) pa_nil))))))), ?_⟩
  unfold kindsFit at ret
  refine ⟨_, rfl, p, _, rfl, .inl hk.sq, _, _, rfl, rfl, _, rfl, ?_⟩
  rw [List.length_map]
  refine iteB (fun e => ?_) (fun e => ?_)
  ·rw [if_pos (.inl (by simp at e; omega))] at ret
   exact ret H (Same.refl H)
  ·have h3 : ks.length ≤ 3 := by simp at e; omega
   refine ⟨_, rfl, p, ks.map S, rfl, hk.strs, (by rw [List.length_map]; exact Nat.lt_of_le_of_lt (Nat.succ_le_succ h3) (by unfold scanBound; decide)), fun l hl => ?_⟩
   have s1 : Same H (upd H l (sizedSet P w l (metS (fun i => (ks.map S).getD i Str.empty) (ks.map S).length).length)) := same_new (Same.refl H) hl
   refine ⟨l, _, rfl, upd_same, (by have := set_size_le ks; omega), _, rfl, p, _, rfl, .inl (s1.seq hk.sq), rfl, _, rfl, ?_⟩
   have e5 : decide (V.int (((metS (fun i => (ks.map S).getD i Str.empty) (ks.map S).length).length : Nat) : Int) = V.int (((ks.map strV).length : Nat) : Int)) = noTw ks := by
    rw [dec_intV, show (ks.map strV).length = ks.length from List.length_map ..]
    exact set_size ks
   rw [e5]
   refine iteB (fun e2 => ?_) (fun e2 => ?_)
   ·rw [if_pos (.inr (nt e2))] at ret
    exact ret _ s1
   ·rw [if_neg (fun z => by
     rcases z with z | z
     ·omega
     ·rw [nf e2] at z; cases z)] at ret
    refine ⟨_, rfl, p, _, rfl, .inl (s1.seq hk.sq), _, _, rfl, rfl, _, rfl, ?_⟩
    rw [List.length_map]
    have e0 : decide ((ks.length : Int) < 2) = decide (ks.length < 2) := by rw [Bool.eq_iff_iff]; simp; omega
    rw [e0]
    refine iteB (fun e3 => ?_) (fun e3 => ?_)
    ·rw [e3, Bool.true_or] at ret
     exact ret _ s1
    ·rw [e3, Bool.false_or] at ret
     exact ⟨_, rfl, p, ks, rfl, hk.same s1, ret.mono s1⟩
abbrev st_strength_fits : Stmt := top 60
theorem sc_strength_fits : FnScope ["strength", "kinds"] ["strength", "kinds"] (defScope st_strength_fits) := ⟨rfl, rfl, rfl, by decide +kernel, rfl, by decide +kernel, by decide +kernel⟩
theorem kn_sfit (N : TopFn K mg "strength_fits" st_strength_fits) (B : Bt mg) (g_NEITHER : GV mg "NEITHER" (.int 1)) (gR : TG K mg "RAIN_KINDS" RAIN) : Known P w K mg base CX0 1 "strength_fits" ["strength", "kinds"] (spStrFits K) := by
 obtain ⟨aR, g_RAIN_KINDS, sqR, _⟩ := gR.get
 refine known_of N (fun _ _ _ _ _ _ us hl => match us, hl with | [_, _], _ => rfl) fun f fd Fu => ?_
 refine Fu.ok sc_strength_fits (fun vs H Q E h => ?_) (fun cdv A outer s H vs Q E hr h => ?_)
 ·obtain ⟨t, p, ks, rfl, _⟩ := h
  rfl
 ·obtain ⟨t, p, ks, rfl, hk, ret⟩ := h
  refine ⟨_, (pss_one (ps_ret (pe_or (pe_cmpR op_eq (pv 0) (pe_gv g_NEITHER (by rfl)) (nomark _)) (pe_one (pe_and (pe_cmpR op_gt (pe_callB call_len_seq (by rfl) B.len PySem.boot_len (pa_cons (pv 1) pa_nil)) pe_int (nomark _)) (pe_one (pe_cmpR op_in_seq (pe_ix ix_list (pv 1) pe_int (fun _ _ => rfl)) (pe_gv g_RAIN_KINDS (by rfl)) (by rfl)))))))), ?_⟩
  unfold strengthFits at ret
  refine ⟨_, rfl, rfl, _, rfl, ?_⟩
  have e1 : decide (V.int (t : Int) = V.int 1) = (t == 1) := by rw [dec_intV, Bool.eq_iff_iff]; simp; omega
  rw [e1]
  refine iteB (fun e => ?_) (fun e => ?_)
  ·rw [e, Bool.true_or] at ret
   exact ret H (Same.refl H)
  ·rw [e, Bool.false_or] at ret
   refine ⟨_, rfl, p, _, rfl, .inl hk.sq, _, _, rfl, rfl, _, rfl, ?_⟩
   rw [List.length_map]
   have e2 : decide ((0 : Int) < (ks.length : Int)) = decide (0 < ks.length) := by rw [Bool.eq_iff_iff]; simp
   rw [e2]
   refine iteB (fun e3 => ?_) (fun e3 => ?_)
   ·rw [e3, Bool.true_and] at ret
    match ks, hk, ret with
    | k :: l, hk, ret =>
     refine ⟨_, rfl, p, _, _, _, rfl, rfl, hk.sq, at_of (j := 0) (v := strV k) rfl rfl, aR, _, rfl, .inr (sqR H), rfl, flat_strs _, ?_⟩
     rw [if_neg (by decide), inV_S]
     exact ret H (Same.refl H)
    | [], hk, ret => simp at e3
   ·rw [e3, Bool.false_and] at ret
    exact ret H (Same.refl H)
end
end My
end
section
set_option Elab.async false
set_option linter.all false
set_option maxRecDepth 100000
set_option maxHeartbeats 4000000
namespace My
open PySem PySem.Spec PyProof.Rows L2 TL
theorem S_ok {k : T} (p : Plain k) : PyData.strOk (S k) = true := by
 unfold PyData.strOk
 have h : ∀ c ∈ k, decide (c < 1114112) = true := fun c hc => decide_eq_true (Nat.lt_of_lt_of_le (sign_lt (p.sg c hc)) (by decide))
 show (k.toArray.all fun x => decide (x < 1114112)) = true
 simpa using h
theorem lay_strs : ∀ {ks : List T}, (∀ k ∈ ks, Plain k) -> PyData.canLayAll0 (ks.map fun k => PyData.str (S k)) = true /\ PyData.depthAll (ks.map fun k => PyData.str (S k)) = 0
 | [], _ => ⟨rfl, rfl⟩
 | k :: ks, h => by
  obtain ⟨h1, h2⟩ := lay_strs (ks := ks) fun x hx => h x (by simp [hx])
  rw [List.map_cons, PyData.canLayAll0.eq_2, PyData.depthAll.eq_2, h1, h2]
  have : PyData.canLay0 (.str (S k)) = true := by simp only [PyData.canLay0]; exact S_ok (h k (by simp))
  rw [this]
  exact ⟨rfl, rfl⟩
theorem shaped_strs {ks : List T} (h : ∀ k ∈ ks, Plain k) : SeqAt.shaped (.list (ks.map fun k => PyData.str (S k))) = true := by
 obtain ⟨h1, h2⟩ := lay_strs h
 unfold SeqAt.shaped
 rw [PyData.depth.eq_1, h2]
 have : PyData.canLay0 (.list (ks.map fun k => PyData.str (S k))) = true := by simp only [PyData.canLay0]; exact h1
 rw [this]
 rfl
theorem dp_strs {K : PySem.W.Frag} {H : Hp} : ∀ ks : List T, DpAll K H (ks.map strV) (ks.map fun k => PyData.str (S k))
 | [] => .nil
 | k :: ks => .cons (.str _) (dp_strs ks)
theorem eqv_strs : ∀ a b : List T, PyData.eqvAll (a.map fun k => PyData.str (S k)) (b.map fun k => PyData.str (S k)) = (a == b)
 | [], [] => rfl
 | [], b :: l => by rw [List.map_cons]; exact PyData.eqvAll.eq_3 _ _
 | a :: l, [] => rfl
 | a :: l, b :: l' => by
  rw [List.map_cons, List.map_cons, PyData.eqvAll.eq_2, eqv_strs l l']
  show (S a == S b && _) = (a == b && l == l')
  congr 1
  by_cases e : a = b
  ·subst e; simp
  ·have h1 : S a ≠ S b := fun q => e (S_inj q)
   rw [beq_eq_false_iff_ne.mpr h1, beq_eq_false_iff_ne.mpr e]
theorem inT (c : T) (ss : List String) : inV (strV c) (ss.map fun s => V.str (Str.ofString s)) = (ss.map Kwc.text).contains c := by
 rw [<- inV_S, List.map_map]
 congr 1
 apply List.map_congr_left
 intro s _
 exact congrArg V.str (ofS s)
theorem small500' {n : Nat} (h : n ≤ 600) : n ≤ sizeLine := Nat.le_trans h (by decide)
theorem via {t : TE} {σ : L2.St} {H : Hp} {Q : VK} (v : V) (h : ∀ Q' : VK, Q' v H -> t σ H Q') (q : Q v H) : t σ H Q := h Q q
theorem in_tup {K : PySem.W.Frag} {H : Hp} {c : T} {Q : VK} (ss : List String) (hl : ss.length ≤ 500) (h : ∀ H', Same H H' -> Q (.bl ((ss.map Kwc.text).contains c)) H') :
  (ss.map fun s => V.str (Str.ofString s)).length ≤ sizeLine /\ ∀ t, H t = none -> rIn K false (strV c) (.ref t) (upd H t (.tup (ss.map fun s => V.str (Str.ofString s)))) Q := by
 refine ⟨by rw [List.length_map]; exact small500 hl, fun t ht => ⟨t, _, rfl, .inr (SqT.of upd_same), rfl, ?_, ?_⟩⟩
 ·rw [List.all_map, List.all_eq_true]
  intro x _
  rfl
 ·rw [if_neg (by decide), inT]
  exact h _ (same_new (Same.refl H) ht)
theorem is_FG {K : PySem.W.Frag} {H : Hp} {p : Addr} {ks : List T} {Q : VK} (hk : Kinds K H p ks) (ret : ∀ H', Same H H' -> Q (.bl (ks == [Kwc.text "FG"])) H') :
  ([V.str (Str.ofString "FG")] : List V).length ≤ sizeLine /\ ∀ t, H t = none -> rEqD K (.ref p) (.ref t) (upd H t (.lst [V.str (Str.ofString "FG")])) Q := by
 refine ⟨by decide, fun t ht => ?_⟩
 have s1 : Same H (upd H t (.lst [V.str (Str.ofString "FG")])) := same_new (Same.refl H) ht
 have hq : SqL K (upd H t (.lst [V.str (Str.ofString "FG")])) t [V.str (Str.ofString "FG")] := SqL.of upd_same
 have hk' := hk.same s1
 have r := ret _ s1
 revert hq hk' r
 generalize (upd H t (.lst [V.str (Str.ofString "FG")])) = H1
 intro hq hk r
 rw [ofS "FG"] at hq
 refine ⟨_, _, .lst hk.sq (dp_strs ks), .lst hq (dp_strs [Kwc.text "FG"]), shaped_strs hk.pl, shaped_strs (fun k hk => ?_), ?_⟩
 ·have : k = Kwc.text "FG" := by simpa using hk
  rw [this]; exact text_plain "FG"
 ·have : PyData.eqv (.list (ks.map fun k => PyData.str (S k))) (.list ([Kwc.text "FG"].map fun k => PyData.str (S k))) = (ks == [Kwc.text "FG"]) := eqv_strs ks [Kwc.text "FG"]
  rw [this]; exact r
section
variable {P : Program} {w : World} {K : PySem.W.Frag} {mg : Str -> Option Value} {base : Heap}
abbrev st_manner_fits : Stmt := top 61
theorem sc_manner_fits : FnScope ["manner", "kinds"] ["manner", "kinds"] (defScope st_manner_fits) := ⟨rfl, rfl, rfl, by decide +kernel, rfl, by decide +kernel, by decide +kernel⟩
theorem kn_mfit (N : TopFn K mg "manner_fits" st_manner_fits) (B : Bt mg) (kn_all_rain : Known P w K mg base CX0 1 "all_rain" ["kinds"] (spAllRain K)) : Known P w K mg base CX0 2 "manner_fits" ["manner", "kinds"] (spMannerFits K) := by
 refine known_of N (fun _ _ _ _ _ _ us hl => match us, hl with | [_, _], _ => rfl) fun f fd Fu => ?_
 refine Fu.ok sc_manner_fits (fun vs H Q E h => ?_) (fun cdv A outer s H vs Q E hr h => ?_)
 ·obtain ⟨m, p, ks, rfl, _⟩ := h
  rfl
 ·obtain ⟨m, p, ks, rfl, hm, hk, ret⟩ := h
  refine ⟨_, (pss_cons (ps_if (pt_cmpR op_eq (pv 0) pe_str (nomark _))
   (pss_one (ps_ret (pe_kn kn_all_rain (hr.mono (by decide)) rfl pass0 (pa_cons (pv 1) pa_nil))))
   pss_nil)
   (pss_cons (ps_if (pt_cmpR op_eq (pe_callB call_len_seq (by rfl) B.len PySem.boot_len (pa_cons (pv 1) pa_nil)) pe_int (nomark _))
   (pss_one (ps_ret pe_bl))
   pss_nil)
   (pss_cons (ps_if (pt_cmpR op_in_seq (pv 0) (pe_tup (pa_cons pe_str (pa_cons pe_str (pa_cons pe_str pa_nil)))) (by rfl))
   (pss_one (ps_ret (pe_cmpR (op_eqD hr.units) (pv 1) (pe_lst (pa_cons pe_str pa_nil)) (nomark _))))
   pss_nil)
   (pss_cons (ps_if (pt_cmpR op_in_seq (pv 0) (pe_tup (pa_cons pe_str (pa_cons pe_str pa_nil))) (by rfl))
   (pss_one (ps_ret (pe_and (pe_cmpR op_eq (pe_callB call_len_seq (by rfl) B.len PySem.boot_len (pa_cons (pv 1) pa_nil)) pe_int (nomark _)) (pe_one (pe_cmpR op_in_seq (pe_ix ix_list (pv 1) pe_int (fun _ _ => rfl)) (pe_tup (pa_cons pe_str (pa_cons pe_str (pa_cons pe_str pa_nil)))) (by rfl))))))
   pss_nil)
   (pss_cons (ps_if (pt_cmpR op_eq (pv 0) pe_str (nomark _))
   (pss_one (ps_ret (pe_and (pe_kn kn_all_rain (hr.mono (by decide)) rfl pass0 (pa_cons (pv 1) pa_nil)) (pe_one (pe_cmpR op_notIn_seq pe_str (pv 1) (by rfl))))))
   pss_nil)
   (pss_cons (ps_if (pt_cmpR op_eq (pv 0) pe_str (nomark _))
   (pss_one (ps_ret (pe_or (pe_cmpR op_in_seq (pe_ix ix_list (pv 1) pe_int (fun _ _ => rfl)) (pe_tup (pa_cons pe_str (pa_cons pe_str pa_nil))) (by rfl)) (pe_one (pe_cmpR (op_eqD hr.units) (pv 1) (pe_lst (pa_cons pe_str pa_nil)) (nomark _))))))
   pss_nil)
   (pss_one (ps_ret pe_bl)))))))), ?_⟩
  unfold mannerFits at ret
  refine ⟨_, rfl, rfl, _, rfl, ?_⟩
  rw [eqStr]
  refine iteB (fun e => ?_) (fun e => ?_)
  ·rw [if_pos (of_decide_eq_true e)] at ret
   exact ⟨_, rfl, p, ks, rfl, hk, ret⟩
  ·rw [if_neg (of_decide_eq_false e)] at ret
   refine ⟨_, rfl, p, _, rfl, .inl hk.sq, rfl, _, rfl, ?_⟩
   rw [dec_intV, List.length_map]
   have e0 : decide ((ks.length : Int) = 0) = decide (ks.length = 0) := by rw [Bool.eq_iff_iff]; simp
   rw [e0]
   refine iteB (fun e => ?_) (fun e => ?_)
   ·rw [if_pos (of_decide_eq_true e)] at ret
    exact ret H (Same.refl H)
   ·rw [if_neg (of_decide_eq_false e)] at ret
    match ks, hk, ret, e with
    | [], _, _, e => cases e
    | k :: l, hk, ret, _ =>
    refine ⟨_, rfl, in_tup ["MI", "BC", "PR"] (by decide) fun H1 s1 => ⟨_, rfl, ?_⟩⟩
    refine iteB (fun e => ?_) (fun e => ?_)
    ·rw [if_pos (show [Kwc.text "MI", Kwc.text "BC", Kwc.text "PR"].contains m = true from e)] at ret
     exact ⟨_, rfl, is_FG (hk.same s1) fun H2 s2 => ret _ (s1.trans s2)⟩
    ·rw [if_neg (by rw [show [Kwc.text "MI", Kwc.text "BC", Kwc.text "PR"].contains m = false from e]; decide)] at ret
     refine ⟨_, rfl, in_tup ["DR", "BL"] (by decide) fun H2 s2 => ⟨_, rfl, ?_⟩⟩
     have s12 := s1.trans s2
     refine iteB (fun e => ?_) (fun e => ?_)
     ·rw [if_pos (show [Kwc.text "DR", Kwc.text "BL"].contains m = true from e)] at ret
      refine ⟨_, rfl, p, _, rfl, .inl (s12.seq hk.sq), rfl, _, rfl, ?_⟩
      rw [dec_intV]
      have e1 : decide ((((k :: l).map strV).length : Int) = 1) = ((k :: l).length == 1) := by
       rw [List.length_map, Bool.eq_iff_iff]
       simp
       exact ⟨fun h => List.length_eq_zero_iff.mp (by omega), fun h => by rw [h]; rfl⟩
      rw [e1]
      refine iteB (fun e => ?_) (fun e => ?_)
      ·rw [e, Bool.true_and] at ret
       refine ⟨_, rfl, p, _, _, _, rfl, rfl, s12.seq hk.sq, at_of (j := 0) (v := strV k) rfl rfl, in_tup ["SN", "DU", "SA"] (by decide) fun H3 s3 => ?_⟩
       exact ret H3 (s12.trans s3)
      ·rw [e, Bool.false_and] at ret
       exact ret H2 s12
     ·rw [if_neg (by rw [show [Kwc.text "DR", Kwc.text "BL"].contains m = false from e]; decide)] at ret
      refine ⟨_, rfl, rfl, _, rfl, ?_⟩
      rw [eqStr]
      refine iteB (fun e => ?_) (fun e => ?_)
      ·rw [if_pos (of_decide_eq_true e)] at ret
       refine ⟨_, rfl, p, k :: l, rfl, hk.same s12, fun H3 s3 => ⟨_, rfl, ?_⟩⟩
       refine iteB (fun e => ?_) (fun e => ?_)
       ·rw [e, Bool.true_and] at ret
        refine ⟨_, rfl, p, _, rfl, .inl ((s12.trans s3).seq hk.sq), rfl, flat_strs _, ?_⟩
        rw [if_pos rfl, ofS "DZ", inV_S]
        exact ret H3 (s12.trans s3)
       ·rw [e, Bool.false_and] at ret
        exact ret H3 (s12.trans s3)
      ·rw [if_neg (of_decide_eq_false e)] at ret
       refine ⟨_, rfl, rfl, _, rfl, ?_⟩
       rw [eqStr]
       refine iteB (fun e => ?_) (fun e => ?_)
       ·rw [if_pos (of_decide_eq_true e)] at ret
        refine ⟨_, rfl, p, _, _, _, rfl, rfl, s12.seq hk.sq, at_of (j := 0) (v := strV k) rfl rfl, in_tup ["DZ", "RA"] (by decide) fun H3 s3 => ⟨_, rfl, ?_⟩⟩
        refine iteB (fun e => ?_) (fun e => ?_)
        ·rw [show [Kwc.text "DZ", Kwc.text "RA"].contains ((k :: l).headD []) = true from e, Bool.true_or] at ret
         exact ret H3 (s12.trans s3)
        ·rw [show [Kwc.text "DZ", Kwc.text "RA"].contains ((k :: l).headD []) = false from e, Bool.false_or] at ret
         exact ⟨_, rfl, is_FG ((hk.same s12).same s3) fun H4 s4 => ret _ ((s12.trans s3).trans s4)⟩
       ·rw [if_neg (of_decide_eq_false e)] at ret
        exact ret H2 s12
abbrev st_weather_fits : Stmt := top 62
theorem sc_weather_fits : FnScope ["strength", "manner", "kinds"] ["strength", "manner", "kinds"] (defScope st_weather_fits) := ⟨rfl, rfl, rfl, by decide +kernel, rfl, by decide +kernel, by decide +kernel⟩
theorem kn_wfit (N : TopFn K mg "weather_fits" st_weather_fits) (kn_kinds_fit : Known P w K mg base CX0 2 "kinds_fit" ["kinds"] (spKindsFit K)) (kn_strength_fits : Known P w K mg base CX0 1 "strength_fits" ["strength", "kinds"] (spStrFits K)) (kn_manner_fits : Known P w K mg base CX0 2 "manner_fits" ["manner", "kinds"] (spMannerFits K)) : Known P w K mg base CX0 3 "weather_fits" ["strength", "manner", "kinds"] (spWxFits K) := by
 refine known_of N (fun _ _ _ _ _ _ us hl => match us, hl with | [_, _, _], _ => rfl) fun f fd Fu => ?_
 refine Fu.ok sc_weather_fits (fun vs H Q E h => ?_) (fun cdv A outer s H vs Q E hr h => ?_)
 ·obtain ⟨t, m, p, ks, rfl, _⟩ := h
  rfl
 ·obtain ⟨t, m, p, ks, rfl, hm, hk, ret⟩ := h
  refine ⟨_, (pss_one (ps_ret (pe_and (pe_kn kn_kinds_fit (hr.mono (by decide)) rfl pass0 (pa_cons (pv 2) pa_nil)) (pe_and (pe_kn kn_strength_fits (hr.mono (by decide)) rfl pass0 (pa_cons (pv 0) (pa_cons (pv 2) pa_nil))) (pe_one (pe_kn kn_manner_fits (hr.mono (by decide)) rfl pass0 (pa_cons (pv 1) (pa_cons (pv 2) pa_nil)))))))), ?_⟩
  unfold wxFits at ret
  refine ⟨_, rfl, p, ks, rfl, hk, fun H1 s1 => ⟨_, rfl, ?_⟩⟩
  refine iteB (fun e => ?_) (fun e => ?_)
  ·rw [e, Bool.true_and] at ret
   refine ⟨_, rfl, _, rfl, t, p, ks, rfl, hk.same s1, fun H2 s2 => ⟨_, rfl, ?_⟩⟩
   refine iteB (fun e => ?_) (fun e => ?_)
   ·rw [e, Bool.true_and] at ret
    exact ⟨_, rfl, _, rfl, m, p, ks, rfl, hm, hk.same (s1.trans s2), ret.mono (s1.trans s2)⟩
   ·rw [e, Bool.false_and] at ret
    exact ret H2 (s1.trans s2)
  ·rw [e, Bool.false_and, Bool.false_and] at ret
   exact ret H1 s1
abbrev st_weather_numbers : Stmt := top 64
theorem sc_weather_numbers : FnScope ["strength", "manner", "kinds", "all_kinds", "manner_number", "kind"] ["strength", "manner", "kinds"] (defScope st_weather_numbers) := ⟨rfl, rfl, rfl, by decide +kernel, rfl, by decide +kernel, by decide +kernel⟩
theorem kn_wnum (N : TopFn K mg "weather_numbers" st_weather_numbers) (B : Bt mg) (gR : TG K mg "RAIN_KINDS" RAIN) (gO : TG K mg "OTHER_KINDS" OTHR) (gM : TG K mg "MANNERS" MANN) : Known P w K mg base CX0 1 "weather_numbers" ["strength", "manner", "kinds"] (spWxNum K) := by
 obtain ⟨aR, g_RAIN_KINDS, sqR, _⟩ := gR.get
 obtain ⟨aO, g_OTHER_KINDS, sqO, _⟩ := gO.get
 obtain ⟨aM, g_MANNERS, sqM, xM⟩ := gM.get
 refine known_of N (fun _ _ _ _ _ _ us hl => match us, hl with | [_, _, _], _ => rfl) fun f fd Fu => ?_
 refine Fu.ok sc_weather_numbers (fun vs H Q E h => ?_) (fun cdv A outer s H vs Q E hr h => ?_)
 ·obtain ⟨t, m, p, ks, rfl, _⟩ := h
  rfl
 ·obtain ⟨t, m, p, ks, rfl, hm, hk, hkn, ret⟩ := h
  refine ⟨_, (pss_cons (ps_set (i := 3) sc_weather_numbers.nd rfl (by first | exact Or.inl rfl | exact Or.inr rfl) (pe_op op_catX (pe_gv g_RAIN_KINDS (by rfl)) (pe_gv g_OTHER_KINDS (by rfl))))
   (pss_cons (ps_set (i := 4) sc_weather_numbers.nd rfl (by first | exact Or.inl rfl | exact Or.inr rfl) (pe_ifExp (pt_cmpR op_eq (pv 1) pe_str (nomark _)) pe_int (pe_op op_add (pe_bm PySem.F.plainAttrs_tuple PySem.F.slot_tuple_index PySem.F.type_tuple_index mt_indexT (pe_gv g_MANNERS (by rfl)) (pa_cons (pv 1) pa_nil)) pe_int)))
   (pss_one (ps_ret (pe_op op_cat (pe_lst (pa_cons (pv 0) (pa_cons (pv 4) (pa_cons (pe_callB call_len_seq (by rfl) B.len PySem.boot_len (pa_cons (pv 2) pa_nil)) pa_nil)))) (pe_lc rfl sc_weather_numbers.nd (pi_list (pv 2)) (blkOk_by (own := [("kind", 5)]) (by kernel_rfl)) (fun _ _ _ _ _ => pg_name (i := 5) sc_weather_numbers.nd rfl (Or.inl rfl)) (fun _ _ _ _ _ => pts_nil) (fun _ _ _ _ _ => (pe_op op_add (pe_idxX (pv 3) (pv 5)) pe_int)))))))), ?_⟩
  refine ⟨aR, aO, _, _, rfl, rfl, sqR H, sqO H, by decide, by decide, by decide, fun a ha => ?_⟩
  obtain ⟨H1, s1, h1, e1⟩ : ∃ H1, Same H H1 /\ H1 a = some (dtup a (KN.map strV)) /\ H1 = upd H a (dtup a (List.map strV RAIN ++ List.map strV OTHR)) := ⟨_, same_new (Same.refl H) ha, by rw [<- List.map_append]; exact upd_same, rfl⟩
  rw [<- e1]
  dsimp only [gName, tSeq, tAsg]
  refine via (V.int ((if m = [] then 0 else ix MANN m : Nat) : Int)) (fun Q' hq => ?_) ?_
  ·refine ⟨_, rfl, rfl, _, rfl, ?_⟩
   rw [eqStr]
   refine iteB (fun e => ?_) (fun e => ?_)
   ·have : m = [] := of_decide_eq_true e
    rw [if_pos this] at hq
    exact hq
   ·have hne : ¬ m = [] := of_decide_eq_false e
    rw [if_neg hne] at hq
    obtain ⟨oM, lM1, lM2, lM3⟩ := xM
    refine ⟨.inr (.inl ⟨rfl, oM, lM1, lM2, lM3⟩), _, rfl, ?_⟩
    dsimp only [tCons, tNil]
    refine idx_read (c := m) (sqM H1) (hm.resolve_left hne) ?_
    exact ⟨_, _, rfl, rfl, hq⟩
  ·refine ⟨_, rfl, _, rfl, _, rfl, p, _, rfl, .inl (s1.seq hk.sq), (by show 3 ≤ sizeLine; decide), fun l hl => ?_⟩
   obtain ⟨H2, s2, h2, e2⟩ : ∃ H2, Same H1 H2 /\ H2 l = some (.lst [V.int (t : Int), V.int ((if m = [] then 0 else ix MANN m : Nat) : Int), V.int (((ks.map strV).length : Nat) : Int)]) /\ H2 = upd H1 l (.lst [V.int (t : Int), V.int ((if m = [] then 0 else ix MANN m : Nat) : Int), V.int (((ks.map strV).length : Nat) : Int)]) := ⟨_, same_new (Same.refl _) hl, upd_same, rfl⟩
   have s12 := s1.trans s2
   refine Eq.mp (congrArg (fun h => tLc _ _ _ _ _ _ h _) e2) ?_
   refine rd_list (d := []) (f := strV) (val := fun k => V.int ((ix KN k : Nat) : Int)) rfl (s12.seq hk.sq) hk.lt (fun i H' k hi hs hkk => ?_) (fun H3 D s3 hD hd => ?_)
   ·have hmem : ks.getD i [] ∈ KN := hkn _ (by rw [List.getD_eq_getElem?_getD, List.getElem?_eq_getElem hi]; exact List.getElem_mem hi)
    obtain ⟨i1, i2⟩ := idx_at hmem
    have ha' : H' a = some (dtup a (KN.map strV)) := hs _ _ (s2 _ _ h1)
    refine ⟨_, rfl, a, _, rfl, ha', _, rfl, ha', rfl, flat_strs _, KN.idxOf (ks.getD i []), strV (ks.getD i []), (by rw [List.getElem?_map, i1]; rfl), (by rw [eqV_S]; simp), fun m' z' hm' hz' => ?_, ⟨_, _, rfl, rfl, hkk H' (Same.refl _)⟩⟩
    rw [List.getElem?_map] at hz'
    cases e : KN[m']? with
    | none => rw [e] at hz'; cases hz'
    | some z =>
     rw [e] at hz'
     have : strV z = z' := Option.some.inj hz'
     subst this
     rw [eqV_S, decide_eq_false (i2 m' z hm' e)]
   ·refine ⟨l, D, _, _, rfl, rfl, s3 _ _ h2, hd, (by rw [List.length_map]; have := hk.ln; exact small500' (by simp; omega)), fun q hq => ?_⟩
    refine ret _ q (same_new (s12.trans s3) hq) ((s12.trans s3).free hq) ?_
    rw [upd_same]
    simp [wxN, List.map_map]
end
end My
end
section
set_option Elab.async false
set_option linter.all false
set_option maxRecDepth 100000
set_option maxHeartbeats 4000000
namespace My
open PySem PySem.Spec PyProof.Rows L2 TL
theorem chop2_range : ∀ l : T, chop2 l = (List.range ((l.length + 1) / 2)).map fun i => (l.drop (i * 2)).take 2
 | [] => rfl
 | [a] => by show [[a]] = (List.range (2 / 2)).map _; rfl
 | a :: b :: l => by
  have e : ((a :: b :: l).length + 1) / 2 = (l.length + 1) / 2 + 1 := by simp only [List.length_cons]; omega
  rw [chop2, chop2_range l, e, List.range_succ_eq_map, List.map_cons, List.map_map]
  congr 1
  apply List.map_congr_left
  intro i _
  show _ = ((a :: b :: l).drop ((i + 1) * 2)).take 2
  rw [show (i + 1) * 2 = i * 2 + 2 from by omega]
  rfl
theorem rg_even {n : Nat} (h : n ≤ 500) : RgC 0 (n : Nat) 2 ((n + 1) / 2) := by
 have e : Builtin.Range.rangeSize 0 (n : Nat) 2 = (((n + 1) / 2 : Nat) : Int) := by
  unfold Builtin.Range.rangeSize
  rw [if_pos (by decide)]
  split <;> omega
 refine ⟨by decide, by decide, ?_, e⟩
 unfold Builtin.Range.small
 rw [e]
 have f : ∀ z : Int, -1000 ≤ z -> z ≤ 1000 -> Builtin.Range.rangeFitsLong z = true := fun z h1 h2 => by
  unfold Builtin.Range.rangeFitsLong
  simp
  omega
 rw [f 0 (by decide) (by decide), f n (by omega) (by omega), f 2 (by decide) (by decide), f _ (by omega) (by omega), if_pos (by decide), f _ (by omega) (by omega)]
 simp
theorem plain_nil : Plain [] := ⟨fun c h => (by cases h), by decide⟩
theorem chop2_kinds {K : PySem.W.Frag} {H : Hp} {p : Addr} {l : T} (hp : Plain l) (h : H p = some (.lst ((chop2 l).map strV))) : Kinds K H p (chop2 l) := by
 refine ⟨SqL.of h, fun k hk => ?_, ?_⟩
 ·rw [chop2_range] at hk
  obtain ⟨i, _, rfl⟩ := List.mem_map.mp hk
  exact (hp.drop _).take _
 ·rw [chop2_range, List.length_map, List.length_range]
  have := hp.ln
  omega
theorem wx_small {p : T} {x : Kwc.Wx} (h : weatherOf p = some x) : x.kinds.length ≤ 3 := by
 unfold weatherOf at h
 dsimp only at h
 split at h
 ·cases h
 ·split at h
  ·cases h
  ·rename_i h2
   have h2 := (Bool.not_eq_false _).mp h2
   unfold wxFits kindsFit at h2
   injection h with h
   subst h
   rw [List.length_map]
   by_cases c : 3 < (chop2 (List.drop (mannerOf (bodyOf p)).length (bodyOf p))).length
   ·rw [if_pos (.inl c)] at h2
    simp at h2
   ·omega
section
variable {P : Program} {w : World} {K : PySem.W.Frag} {mg : Str -> Option Value} {base : Heap}
abbrev st_weather_of : Stmt := top 65
theorem sc_weather_of : FnScope ["word", "strength", "body", "manner", "rest", "kinds", "k", "kind"] ["word"] (defScope st_weather_of) := ⟨rfl, rfl, rfl, by decide +kernel, rfl, by decide +kernel, by decide +kernel⟩
theorem kn_wx (N : TopFn K mg "weather_of" st_weather_of) (B : Bt mg) (g_NEITHER : GV mg "NEITHER" (.int 1)) (gR : TG K mg "RAIN_KINDS" RAIN) (gO : TG K mg "OTHER_KINDS" OTHR) (gM : TG K mg "MANNERS" MANN)
  (kn_strength_of : Known P w K mg base CX0 1 "strength_of" ["word"] (sp1 rStrength)) (kn_weather_fits : Known P w K mg base CX0 3 "weather_fits" ["strength", "manner", "kinds"] (spWxFits K)) (kn_weather_numbers : Known P w K mg base CX0 1 "weather_numbers" ["strength", "manner", "kinds"] (spWxNum K)) : Known P w K mg base CX0 4 "weather_of" ["word"] (sp1 rWx) := by
 obtain ⟨aR, g_RAIN_KINDS, sqR, _⟩ := gR.get
 obtain ⟨aO, g_OTHER_KINDS, sqO, _⟩ := gO.get
 obtain ⟨aM, g_MANNERS, sqM, _⟩ := gM.get
 refine known_of N (fun _ _ _ _ _ _ us hl => match us, hl with | [_], _ => rfl) fun f fd Fu => ?_
 refine Fu.ok sc_weather_of (fun vs H Q E h => ?_) (fun cdv A outer s H vs Q E hr h => ?_)
 ·obtain ⟨p, rfl, _⟩ := h
  rfl
 ·obtain ⟨p, rfl, hp, ret⟩ := h
  refine ⟨_, (pss_cons (ps_set (i := 1) sc_weather_of.nd rfl (by first | exact Or.inl rfl | exact Or.inr rfl) (pe_kn kn_strength_of (hr.mono (by decide)) rfl pass0 (pa_cons (pv 0) pa_nil)))
   (pss_cons (ps_set (i := 2) sc_weather_of.nd rfl (by first | exact Or.inl rfl | exact Or.inr rfl) (pe_ifExp (pt_cmpR op_eq (pv 1) (pe_gv g_NEITHER (by rfl)) (nomark _)) (pv 0) (pe_slice sl_str (pv 0) (po_some pe_int) po_none)))
   (pss_cons (ps_set (i := 3) sc_weather_of.nd rfl (by first | exact Or.inl rfl | exact Or.inr rfl) (pe_ifExp (pt_cmpR op_in_seq (pe_slice sl_str (pv 2) po_none (po_some pe_int)) (pe_gv g_MANNERS (by rfl)) (by rfl)) (pe_slice sl_str (pv 2) po_none (po_some pe_int)) pe_str))
   (pss_cons (ps_set (i := 4) sc_weather_of.nd rfl (by first | exact Or.inl rfl | exact Or.inr rfl) (pe_slice sl_str (pv 2) (po_some (pe_callB call_len_str (by rfl) B.len PySem.boot_len (pa_cons (pv 3) pa_nil))) po_none))
   (pss_cons (ps_setLc (i := 5) rfl sc_weather_of.nd rfl rfl rfl (pi_range3 (by rfl) B.range (pa_cons pe_int (pa_cons (pe_callB call_len_str (by rfl) B.len PySem.boot_len (pa_cons (pv 4) pa_nil)) (pa_cons pe_int pa_nil)))) (blkOk_by (own := [("k", 6)]) (by kernel_rfl)) (fun _ _ _ _ _ => pg_name (i := 6) sc_weather_of.nd rfl (Or.inl rfl)) (fun _ _ _ _ _ => pts_nil) (fun _ _ _ _ _ => (pe_slice sl_str (pv 4) (po_some (pv 6)) (po_some (pe_op op_add (pv 6) pe_int)))))
   (pss_cons (ps_if (pt_not (pt_val (pe_callB (call_allB rfl) (by rfl) B.all bt_all (pa_cons (pe_lc rfl sc_weather_of.nd (pi_list (pv 5)) (blkOk_by (own := [("kind", 7)]) (by kernel_rfl)) (fun _ _ _ _ _ => pg_name (i := 7) sc_weather_of.nd rfl (Or.inl rfl)) (fun _ _ _ _ _ => pts_nil) (fun _ _ _ _ _ => (pe_or (pe_cmpR (op_inK K rfl) (pv 7) (pe_gv g_RAIN_KINDS (by rfl)) (by rfl)) (pe_one (pe_cmpR (op_inK K rfl) (pv 7) (pe_gv g_OTHER_KINDS (by rfl)) (by rfl)))))) pa_nil))))
   (pss_one (ps_ret pe_non))
   pss_nil)
   (pss_cons (ps_if (pt_not (pt_val (pe_kn kn_weather_fits (hr.mono (by decide)) rfl pass0 (pa_cons (pv 1) (pa_cons (pv 3) (pa_cons (pv 5) pa_nil))))))
   (pss_one (ps_ret pe_non))
   pss_nil)
   (pss_one (ps_ret (pe_kn kn_weather_numbers (hr.mono (by decide)) rfl pass0 (pa_cons (pv 1) (pa_cons (pv 3) (pa_cons (pv 5) pa_nil))))))))))))), ?_⟩
  unfold rWx weatherOf at ret
  dsimp only at ret
  refine ⟨_, rfl, p, rfl, hp, fun H1 s1 => ?_⟩
  dsimp only [gName, tSeq, tAsg]
  refine via (strV (bodyOf p)) (fun Q' hq => ?_) ?_
  ·refine ⟨_, rfl, rfl, _, rfl, ?_⟩
   have e1 : decide (V.int ((strengthOf p : Nat) : Int) = V.int 1) = decide (strengthOf p = 1) := by rw [dec_intV, Bool.eq_iff_iff]; simp; omega
   rw [e1]
   unfold bodyOf at hq
   refine iteB (fun e => ?_) (fun e => ?_)
   ·rw [if_pos (of_decide_eq_true e)] at hq
    exact ⟨_, rfl, hq⟩
   ·rw [if_neg (of_decide_eq_false e)] at hq
    refine ⟨_, rfl, _, rfl, _, rfl, hp.size, ?_⟩
    rw [cut_S, cut_drop 1 1 rfl]
    exact hq
  have hb : Plain (bodyOf p) := by
   unfold bodyOf
   split
   ·exact hp
   ·exact hp.drop 1
  generalize bodyOf p = b at hb ret ⊢
  have c2 : cutS (S b) none (some 2) = S (b.take 2) := by rw [cut_S, cut_take 2 2 rfl]
  refine via (strV (mannerOf b)) (fun Q' hq => ?_) ?_
  ·refine ⟨_, rfl, _, rfl, _, rfl, hb.size, aM, _, rfl, .inr (sqM H1), rfl, flat_strs _, _, rfl, ?_⟩
   rw [c2, if_neg (by decide), inV_S]
   unfold mannerOf at hq
   refine iteB (fun e => ?_) (fun e => ?_)
   ·rw [if_pos e] at hq
    exact ⟨_, rfl, _, rfl, _, rfl, hb.size, by rw [c2]; exact hq⟩
   ·rw [if_neg (by rw [e]; decide)] at hq
    have e0 : Str.ofString "" = S [] := ofS ""
    show Q' (V.str (Str.ofString "")) H1
    rw [e0]
    exact hq
  have hm : Plain (mannerOf b) /\ (mannerOf b = [] \/ mannerOf b ∈ MANN) := by
   unfold mannerOf
   by_cases c : MANN.contains (b.take 2) = true
   ·rw [if_pos c]
    exact ⟨hb.take 2, .inr (by simpa using c)⟩
   ·rw [if_neg c]
    exact ⟨plain_nil, .inl rfl⟩
  generalize mannerOf b = m at hm ret ⊢
  have cd : cutS (S b) (some (((S m).length : Nat) : Int)) none = S (b.drop m.length) := by rw [cut_S, S_len, cut_drop _ _ rfl]
  refine ⟨_, rfl, _, rfl, _, rfl, hm.1.size, _, rfl, _, rfl, hb.size, ?_⟩
  rw [cd]
  have hr' : Plain (b.drop m.length) := hb.drop _
  generalize b.drop m.length = r at hr' ret ⊢
  dsimp only [gName, tSeq, tAsg]
  refine rd_even (m := r.length) (n := (r.length + 1) / 2) (val := fun i => strV ((r.drop (i * 2)).take 2)) (fun R h => ?_) (rg_even hr'.ln) (Nat.lt_of_le_of_lt (show (r.length + 1) / 2 ≤ 500 by have := hr'.ln; omega) (by decide)) (fun i H' k hi hs hkk => ?_) (fun H2 D s2 hD hd => ?_)
  ·refine ⟨_, rfl, _, rfl, hr'.size, ?_⟩
   rw [S_len]
   exact h
  ·refine ⟨_, rfl, _, rfl, _, rfl, _, rfl, _, _, rfl, rfl, _, rfl, _, rfl, hr'.size, ?_⟩
   rw [cut_S, cut_mid _ _ (i * 2) (i * 2 + 2) (by simp) (by simp)]
   rw [show i * 2 + 2 - i * 2 = 2 from by omega]
   exact hkk H' (Same.refl _)
  ·have hd' : H2 D = some (.lst ((chop2 r).map strV)) := by rw [hd, chop2_range, List.map_map]; rfl
   have hk : Kinds K H2 D (chop2 r) := chop2_kinds hr' hd'
   have s12 := s1.trans s2
   generalize chop2 r = ks at hk ret ⊢
   dsimp only [tIfS, tNot, tB, tCB, tCons, tNil, tRet]
   refine rd_list (d := []) (f := strV) (val := fun k => V.bl (RAIN.contains k || OTHR.contains k)) rfl hk.sq hk.lt (fun i H' k hi hs hkk => ?_) (fun H3 L s3 hL hl => ?_)
   ·refine ⟨_, rfl, aR, _, rfl, .inr (sqR H'), rfl, flat_strs _, _, rfl, ?_⟩
    rw [if_neg (show ¬ (false = true) from by decide), inV_S]
    refine iteB (fun e => ?_) (fun e => ?_)
    ·have := hkk H' (Same.refl _)
     simp only [e, Bool.true_or] at this
     exact this
    ·refine ⟨_, rfl, aO, _, rfl, .inr (sqO H'), rfl, flat_strs _, ?_⟩
     rw [if_neg (show ¬ (false = true) from by decide), inV_S]
     have := hkk H' (Same.refl _)
     simp only [e, Bool.false_or] at this
     exact this
   ·refine ⟨L, ks.map fun k => (RAIN.contains k || OTHR.contains k), rfl, SqL.of (by rw [hl, List.map_map]; rfl), _, rfl, ?_⟩
    rw [all_map_id7]
    have s13 := s12.trans s3
    refine iteB (fun e => ?_) (fun e => ?_)
    ·rw [if_pos (nt e)] at ret
     exact ret H3 s13
    ·rw [if_neg (by rw [nf e]; decide)] at ret
     have hkn : ∀ k ∈ ks, k ∈ KN := fun k hkm => by
      have := List.all_eq_true.mp (nf e) k hkm
      unfold KN
      simpa using this
     refine ⟨_, rfl, _, rfl, _, rfl, strengthOf p, m, D, ks, rfl, hm.1, hk.same s3, fun H4 s4 => ⟨_, rfl, ?_⟩⟩
     refine iteB (fun e => ?_) (fun e => ?_)
     ·rw [if_pos (nt e)] at ret
      exact ret H4 (s13.trans s4)
     ·rw [if_neg (by rw [nf e]; decide)] at ret
      exact ⟨_, rfl, _, rfl, _, rfl, strengthOf p, m, D, ks, rfl, hm.2, (hk.same s3).same s4, hkn, ret.mono (s13.trans s4)⟩
abbrev st_changed_weather_of : Stmt := top 67
theorem sc_changed_weather_of : FnScope ["word", "found"] ["word"] (defScope st_changed_weather_of) := ⟨rfl, rfl, rfl, by decide +kernel, rfl, by decide +kernel, by decide +kernel⟩
theorem kn_chwx (N : TopFn K mg "changed_weather_of" st_changed_weather_of) (g_NO_WEATHER_WORD : GV mg "NO_WEATHER_WORD" (.str (Str.ofString "NSW"))) (kn_weather_of : Known P w K mg base CX0 4 "weather_of" ["word"] (sp1 rWx)) : Known P w K mg base CX0 5 "changed_weather_of" ["word"] (sp1 rChWx) := by
 refine known_of N (fun _ _ _ _ _ _ us hl => match us, hl with | [_], _ => rfl) fun f fd Fu => ?_
 refine Fu.ok sc_changed_weather_of (fun vs H Q E h => ?_) (fun cdv A outer s H vs Q E hr h => ?_)
 ·obtain ⟨p, rfl, _⟩ := h
  rfl
 ·obtain ⟨p, rfl, hp, ret⟩ := h
  refine ⟨_, (pss_cons (ps_if (pt_cmpR op_eq (pv 0) (pe_gv g_NO_WEATHER_WORD (by rfl)) (nomark _))
   (pss_one (ps_ret (pe_lst (pa_cons pe_int pa_nil))))
   pss_nil)
   (pss_cons (ps_set (i := 1) sc_changed_weather_of.nd rfl (by first | exact Or.inl rfl | exact Or.inr rfl) (pe_kn kn_weather_of (hr.mono (by decide)) rfl pass0 (pa_cons (pv 0) pa_nil)))
   (pss_one (ps_ret (pe_ifExp (pt_cmp (pc_isN (pv 1))) pe_non (pe_op op_cat (pe_lst (pa_cons pe_int pa_nil)) (pv 1))))))), ?_⟩
  unfold rChWx changedWx at ret
  refine ⟨_, rfl, rfl, _, rfl, ?_⟩
  rw [eqStr]
  refine iteB (fun e => ?_) (fun e => ?_)
  ·rw [if_pos (of_decide_eq_true e)] at ret
   exact ⟨by decide, fun q hq => ret _ q (same_new (Same.refl _) hq) hq upd_same⟩
  ·rw [if_neg (of_decide_eq_false e)] at ret
   refine ⟨_, rfl, p, rfl, hp, ?_⟩
   unfold rWx
   cases e1 : weatherOf p with
   | none =>
    rw [e1] at ret
    exact fun H1 s1 => ⟨_, rfl, _, rfl, ret H1 s1⟩
   | some x =>
    rw [e1] at ret
    refine fun H1 q s1 hq hq1 => ⟨_, rfl, _, rfl, ?_⟩
    refine ⟨by decide, fun l hl => ?_⟩
    have s2 : Same H1 (upd H1 l (.lst [V.int 1])) := same_new (Same.refl _) hl
    refine ⟨_, rfl, l, q, _, _, rfl, rfl, upd_same, s2 _ _ hq1, ?_, fun l2 hl2 => ?_⟩
    ·have := wx_small e1
     refine small500 ?_
     simp [wxN]
     omega
    ·refine ret _ l2 (same_new (s1.trans s2) hl2) ((s1.trans s2).free hl2) ?_
     rw [upd_same]
     simp [Kwc.wxNumbers, wxN]
end
end My
end
section
set_option Elab.async false
set_option linter.all false
set_option maxRecDepth 100000
set_option maxHeartbeats 4000000
namespace My
open PySem PySem.Spec PyProof.Rows L2 TL
theorem Known.rd {P : Program} {w : World} {K : PySem.W.Frag} {mg : Str -> Option Value} {base : Heap} {k : Nat} {x : Str} {ps : List Str} {g : T -> RV} (N : Known P w K mg base CX0 k x ps (sp1 g)) (hk : k ≤ 9) : ∃ f, GV mg x (.ref f) /\ RdOk P w K mg base f g := by
 obtain ⟨f, fd, m, kp, b, G⟩ := N.ex
 exact ⟨f, ⟨_, m, rfl⟩, kp, k, fd, ps, G, hk, b⟩
theorem CurAt.obj {C : Addr} {H : Hp} {p : Addr} {l : List T} (c : CurAt C H p l) : ∃ (dx : Addr) (fs : List (Str × V)), H p = some (.ins C dx fs) /\ ∀ m : Str, ¬ m = "words" -> ¬ m = "place" -> fs.lookup m = none := by
 obtain ⟨dx, wl, ws, k, h1, h2⟩ := c.ex
 exact ⟨dx, _, h1, fun m => cuF_no _ _⟩
theorem CurAt.plain {C : Addr} {H : Hp} {p : Addr} {l : List T} (c : CurAt C H p l) : Plain (l.headD []) := by
 obtain ⟨dx, wl, ws, k, h1, h2, h3, h4, h5⟩ := c.ex
 rw [h3, head_getD]
 cases e : ws[k]? with
 | none => exact nil_plain
 | some x => exact h4 x (List.mem_of_getElem? e)
theorem CurAt.put {C : Addr} {H : Hp} {p q : Addr} {l : List T} {xs ys : List V} (c : CurAt C H p l) (hq : H q = some (.lst xs)) (ht : ∀ t, V.str t ∉ xs) : CurAt C (upd H q (.lst ys)) p l := by
 obtain ⟨dx, wl, ws, k, h1, h2, h3, h4, h5⟩ := c.ex
 refine ⟨dx, wl, ws, k, ?_, ?_, h3, h4, h5⟩
 ·rw [upd_ne (fun e => by rw [e, hq] at h1; cases h1)]; exact h1
 ·rw [upd_ne (fun e => ?_)]
  ·exact h2
  ·rw [e, hq] at h2
   match ws, h5.2, h2 with
   | a :: r, _, h2 =>
    have : xs = (a :: r).map strV := by injection h2 with h2; injection h2
    exact ht (S a) (by rw [this]; simp)
theorem But.put {p q : Addr} {H H1 : Hp} {o : HO} (b : But p H H1) (hq : H q = none) : But p H (upd H1 q o) := fun c o e n => by
 rw [upd_ne (ne_of_none e hq)]
 exact b c o e n
theorem But.free {p q : Addr} {H H1 : Hp} (b : But p H H1) (hq : H1 q = none) (hp : q ≠ p) : H q = none := by
 cases e : H q with
 | none => rfl
 | some o => rw [b q o e hp] at hq; cases hq
theorem no_ref (as : List Addr) : ∀ t, V.str t ∉ as.map V.ref := fun t h => by
 obtain ⟨a, _, e⟩ := List.mem_map.mp h
 cases e
theorem no_int (ns : List Int) : ∀ t, V.str t ∉ ns.map V.int := fun t h => by
 obtain ⟨a, _, e⟩ := List.mem_map.mp h
 cases e
theorem LaysAt.ne {H : Hp} {p a : Addr} {as : List Addr} {cs : List Kwc.Cloud} {c : Kwc.Cloud} (L : LaysAt H p as cs) (h : H a = some (.lst ((cloudN c).map V.int))) : a ≠ p := fun e => by
 rw [e, L.lst] at h
 injection h with h
 injection h with h
 match as, h with
 | [], h => cases h
 | x :: r, h => cases h
theorem LaysAt.add {H H' : Hp} {p a : Addr} {as : List Addr} {cs : List Kwc.Cloud} {c : Kwc.Cloud} (L : LaysAt H p as cs) (h : H a = some (.lst ((cloudN c).map V.int))) : LaysAt (upd H p (.lst (as.map V.ref ++ [.ref a]))) p (as ++ [a]) (cs ++ [c]) := by
 refine ⟨by rw [upd_same, List.map_append]; rfl, by simp [L.len], fun j x y hx hy => ?_⟩
 by_cases hj : j < as.length
 ·rw [List.getElem?_append_left hj] at hx
  rw [List.getElem?_append_left (by rw [<- L.len]; exact hj)] at hy
  have := L.at_ j x y hx hy
  rw [upd_ne (L.ne this)]
  exact this
 ·have hl := L.len
  rw [List.getElem?_append_right (by omega)] at hx
  rw [List.getElem?_append_right (by omega)] at hy
  have ej : j - as.length = 0 := by
   cases e : j - as.length with
   | zero => rfl
   | succ n => rw [e] at hx; cases hx
  rw [ej] at hx
  rw [show j - cs.length = 0 from by omega] at hy
  cases hx
  cases hy
  rw [upd_ne (L.ne h)]
  exact h
theorem LaysAt.but {H H' : Hp} {p q : Addr} {as : List Addr} {cs : List Kwc.Cloud} {C : Addr} {l : List T} (L : LaysAt H q as cs) (b : But p H H') (c : CurAt C H p l) : LaysAt H' q as cs :=
 ⟨b _ _ L.lst (c.ne L.lst), L.len, fun j x y hx hy => b _ _ (L.at_ j x y hx hy) (c.ne (L.at_ j x y hx hy))⟩
theorem LaysAt.same {H H' : Hp} {q : Addr} {as : List Addr} {cs : List Kwc.Cloud} (L : LaysAt H q as cs) (s : Same H H') : LaysAt H' q as cs :=
 ⟨s _ _ L.lst, L.len, fun j x y hx hy => s _ _ (L.at_ j x y hx hy)⟩
def LayV (H' : Hp) (w : T) (v : V) : Prop := match layerOf w with
 | none => v = .non
 | some c => ∃ a, v = .ref a /\ H' a = some (.lst ((cloudN c).map V.int))
structure LayInv (C : Addr) (H : Hp) (p q : Addr) (l : List T) (m : Nat) (σ : L2.St) (H' : Hp) : Prop where
 ex : ∃ (acc : List Kwc.Cloud) (rest : List T) (as : List Addr) (v : V), m = rest.length /\ σ = [some (.ref p), some (.ref q), some v] /\ But p H H' /\ CurAt C H' p rest /\ LaysAt H' q as acc /\ acc.length ≤ 4 /\
  layersFrom [] l = layersFrom acc rest /\ LayV H' (rest.headD []) v
theorem layer_nil : layerOf [] = none := by decide
theorem follows_lt {cs : List Kwc.Cloud} {c : Kwc.Cloud} (h : follows cs c = true) : cs.length < 4 := by
 unfold follows at h
 split at h
 ·rename_i e
  have : cs = [] := by simpa using e
  rw [this]; decide
 ·simp at h
  exact h.1
section
variable {P : Program} {w : World} {K : PySem.W.Frag} {mg : Str -> Option Value} {base : Heap} {C XC : Addr}
abbrev st_layer_follows : Stmt := top 43
theorem sc_layer_follows : FnScope ["layers", "layer", "before"] ["layers", "layer"] (defScope st_layer_follows) := ⟨rfl, rfl, rfl, by decide +kernel, rfl, by decide +kernel, by decide +kernel⟩
theorem kn_follows (N : TopFn K mg "layer_follows" st_layer_follows) (B : Bt mg) (g_MOST_LAYERS : GV mg "MOST_LAYERS" (.int 4)) (g_OVERCAST : GV mg "OVERCAST" (.int 4)) : Known P w K mg base CX0 1 "layer_follows" ["layers", "layer"] spFollows := by
 refine known_of N (fun _ _ _ _ _ _ us hl => match us, hl with | [_, _], _ => rfl) fun f fd Fu => ?_
 refine Fu.ok sc_layer_follows (fun vs H Q E h => ?_) (fun cdv A outer s H vs Q E hr h => ?_)
 ·obtain ⟨p, q, as, cs, c, rfl, _⟩ := h
  rfl
 ·obtain ⟨p, q, as, cs, c, rfl, L, hc, hq, ret⟩ := h
  refine ⟨_, (pss_cons (ps_if (pt_cmpR op_eq (pe_callB call_len_seq (by rfl) B.len PySem.boot_len (pa_cons (pv 0) pa_nil)) pe_int (nomark _))
   (pss_one (ps_ret pe_bl))
   pss_nil)
   (pss_cons (ps_set (i := 2) sc_layer_follows.nd rfl (by first | exact Or.inl rfl | exact Or.inr rfl) (pe_ix ix_list (pv 0) (pe_un un_neg pe_int) (fun _ _ => rfl)))
   (pss_one (ps_ret (pe_and (pe_cmpR op_lt (pe_callB call_len_seq (by rfl) B.len PySem.boot_len (pa_cons (pv 0) pa_nil)) (pe_gv g_MOST_LAYERS (by rfl)) (nomark _)) (pe_and (pe_cmpR op_ne (pe_ix ix_list (pv 2) pe_int (fun _ _ => rfl)) (pe_gv g_OVERCAST (by rfl)) (nomark _)) (pe_one (pe_cmpR op_ge (pe_ix ix_list (pv 1) pe_int (fun _ _ => rfl)) (pe_ix ix_list (pv 2) pe_int (fun _ _ => rfl)) (nomark _))))))))), ?_⟩
  refine ⟨_, rfl, p, _, rfl, .inl (SqL.of L.lst), rfl, _, rfl, ?_⟩
  rw [dec_intV, List.length_map]
  rcases List.eq_nil_or_concat cs with e | ⟨cs', b, e⟩
  ·subst e
   have : as = [] := List.length_eq_zero_iff.mp L.len
   subst this
   exact iteT ret
  ·subst e
   rw [List.concat_eq_append] at *
   have hl := L.len
   rw [List.length_append] at hl
   rw [decide_eq_false (by simp at hl; omega)]
   refine iteF ?_
   rcases List.eq_nil_or_concat as with e | ⟨as', a, e⟩
   ·subst e; simp at hl
   subst e
   rw [List.concat_eq_append] at *
   have hll : as'.length = cs'.length := by simpa using hl
   have ha : H a = some (.lst ((cloudN b).map V.int)) := L.at_ as'.length a b (by simp) (by rw [hll]; simp)
   refine ⟨_, rfl, _, rfl, p, _, _, _, rfl, rfl, SqL.of L.lst, (by rw [List.map_append]; exact atI_last _ _), ?_⟩
   have ef : follows (cs' ++ [b]) c = (decide (cs'.length + 1 < 4) && (b.amount != 4 && decide (b.height ≤ c.height))) := by
    unfold follows
    simp
   rw [ef] at ret
   refine ⟨_, rfl, p, _, rfl, .inl (SqL.of L.lst), _, _, rfl, rfl, _, rfl, ?_⟩
   have e1 : decide ((((as' ++ [a]).map V.ref).length : Int) < 4) = decide (cs'.length + 1 < 4) := by
    rw [Bool.eq_iff_iff]; simp; omega
   rw [e1]
   refine iteB (fun e => ?_) (fun e => ?_)
   ·rw [e, Bool.true_and] at ret
    refine ⟨_, rfl, a, _, _, _, rfl, rfl, SqL.of ha, at_of (j := 0) rfl rfl, rfl, _, rfl, ?_⟩
    have e2 : (!decide (V.int (b.amount : Int) = V.int 4)) = (b.amount != 4) := by
     rw [dec_intV, Bool.eq_iff_iff]; simp; omega
    rw [e2]
    refine iteB (fun e => ?_) (fun e => ?_)
    ·rw [e, Bool.true_and] at ret
     refine ⟨_, rfl, q, _, _, _, rfl, rfl, SqL.of hq, at_of (j := 1) rfl rfl, _, rfl, a, _, _, _, rfl, rfl, SqL.of ha, at_of (j := 1) rfl rfl, _, _, rfl, rfl, ?_⟩
     have e3 : decide ((b.height : Int) ≤ (c.height : Int)) = decide (b.height ≤ c.height) := by rw [Bool.eq_iff_iff]; simp
     show Q (V.bl (decide ((b.height : Int) ≤ (c.height : Int)))) H
     rw [e3]
     exact ret
    ·rw [e, Bool.false_and] at ret
     exact ret
   ·rw [e, Bool.false_and] at ret
    exact ret
abbrev st_take_layers : Stmt := top 44
theorem sc_take_layers : FnScope ["cursor", "layers", "layer"] ["cursor"] (defScope st_take_layers) := ⟨rfl, rfl, rfl, by decide +kernel, rfl, by decide +kernel, by decide +kernel⟩
theorem kn_layers (N : TopFn K mg "take_layers" st_take_layers) (CU : CurOk K mg C) (M1 : KnM P w K mg base CX0 2 C "word" ["self"] (spWord C)) (M2 : KnM P w K mg base CX0 1 C "advance" ["self"] (spAdvance C)) (kn_layer_of : Known P w K mg base CX0 2 "layer_of" ["word"] (sp1 rLayer)) (kn_layer_follows : Known P w K mg base CX0 1 "layer_follows" ["layers", "layer"] spFollows) : Known P w K mg base CX0 3 "take_layers" ["cursor"] (spLayers C) := by
 obtain ⟨fw, fdw, me_word, bc_word, gc_word⟩ := M1.ex
 obtain ⟨fa, fda, me_advance, bc_advance, gc_advance⟩ := M2.ex
 refine known_of N (fun _ _ _ _ _ _ us hl => match us, hl with | [_], _ => rfl) fun f fd Fu => ?_
 refine Fu.ok sc_take_layers (fun vs H Q E h => ?_) (fun cdv A outer s H vs Q E hr h => ?_)
 ·obtain ⟨p, l, rfl, _⟩ := h
  rfl
 ·obtain ⟨p, l, rfl, cu, ret⟩ := h
  refine ⟨_, (pss_cons (ps_set (i := 1) sc_take_layers.nd rfl (by first | exact Or.inl rfl | exact Or.inr rfl) (pe_lst pa_nil))
   (pss_cons (ps_set (i := 2) sc_take_layers.nd rfl (by first | exact Or.inl rfl | exact Or.inr rfl) (pe_kn kn_layer_of (hr.mono (by decide)) rfl pass0 (pa_cons (pe_meth0 (pv 0) CU.cl me_word gc_word (hr.mono (by decide)) bc_word .nil pass0) pa_nil)))
   (pss_cons (ps_while PassesOwn.never (PW.pt (pw_and (pt_cmp (pc_notN (pv 2))) (pw_and1 (pt_val (pe_kn kn_layer_follows (hr.mono (by decide)) rfl pass0 (pa_cons (pv 1) (pa_cons (pv 2) pa_nil)))))))
   (pss_cons (ps_expr (pe_bm PySem.F.plainAttrs_list PySem.F.slot_list_append PySem.F.type_list_append mt_append (pv 1) (pa_cons (pv 2) pa_nil)))
   (pss_cons (ps_expr (pe_meth0 (pv 0) CU.cl me_advance gc_advance (hr.mono (by decide)) bc_advance .nil pass0))
   (pss_one (ps_set (i := 2) sc_take_layers.nd rfl (by first | exact Or.inl rfl | exact Or.inr rfl) (pe_kn kn_layer_of (hr.mono (by decide)) rfl pass0 (pa_cons (pe_meth0 (pv 0) CU.cl me_word gc_word (hr.mono (by decide)) bc_word .nil pass0) pa_nil)))))))
   (pss_one (ps_ret (pv 1)))))), ?_⟩
  refine ⟨(by show 0 ≤ sizeLine; decide), fun q hq => ?_⟩
  have s1 : Same H (upd H q (.lst [])) := same_new (Same.refl H) hq
  have L1 : LaysAt (upd H q (.lst [])) q [] [] := ⟨upd_same, rfl, fun j x y hx hy => by cases hx⟩
  have next : ∀ (H2 : Hp) (rest : List T) (Q' : VK), CurAt C H2 p rest -> (∀ H3 v, Same H2 H3 -> LayV H3 (rest.headD []) v -> Q' v H3) -> RetR H2 Q' (rLayer (rest.headD [])) := by
   intro H2 rest Q' cu2 k
   unfold rLayer
   cases e : layerOf (rest.headD []) with
   | none => exact fun H3 s3 => k H3 _ s3 (by unfold LayV; rw [e])
   | some c => exact fun H3 a s3 ha ha3 => k H3 _ s3 (by unfold LayV; rw [e]; exact ⟨a, rfl, ha3⟩)
  obtain ⟨dx, fs, ho, hno⟩ := cu.obj
  refine ⟨_, rfl, p, dx, fs, rfl, s1 _ _ ho, hno _ (by decide +kernel) (by decide +kernel), p, l, rfl, cu.same s1, _, rfl, cu.plain, next _ l _ (cu.same s1) fun H2 v s2 lv => ?_⟩
  refine ⟨LayInv C H p q l, ⟨_, ⟨[], l, [], v, rfl, rfl, But.of (s1.trans s2), cu.same (s1.trans s2), L1.same s2, by decide, rfl, lv⟩⟩, fun m σ H' hW => ?_⟩
  obtain ⟨acc, rest, as, v, em, eσ, bt, cu', L, hacc, hfrom, hv⟩ := hW.ex
  subst eσ
  refine ⟨_, rfl, _, rfl, ?_⟩
  unfold LayV at hv
  cases e : layerOf (rest.headD []) with
  | none =>
   rw [e] at hv
   subst hv
   refine iteF ?_
   have ef : layersFrom acc rest = (acc, rest) := by
    cases rest with
    | nil => rfl
    | cons x r =>
     have e' : layerOf x = none := e
     rw [layersFrom, e']
   refine ⟨_, rfl, ret H' q as bt ?_ hq ?_⟩
   ·rw [hfrom, ef]; exact cu'
   ·rw [hfrom, ef]; exact L
  | some c =>
   rw [e] at hv
   obtain ⟨a, rfl, ha⟩ := hv
   refine iteT ?_
   match rest, em, cu', hfrom, e with
   | [], _, _, _, e => rw [show ([] : List T).headD [] = [] from rfl, layer_nil] at e; cases e
   | x :: r, em, cu', hfrom, e =>
    have e' : layerOf x = some c := e
    refine ⟨_, rfl, _, rfl, q, a, as, acc, c, rfl, L, hacc, ha, _, rfl, ?_⟩
    refine iteB (fun ef => ?_) (fun ef => ?_)
    ·refine ⟨fun σ' H' => ∃ m', m' < m /\ LayInv C H p q l m' σ' H', fun σ' H' h => h, ?_⟩
     have hlt := follows_lt ef
     refine ⟨_, rfl, .inl ⟨rfl, _, SqL.of L.lst⟩, _, rfl, q, _, _, rfl, rfl, L.lst, (by rw [List.length_map, L.len]; exact Nat.lt_of_lt_of_le hlt (by decide)), ?_⟩
     have cu2 := cu'.put (ys := as.map V.ref ++ [.ref a]) L.lst (no_ref as)
     have L2' := LaysAt.add (H' := H') L ha
     obtain ⟨dx, fs, ho, hno⟩ := cu2.obj
     refine ⟨_, rfl, p, dx, fs, rfl, ho, hno _ (by decide +kernel) (by decide +kernel), p, _, rfl, cu2, fun H3 b3 c3 => ?_⟩
     have L3 := L2'.but b3 cu2
     obtain ⟨dx, fs, ho, hno⟩ := c3.obj
     refine ⟨_, rfl, p, dx, fs, rfl, ho, hno _ (by decide +kernel) (by decide +kernel), p, _, rfl, c3, _, rfl, c3.plain, next _ _ _ c3 fun H4 v s4 lv => ?_⟩
     refine ⟨r.length, by rw [em]; simp, ⟨acc ++ [c], r, as ++ [a], v, rfl, rfl, ((bt.put hq).trans b3).trans (But.of s4), c3.same s4, L3.same s4, by simp; omega, ?_, lv⟩⟩
     rw [hfrom, layersFrom, e']
     simp only [ef, if_true]
    ·have ef' : layersFrom acc (x :: r) = (acc, x :: r) := by
      rw [layersFrom, e']
      simp only [ef]
      rfl
     refine ⟨_, rfl, ret H' q as bt ?_ hq ?_⟩
     ·rw [hfrom, ef']; exact cu'
     ·rw [hfrom, ef']; exact L
end
end My
end
section
set_option Elab.async false
set_option linter.all false
set_option maxRecDepth 100000
set_option maxHeartbeats 4000000
namespace My
open PySem PySem.Spec PyProof.Rows L2 TL
def spTakeS (C : Addr) (f : List T -> Option (List Int) × List T) : Sp := fun vs H Q _ => ∃ p l, vs = [.ref p] /\ CurAt C H p l /\ ((f l).1 = none -> ∀ H', But p H H' -> CurAt C H' p (f l).2 -> Q .non H') /\
 (∀ ns, (f l).1 = some ns -> ∀ H' q, But p H H' -> CurAt C H' p (f l).2 -> H q = none -> H' q = some (.lst (ns.map V.int)) -> Q (.ref q) H')
theorem one_hd {A : Type} {f : T -> Option A} (h0 : f [] = none) (l : List T) : Kwc.one f l = match f (l.headD []) with
  | none => (none, l)
  | some x => (some x, l.tail) := by
 cases l with
 | nil => rw [show ([] : List T).headD [] = [] from rfl, h0]; rfl
 | cons w l => rw [one_cons]; rfl
section
variable {P : Program} {w : World} {K : PySem.W.Frag} {mg : Str -> Option Value} {base : Heap} {C XC : Addr}
theorem optL_step {A : Type} {f : T -> Option A} {enc : A -> List Int} {H : Hp} {p : Addr} {l : List T} {Q : VK} (h0 : f [] = none) (cu : CurAt C H p l)
  (kn : Kwc.one f l = (none, l) -> ∀ H', Same H H' -> Q .non H') (ks : ∀ x, Kwc.one f l = (some x, l.tail) -> ∀ H' q, But p H H' -> CurAt C H' p l.tail -> H q = none -> H' q = some (.lst ((enc x).map V.int)) -> Q (.ref q) H') :
  (optL ((f (l.headD [])).map enc) = .non -> ∀ H', Same H H' -> Q .non H') /\ (optL ((f (l.headD [])).map enc) ≠ .non -> ∀ H' v, But p H H' -> CurAt C H' p l.tail -> ValIs H H' (optL ((f (l.headD [])).map enc)) v -> v ≠ .non -> Q v H') := by
 have h := one_hd h0 l
 cases e : f (l.headD []) with
 | none =>
  rw [e] at h
  exact ⟨fun _ => kn h, fun z => absurd rfl z⟩
 | some x =>
  rw [e] at h
  refine ⟨fun z => (by cases z), fun _ H' v b c hv _ => ?_⟩
  obtain ⟨q, rfl, h1, h2⟩ := hv
  exact ks x h H' q b c h1 h2
theorem optI_step {f : T -> Option Nat} {H : Hp} {p : Addr} {l : List T} {Q : VK} (h0 : f [] = none) (cu : CurAt C H p l)
  (kn : Kwc.one f l = (none, l) -> ∀ H', Same H H' -> Q .non H') (ks : ∀ x : Nat, Kwc.one f l = (some x, l.tail) -> ∀ H', But p H H' -> CurAt C H' p l.tail -> Q (.int x) H') :
  (optI (f (l.headD [])) = .non -> ∀ H', Same H H' -> Q .non H') /\ (optI (f (l.headD [])) ≠ .non -> ∀ H' v, But p H H' -> CurAt C H' p l.tail -> ValIs H H' (optI (f (l.headD []))) v -> v ≠ .non -> Q v H') := by
 have h := one_hd h0 l
 cases e : f (l.headD []) with
 | none =>
  rw [e] at h
  exact ⟨fun _ => kn h, fun z => absurd rfl z⟩
 | some x =>
  rw [e] at h
  refine ⟨fun z => (by cases z), fun _ H' v b c hv _ => ?_⟩
  have : v = .int x := hv
  subst this
  exact ks x h H' b c
theorem opt_L {A : Type} {f : T -> Option A} (enc : A -> List Int) {H : Hp} {p fr : Addr} {l : List T} {Q : VK} {E : XK} (h0 : f [] = none) (cu : CurAt C H p l) (rd : RdOk P w K mg base fr fun w => optL ((f w).map enc))
  (kn : Kwc.one f l = (none, l) -> ∀ H', Same H H' -> Q .non H') (ks : ∀ x, Kwc.one f l = (some x, l.tail) -> ∀ H' q, But p H H' -> CurAt C H' p l.tail -> H q = none -> H' q = some (.lst ((enc x).map V.int)) -> Q (.ref q) H') :
  spOptional P w K mg base C [.ref p, .ref fr] H Q E := ⟨p, l, fr, _, rfl, cu, rd, optL_step h0 cu kn ks⟩
theorem opt_I {f : T -> Option Nat} {H : Hp} {p fr : Addr} {l : List T} {Q : VK} {E : XK} (h0 : f [] = none) (cu : CurAt C H p l) (rd : RdOk P w K mg base fr fun w => optI (f w))
  (kn : Kwc.one f l = (none, l) -> ∀ H', Same H H' -> Q .non H') (ks : ∀ x : Nat, Kwc.one f l = (some x, l.tail) -> ∀ H', But p H H' -> CurAt C H' p l.tail -> Q (.int x) H') :
  spOptional P w K mg base C [.ref p, .ref fr] H Q E := ⟨p, l, fr, _, rfl, cu, rd, optI_step h0 cu kn ks⟩
structure SkyInv (C : Addr) (H : Hp) (p q n : Addr) (rest : List T) (cs : List Kwc.Cloud) (as : List Addr) (i m : Nat) (σ : L2.St) (H' : Hp) : Prop where
 ex : ∃ (o : Option V), m = cs.length - i /\ i ≤ cs.length /\ σ = [some (.ref p), some .non, some (.ref q), some (.ref n), o] /\ But p H H' /\ CurAt C H' p rest /\ LaysAt H' q as cs /\
  H' n = some (.lst (((2 : Int) :: (cs.length : Int) :: (cs.take i).flatMap cloudN).map V.int))
theorem plain_sky_nil : plainSkyOf [] = none := by decide
theorem flat_cloud (cs : List Kwc.Cloud) : (cs.flatMap cloudN).length = 3 * cs.length := by
 induction cs with
 | nil => rfl
 | cons c l ih => rw [List.flatMap_cons, List.length_append, ih]; simp; omega
theorem flat_step (cs : List Kwc.Cloud) (i : Nat) (n : Int) (h : i < cs.length) : ((2 : Int) :: n :: (cs.take i).flatMap cloudN).map V.int ++ (cloudN cs[i]).map V.int = ((2 : Int) :: n :: (cs.take (i + 1)).flatMap cloudN).map V.int := by
 have e : cs.take (i + 1) = cs.take i ++ [cs[i]] := by rw [List.take_add_one, List.getElem?_eq_getElem h]; rfl
 rw [e, List.flatMap_append]
 simp only [List.map_cons, List.map_append, List.flatMap_cons, List.flatMap_nil, List.append_nil, List.cons_append]
theorem layersFrom_le : ∀ (l : List T) (acc : List Kwc.Cloud), acc.length ≤ 4 -> (layersFrom acc l).1.length ≤ 4
 | [], acc, h => h
 | w :: l, acc, h => by
  rw [layersFrom]
  cases e : layerOf w with
  | none => exact h
  | some c =>
   by_cases f : follows acc c = true
   ·simp only [f, if_true]
    exact layersFrom_le l (acc ++ [c]) (by have := follows_lt f; simp; omega)
   ·simp only [f]
    exact h
abbrev st_take_sky : Stmt := top 45
theorem sc_take_sky : FnScope ["cursor", "plain", "layers", "numbers", "layer"] ["cursor"] (defScope st_take_sky) := ⟨rfl, rfl, rfl, by decide +kernel, rfl, by decide +kernel, by decide +kernel⟩
theorem kn_sky (N : TopFn K mg "take_sky" st_take_sky) (CU : CurOk K mg C) (B : Bt mg) (g_LAYERED : GV mg "LAYERED" (.int 2)) (M1 : KnM P w K mg base CX0 10 C "optional" ["self", "reader"] (spOptional P w K mg base C)) (kn_plain_sky_of : Known P w K mg base CX0 2 "plain_sky_of" ["word"] (sp1 rPlain)) (kn_take_layers : Known P w K mg base CX0 3 "take_layers" ["cursor"] (spLayers C)) : Known P w K mg base CX0 11 "take_sky" ["cursor"] (spTakeS C tSkyF) := by
 obtain ⟨fo, fdo, me_optional, bc_optional, gc_optional⟩ := M1.ex
 obtain ⟨fr, gf_plain_sky_of, rd⟩ := kn_plain_sky_of.rd (by decide)
 refine known_of N (fun _ _ _ _ _ _ us hl => match us, hl with | [_], _ => rfl) fun f fd Fu => ?_
 refine Fu.ok sc_take_sky (fun vs H Q E h => ?_) (fun cdv A outer s H vs Q E hr h => ?_)
 ·obtain ⟨p, l, rfl, _⟩ := h
  rfl
 ·obtain ⟨p, l, rfl, cu, r1, r2⟩ := h
  refine ⟨_, (pss_cons (ps_set (i := 1) sc_take_sky.nd rfl (by first | exact Or.inl rfl | exact Or.inr rfl) (pe_meth (pv 0) CU.cl me_optional gc_optional (hr.mono (by decide)) bc_optional .nil pass0 (pa_cons (pe_gv gf_plain_sky_of (by rfl)) pa_nil)))
   (pss_cons (ps_if (pt_cmp (pc_notN (pv 1)))
   (pss_one (ps_ret (pv 1)))
   pss_nil)
   (pss_cons (ps_set (i := 2) sc_take_sky.nd rfl (by first | exact Or.inl rfl | exact Or.inr rfl) (pe_kn kn_take_layers (hr.mono (by decide)) rfl pass0 (pa_cons (pv 0) pa_nil)))
   (pss_cons (ps_if (pt_cmpR op_eq (pe_callB call_len_seq (by rfl) B.len PySem.boot_len (pa_cons (pv 2) pa_nil)) pe_int (nomark _))
   (pss_one (ps_ret pe_non))
   pss_nil)
   (pss_cons (ps_set (i := 3) sc_take_sky.nd rfl (by first | exact Or.inl rfl | exact Or.inr rfl) (pe_lst (pa_cons (pe_gv g_LAYERED (by rfl)) (pa_cons (pe_callB call_len_seq (by rfl) B.len PySem.boot_len (pa_cons (pv 2) pa_nil)) pa_nil))))
   (pss_cons (ps_for PassesOwn.never rfl (pi_list (pv 2)) (pg_name (i := 4) sc_take_sky.nd rfl (by first | exact Or.inl rfl | exact Or.inr rfl))
   (pss_one (ps_expr (pe_bm PySem.F.plainAttrs_list PySem.F.slot_list_extend PySem.F.type_list_extend mt_extend (pv 3) (pa_cons (pv 4) pa_nil)))))
   (pss_one (ps_ret (pv 3))))))))), ?_⟩
  unfold tSkyF takeSky at r1 r2
  obtain ⟨dx, fs, ho, hno⟩ := cu.obj
  refine ⟨_, rfl, p, dx, fs, rfl, ho, hno _ (by decide +kernel) (by decide +kernel), ?_⟩
  dsimp only [tCons, tNil, tC]
  refine opt_L Kwc.skyNumbers plain_sky_nil cu rd (fun e1 H1 s1 => ?_) (fun x e1 H1 q b1 c1 hq hq1 => ?_)
  ·rw [e1] at r1 r2
   refine ⟨_, rfl, _, rfl, iteF ?_⟩
   refine ⟨_, rfl, p, l, rfl, cu.same s1, fun H2 q as b2 c2 hq L => ?_⟩
   have hle := layersFrom_le l [] (by decide)
   cases e2 : layersFrom [] l with
   | mk cs rest =>
    rw [e2] at r1 r2 c2 L hle
    refine ⟨_, rfl, q, _, rfl, .inl (SqL.of L.lst), rfl, _, rfl, ?_⟩
    rw [dec_intV, List.length_map, L.len]
    cases cs with
    | nil => exact iteT (r1 rfl H2 ((But.of s1).trans b2) c2)
    | cons c cs =>
     refine iteF ?_
     refine ⟨_, rfl, q, _, rfl, .inl (SqL.of L.lst), (by show 2 ≤ sizeLine; decide), fun n hn => ?_⟩
     have s3 : Same H2 (upd H2 n (.lst [V.int 2, V.int (((as.map V.ref).length : Nat) : Int)])) := same_new (Same.refl H2) hn
     have hnp : n ≠ p := c2.new (H' := H2) hn
     have hqn : q ≠ n := ne_of_none L.lst hn
     have hni : ∀ j (a : Addr) c', as[j]? = some a -> (c :: cs)[j]? = some c' -> a ≠ n := fun j a c' h1 h2 => ne_of_none (L.at_ j a c' h1 h2) hn
     have hHn : H n = none := ((But.of s1).trans b2).free hn hnp
     refine ⟨_, rfl, q, rfl, ⟨_, s3.seq (SqL.of L.lst)⟩, SkyInv C H p q n rest (c :: cs) as, ⟨_, ⟨none, rfl, Nat.zero_le _, rfl, ((But.of s1).trans b2).trans (But.of s3), c2.same s3, L.same s3, ?_⟩⟩, fun i m σ H3 hW => ?_⟩
     ·rw [upd_same, List.length_map, L.len]; rfl
     ·obtain ⟨o, em, hi, rfl, b3, c3, L3, hn3⟩ := hW.ex
      by_cases he : i = (c :: cs).length
      ·left
       refine ⟨⟨_, SqL.of L3.lst, by rw [List.length_map, L3.len]; omega⟩, ?_⟩
       subst he
       rw [List.take_length] at hn3
       exact ⟨_, rfl, r2 _ rfl H3 n b3 c3 hHn hn3⟩
      ·right
       have hlt : i < (c :: cs).length := by omega
       have hla : i < as.length := by rw [L3.len]; exact hlt
       have hat := L3.at_ i as[i] (c :: cs)[i] (List.getElem?_eq_getElem hla) (List.getElem?_eq_getElem hlt)
       refine ⟨⟨_, .ref as[i], SqL.of L3.lst, by rw [List.getElem?_map, List.getElem?_eq_getElem hla]; rfl⟩, fun σ' H' => ∃ m', m' < m /\ SkyInv C H p q n rest (c :: cs) as (i + 1) m' σ' H', fun σ' H' h => h, fun x H4 hx => ?_⟩
       obtain ⟨rfl, hx⟩ := hx
       have hx := hx _ (SqL.of L3.lst)
       rw [List.getElem?_map, List.getElem?_eq_getElem hla] at hx
       have : x = .ref as[i] := (Option.some.inj hx).symm
       subst this
       refine ⟨_, rfl, .inl ⟨rfl, _, SqL.of hn3⟩, _, rfl, n, _, _, _, rfl, rfl, hn3, hat, ?_, ?_⟩
       ·have := flat_cloud ((c :: cs).take i)
        refine small500 ?_
        simp only [List.length_map, List.length_cons] at *
        rw [this]
        have : ((c :: cs).take i).length ≤ 4 := by rw [List.length_take]; simp; omega
        simp
        omega
       ·refine ⟨m - 1, by omega, ⟨some (.ref as[i]), by omega, hlt, rfl, b3.put hHn, c3.put hn3 (no_int _), ⟨by rw [upd_ne hqn]; exact L3.lst, L3.len, fun j a c' h1 h2 => by rw [upd_ne (hni j a c' h1 h2)]; exact L3.at_ j a c' h1 h2⟩, ?_⟩⟩
        rw [upd_same]
        exact congrArg (fun z => some (HO.lst z)) (flat_step (c :: cs) i _ hlt)
  ·rw [e1] at r1 r2
   exact ⟨_, rfl, _, rfl, iteT ⟨_, rfl, r2 _ rfl H1 q b1 c1 hq hq1⟩⟩
end
end My
end
section
set_option Elab.async false
set_option linter.all false
set_option maxRecDepth 100000
set_option maxHeartbeats 4000000
namespace My
open PySem PySem.Spec PyProof.Rows L2 TL
theorem upto_one {A : Type} (f : T -> Option A) (n : Nat) (l : List T) : upto f (n + 1) l = match Kwc.one f l with
  | (none, _) => ([], l)
  | (some x, r) => (x :: (upto f n r).1, (upto f n r).2) := by
 cases l with
 | nil => rfl
 | cons w l =>
  rw [upto, one_cons]
  cases f w <;> rfl
theorem weather_nil : weatherOf [] = none := by decide
theorem one_wx {l r : List T} {x : Kwc.Wx} (h : Kwc.one weatherOf l = (some x, r)) : (wxN x).length ≤ 6 := by
 obtain ⟨w, _, e⟩ := one_some h
 have := wx_small e
 simp [wxN]
 omega
structure WxInv (C : Addr) (H : Hp) (p n : Addr) (l : List T) (m : Nat) (σ : L2.St) (H' : Hp) : Prop where
 ex : ∃ (xs : List Kwc.Wx) (rest : List T) (v : V), σ = [some (.ref p), some (.int (xs.length : Nat)), some (.ref n), some v] /\ But p H H' /\ CurAt C H' p rest /\ H' n = some (.lst ((xs.flatMap wxN).map V.int)) /\ (xs.flatMap wxN).length ≤ 6 * xs.length /\ xs.length ≤ 3 /\
  ((v = .non /\ upto weatherOf 3 l = (xs, rest) /\ m = 0) \/ (∃ (a : Addr) (x : Kwc.Wx), v = .ref a /\ H' a = some (.lst ((wxN x).map V.int)) /\ (wxN x).length ≤ 6 /\ xs.length < 3 /\ m = 4 - xs.length /\
   upto weatherOf 3 l = (xs ++ x :: (upto weatherOf (2 - xs.length) rest).1, (upto weatherOf (2 - xs.length) rest).2)))
section
variable {P : Program} {w : World} {K : PySem.W.Frag} {mg : Str -> Option Value} {base : Heap} {C XC : Addr}
def Fnd {A : Type} (f : T -> Option A) (enc : A -> List Int) (l : List T) (H H' : Hp) (v : V) (r : List T) : Prop :=
 (Kwc.one f l = (none, l) /\ r = l /\ v = .non) \/ ∃ (x : A) (q : Addr), Kwc.one f l = (some x, l.tail) /\ r = l.tail /\ v = .ref q /\ H q = none /\ H' q = some (.lst ((enc x).map V.int))
theorem opt_L1 {A : Type} {f : T -> Option A} (enc : A -> List Int) {H : Hp} {p fr : Addr} {l : List T} {Q : VK} {E : XK} (h0 : f [] = none) (cu : CurAt C H p l) (rd : RdOk P w K mg base fr fun w => optL ((f w).map enc))
  (k : ∀ H' v r, But p H H' -> CurAt C H' p r -> Fnd f enc l H H' v r -> Q v H') : spOptional P w K mg base C [.ref p, .ref fr] H Q E :=
 opt_L enc h0 cu rd (fun e H' s => k H' .non l (But.of s) (cu.same s) (.inl ⟨e, rfl, rfl⟩)) (fun x e H' q b c h1 h2 => k H' (.ref q) l.tail b c (.inr ⟨x, q, e, rfl, rfl, h1, h2⟩))
def FndI (f : T -> Option Nat) (l : List T) (v : V) (r : List T) : Prop :=
 (Kwc.one f l = (none, l) /\ r = l /\ v = .non) \/ ∃ x : Nat, Kwc.one f l = (some x, l.tail) /\ r = l.tail /\ v = .int x
theorem opt_I1 {f : T -> Option Nat} {H : Hp} {p fr : Addr} {l : List T} {Q : VK} {E : XK} (h0 : f [] = none) (cu : CurAt C H p l) (rd : RdOk P w K mg base fr fun w => optI (f w))
  (k : ∀ H' v r, But p H H' -> CurAt C H' p r -> FndI f l v r -> Q v H') : spOptional P w K mg base C [.ref p, .ref fr] H Q E :=
 opt_I h0 cu rd (fun e H' s => k H' .non l (But.of s) (cu.same s) (.inl ⟨e, rfl, rfl⟩)) (fun x e H' b c => k H' (.int x) l.tail b c (.inr ⟨x, e, rfl, rfl⟩))
abbrev st_take_weather : Stmt := top 66
theorem sc_take_weather : FnScope ["cursor", "count", "numbers", "found"] ["cursor"] (defScope st_take_weather) := ⟨rfl, rfl, rfl, by decide +kernel, rfl, by decide +kernel, by decide +kernel⟩
theorem kn_twx (N : TopFn K mg "take_weather" st_take_weather) (CU : CurOk K mg C) (g_MOST_WORDS : GV mg "MOST_WORDS" (.int 3)) (M1 : KnM P w K mg base CX0 10 C "optional" ["self", "reader"] (spOptional P w K mg base C)) (kn_weather_of : Known P w K mg base CX0 4 "weather_of" ["word"] (sp1 rWx)) : Known P w K mg base CX0 11 "take_weather" ["cursor"] (spTake C XC tWxF) := by
 obtain ⟨fo, fdo, me_optional, bc_optional, gc_optional⟩ := M1.ex
 obtain ⟨fr, gf_weather_of, rd⟩ := kn_weather_of.rd (by decide)
 refine known_of N (fun _ _ _ _ _ _ us hl => match us, hl with | [_], _ => rfl) fun f fd Fu => ?_
 refine Fu.ok sc_take_weather (fun vs H Q E h => ?_) (fun cdv A outer s H vs Q E hr h => ?_)
 ·obtain ⟨p, l, rfl, _⟩ := h
  rfl
 ·obtain ⟨p, l, rfl, cu, _, ret⟩ := h
  refine ⟨_, (pss_cons (ps_set (i := 1) sc_take_weather.nd rfl (by first | exact Or.inl rfl | exact Or.inr rfl) pe_int)
   (pss_cons (ps_set (i := 2) sc_take_weather.nd rfl (by first | exact Or.inl rfl | exact Or.inr rfl) (pe_lst pa_nil))
   (pss_cons (ps_set (i := 3) sc_take_weather.nd rfl (by first | exact Or.inl rfl | exact Or.inr rfl) (pe_meth (pv 0) CU.cl me_optional gc_optional (hr.mono (by decide)) bc_optional .nil pass0 (pa_cons (pe_gv gf_weather_of (by rfl)) pa_nil)))
   (pss_cons (ps_while PassesOwn.never (pt_cmp (pc_notN (pv 3)))
   (pss_cons (ps_aug (i := 1) sc_take_weather.nd rfl (Or.inl rfl) pe_int ip_add)
   (pss_cons (ps_expr (pe_bm PySem.F.plainAttrs_list PySem.F.slot_list_extend PySem.F.type_list_extend mt_extend (pv 2) (pa_cons (pv 3) pa_nil)))
   (pss_one (ps_set (i := 3) sc_take_weather.nd rfl (by first | exact Or.inl rfl | exact Or.inr rfl) (pe_ifExp (pt_cmpR op_lt (pv 1) (pe_gv g_MOST_WORDS (by rfl)) (nomark _)) (pe_meth (pv 0) CU.cl me_optional gc_optional (hr.mono (by decide)) bc_optional .nil pass0 (pa_cons (pe_gv gf_weather_of (by rfl)) pa_nil)) pe_non))))))
   (pss_one (ps_ret (pe_op op_cat (pe_lst (pa_cons (pv 1) pa_nil)) (pv 2)))))))), ?_⟩
  have ret := ret _ _ rfl
  refine ⟨(by show 0 ≤ sizeLine; decide), fun n hn => ?_⟩
  have s1 : Same H (upd H n (.lst [])) := same_new (Same.refl H) hn
  have cu1 := cu.same s1
  obtain ⟨dx, fs, ho, hno⟩ := cu1.obj
  refine ⟨_, rfl, p, dx, fs, rfl, ho, hno _ (by decide +kernel) (by decide +kernel), ?_⟩
  dsimp only [tCons, tNil, tC]
  refine opt_L1 wxN weather_nil cu1 rd (fun H1 v r b1 c1 fn => ?_)
  have hn1 : H1 n = some (.lst []) := b1 _ _ upd_same (cu1.ne upd_same)
  refine ⟨WxInv C H p n l, ⟨match v with | .non => 0 | _ => 4, ⟨[], r, v, rfl, (But.of s1).trans b1, c1, hn1, by decide, by decide, ?_⟩⟩, fun m σ H' hW => ?_⟩
  ·rcases fn with ⟨e, rfl, rfl⟩ | ⟨x, q, e, rfl, rfl, hq, hq1⟩
   ·refine .inl ⟨rfl, ?_, rfl⟩
    rw [upto_one, e]
   ·refine .inr ⟨q, x, rfl, hq1, one_wx e, by decide, rfl, ?_⟩
    rw [upto_one, e]
    rfl
  ·obtain ⟨xs, rest, v, rfl, bt, cu', hn', hle, hx3, hv⟩ := hW.ex
   refine ⟨_, rfl, _, rfl, ?_⟩
   rcases hv with ⟨rfl, eu, em⟩ | ⟨a, x, rfl, ha, hx6, hlt, em, eu⟩
   ·refine iteF ?_
    refine ⟨_, rfl, (by show 1 ≤ sizeLine; decide), fun c hc => ?_⟩
    have s3 : Same H' (upd H' c (.lst [V.int ((xs.length : Nat) : Int)])) := same_new (Same.refl H') hc
    refine ⟨_, rfl, c, n, _, _, rfl, rfl, upd_same, s3 _ _ hn', ?_, fun z hz => ?_⟩
    ·refine small500 ?_
     rw [List.length_map]
     show 1 + (xs.flatMap wxN).length ≤ 500
     omega
    ·have bz := bt.trans (But.of s3)
     have cz := cu'.same s3
     have hzp : z ≠ p := cz.new (H' := H') hz
     refine ret _ z (bz.trans (But.of (same_new (Same.refl _) hz))) ?_ (bz.free hz hzp) ?_
     ·rw [eu]
      exact cz.same (same_new (Same.refl _) hz)
     ·rw [upd_same, eu]
      rfl
   ·refine iteT ⟨fun σ' H' => ∃ m', m' < m /\ WxInv C H p n l m' σ' H', fun σ' H' h => h, ?_⟩
    refine ⟨_, rfl, _, _, rfl, rfl, ?_⟩
    refine ⟨_, rfl, .inl ⟨rfl, _, SqL.of hn'⟩, _, rfl, n, a, _, _, rfl, rfl, hn', ha, ?_, ?_⟩
    ·refine small500 ?_
     rw [List.length_map, List.length_map]
     omega
    have cu2 := cu'.put (ys := (xs.flatMap wxN).map V.int ++ (wxN x).map V.int) hn' (no_int _)
    have bt2 : But p H (upd H' n (.lst ((xs.flatMap wxN).map V.int ++ (wxN x).map V.int))) := bt.put hn
    have hn2 : upd H' n (.lst ((xs.flatMap wxN).map V.int ++ (wxN x).map V.int)) n = some (.lst (((xs ++ [x]).flatMap wxN).map V.int)) := by rw [upd_same]; simp only [List.flatMap_append, List.flatMap_cons, List.flatMap_nil, List.append_nil, List.map_append]
    have hl2 : ((xs ++ [x]).flatMap wxN).length ≤ 6 * (xs ++ [x]).length := by
     simp only [List.flatMap_append, List.flatMap_cons, List.flatMap_nil, List.append_nil, List.length_append, List.length_cons, List.length_nil] at *
     omega
    have hl3 : (xs ++ [x]).length ≤ 3 := by simp; omega
    have eI : (((xs ++ [x]).length : Nat) : Int) = (xs.length : Int) + 1 := by simp
    revert cu2 bt2 hn2
    generalize upd H' n (.lst ((xs.flatMap wxN).map V.int ++ (wxN x).map V.int)) = H2
    intro cu2 bt2 hn2
    refine ⟨_, rfl, _, _, rfl, rfl, _, rfl, ?_⟩
    refine iteB (fun e => ?_) (fun e => ?_)
    ·have hlt2 : xs.length < 2 := by have h : ((xs.length : Int) + 1 < 3) := of_decide_eq_true e; omega
     obtain ⟨dx, fs, ho, hno⟩ := cu2.obj
     refine ⟨_, rfl, p, dx, fs, rfl, ho, hno _ (by decide +kernel) (by decide +kernel), ?_⟩
     dsimp only [tCons, tNil, tC]
     refine opt_L1 wxN weather_nil cu2 rd (fun H3 v r b3 c3 fn => ?_)
     have hn3 := b3 _ _ hn2 (cu2.ne hn2)
     refine ⟨(match v with | .non => 0 | _ => 4 - (xs ++ [x]).length), ?_, ⟨xs ++ [x], r, v, by rw [eI]; rfl, bt2.trans b3, c3, hn3, hl2, hl3, ?_⟩⟩
     ·rw [em]
      rcases fn with ⟨e, rfl, rfl⟩ | ⟨y, q, e, rfl, rfl, hq, hq1⟩
      ·show 0 < _; omega
      ·show 4 - (xs ++ [x]).length < _; simp; omega
     ·have e2 : 2 - xs.length = (1 - xs.length) + 1 := by omega
      rw [e2, upto_one weatherOf (1 - xs.length) rest] at eu
      rcases fn with ⟨e, rfl, rfl⟩ | ⟨y, q, e, rfl, rfl, hq, hq1⟩
      ·rw [e] at eu
       exact .inl ⟨rfl, eu, rfl⟩
      ·rw [e] at eu
       refine .inr ⟨q, y, rfl, hq1, one_wx e, by simp; omega, rfl, ?_⟩
       rw [eu, show 2 - (xs ++ [x]).length = 1 - xs.length from by simp]
       simp
    ·have hlt2 : xs.length = 2 := by have h : ¬ ((xs.length : Int) + 1 < 3) := of_decide_eq_false e; omega
     refine ⟨0, by omega, ⟨xs ++ [x], rest, .non, by rw [eI]; rfl, bt2, cu2, hn2, hl2, hl3, .inl ⟨rfl, ?_, rfl⟩⟩⟩
     rw [eu, hlt2]
     rfl
end
end My
end
section
set_option Elab.async false
set_option linter.all false
set_option maxRecDepth 100000
set_option maxHeartbeats 4000000
namespace My
open PySem PySem.Spec PyProof.Rows L2 TL
theorem wind_nil : windOf [] = none := by decide
theorem sector_nil : sectorOf [] = none := by decide
theorem sight_nil : sightOf [] = none := by decide
theorem chwx_nil : changedWx [] = none := by decide
theorem manner_nil : changeMannerOf [] = none := by decide
theorem station_nil : stationOf [] = none := by decide
theorem moment_nil : momentOf [] = none := by decide
theorem degrees_nil : degreesOf [] = none := by decide
theorem pressure_nil : pressureOf [] = none := by decide
theorem from_nil : markedMinutes [] (Kwc.text "FM") = none := by decide
theorem till_nil : markedMinutes [] (Kwc.text "TL") = none := by decide
section
variable {P : Program} {w : World} {K : PySem.W.Frag} {mg : Str -> Option Value} {base : Heap} {C XC : Addr}
theorem req_L {A : Type} {f : T -> Option A} (enc : A -> List Int) {H : Hp} {p fr : Addr} {l : List T} {Q : VK} {E : XK} (h0 : f [] = none) (cu : CurAt C H p l) (rd : RdOk P w K mg base fr fun w => optL ((f w).map enc))
  (kn : Kwc.one f l = (none, l) -> ∀ H', E (.ref XC) none H') (ks : ∀ x, Kwc.one f l = (some x, l.tail) -> ∀ H' q, But p H H' -> CurAt C H' p l.tail -> H q = none -> H' q = some (.lst ((enc x).map V.int)) -> Q (.ref q) H') :
  spRequired P w K mg base C XC [.ref p, .ref fr] H Q E := by
 refine ⟨p, l, fr, _, rfl, cu, rd, ?_⟩
 have h := one_hd h0 l
 cases e : f (l.headD []) with
 | none =>
  rw [e] at h
  exact ⟨fun _ => kn h, fun z => absurd rfl z⟩
 | some x =>
  rw [e] at h
  refine ⟨fun z => (by cases z), fun _ H' v b c hv => ?_⟩
  obtain ⟨q, rfl, h1, h2⟩ := hv
  exact ks x h H' q b c h1 h2
theorem req_I {f : T -> Option Nat} {H : Hp} {p fr : Addr} {l : List T} {Q : VK} {E : XK} (h0 : f [] = none) (cu : CurAt C H p l) (rd : RdOk P w K mg base fr fun w => optI (f w))
  (kn : Kwc.one f l = (none, l) -> ∀ H', E (.ref XC) none H') (ks : ∀ x : Nat, Kwc.one f l = (some x, l.tail) -> ∀ H', But p H H' -> CurAt C H' p l.tail -> Q (.int x) H') :
  spRequired P w K mg base C XC [.ref p, .ref fr] H Q E := by
 refine ⟨p, l, fr, _, rfl, cu, rd, ?_⟩
 have h := one_hd h0 l
 cases e : f (l.headD []) with
 | none =>
  rw [e] at h
  exact ⟨fun _ => kn h, fun z => absurd rfl z⟩
 | some x =>
  rw [e] at h
  refine ⟨fun z => (by cases z), fun _ H' v b c hv => ?_⟩
  have : v = .int x := hv
  subst this
  exact ks x h H' b c
def spMHS (K : PySem.W.Frag) : Sp := fun vs H Q _ => ∃ (q : Addr) (x : Kwc.Wind), vs = [.ref q] /\ SqL K H q ((windN x).map V.int) /\ Q (.bl (decide (x.dir ≠ 999) && decide (x.speed ≠ 0))) H
abbrev st_may_have_sector : Stmt := top 78
theorem sc_may_have_sector : FnScope ["wind"] ["wind"] (defScope st_may_have_sector) := ⟨rfl, rfl, rfl, by decide +kernel, rfl, by decide +kernel, by decide +kernel⟩
theorem kn_mhs (N : TopFn K mg "may_have_sector" st_may_have_sector) (g_VARIABLE : GV mg "VARIABLE" (.int 999)) : Known P w K mg base CX0 1 "may_have_sector" ["wind"] (spMHS K) := by
 refine known_of N (fun _ _ _ _ _ _ us hl => match us, hl with | [_], _ => rfl) fun f fd Fu => ?_
 refine Fu.ok sc_may_have_sector (fun vs H Q E h => ?_) (fun cdv A outer s H vs Q E hr h => ?_)
 ·obtain ⟨q, x, rfl, _⟩ := h
  rfl
 ·obtain ⟨q, x, rfl, hq, ret⟩ := h
  refine ⟨_, (pss_one (ps_ret (pe_and (pe_cmpR op_ne (pe_ix ix_list (pv 0) pe_int (fun _ _ => rfl)) (pe_gv g_VARIABLE (by rfl)) (nomark _)) (pe_one (pe_cmpR op_ne (pe_ix ix_list (pv 0) pe_int (fun _ _ => rfl)) pe_int (nomark _)))))), ?_⟩
  have ea : (!decide (V.int (x.dir : Int) = V.int 999)) = decide (x.dir ≠ 999) := by rw [dec_intV, Bool.eq_iff_iff]; simp; omega
  have eb : (!decide (V.int (x.speed : Int) = V.int 0)) = decide (x.speed ≠ 0) := by rw [dec_intV, Bool.eq_iff_iff]; simp
  refine ⟨_, rfl, q, _, _, _, rfl, rfl, hq, at_of (j := 0) rfl rfl, rfl, _, rfl, ?_⟩
  rw [ea]
  refine iteB (fun e1 => ?_) (fun e1 => ?_)
  ·rw [e1, Bool.true_and] at ret
   refine ⟨_, rfl, q, _, _, _, rfl, rfl, hq, at_of (j := 1) rfl rfl, rfl, ?_⟩
   rw [eb]
   exact ret
  ·rw [e1, Bool.false_and] at ret
   exact ret
abbrev st_take_wind_and_sector : Stmt := top 80
theorem sc_take_wind_and_sector : FnScope ["cursor", "wind", "sector"] ["cursor"] (defScope st_take_wind_and_sector) := ⟨rfl, rfl, rfl, by decide +kernel, rfl, by decide +kernel, by decide +kernel⟩
theorem kn_twind (N : TopFn K mg "take_wind_and_sector" st_take_wind_and_sector) (CU : CurOk K mg C) (g_NO_SECTOR : GV mg "NO_SECTOR" (.int 999)) (M1 : KnM P w K mg base CX0 10 C "optional" ["self", "reader"] (spOptional P w K mg base C)) (M2 : KnM P w K mg base (CXe P w XC) 11 C "required" ["self", "reader"] (spRequired P w K mg base C XC))
  (kn_may_have_sector : Known P w K mg base CX0 1 "may_have_sector" ["wind"] (spMHS K)) (kn_wind_of : Known P w K mg base CX0 4 "wind_of" ["word"] (sp1 rWind)) (kn_sector_of : Known P w K mg base CX0 3 "sector_of" ["word"] (sp1 rSector)) : Known P w K mg base (CXe P w XC) 12 "take_wind_and_sector" ["cursor"] (spTake C XC tWindF) := by
 obtain ⟨fo, fdo, me_optional, bc_optional, gc_optional⟩ := M1.ex
 obtain ⟨fq, fdq, me_required, bc_required, gc_required⟩ := M2.ex
 obtain ⟨fw, gf_wind_of, rdw⟩ := kn_wind_of.rd (by decide)
 obtain ⟨fs, gf_sector_of, rds⟩ := kn_sector_of.rd (by decide)
 refine known_of N (fun _ _ _ _ _ _ us hl => match us, hl with | [_], _ => rfl) fun f fd Fu => ?_
 refine Fu.okE sc_take_wind_and_sector (fun vs H Q E h => ?_) ?_
 ·obtain ⟨p, l, rfl, _⟩ := h
  rfl
 ·rintro X outer cdv A s H vs Q E hr h rfl L
  obtain ⟨p, l, rfl, cu, r1, r2⟩ := h
  refine ⟨_, (pss_cons (ps_set (i := 1) sc_take_wind_and_sector.nd rfl (by first | exact Or.inl rfl | exact Or.inr rfl) (pe_meth (pv 0) CU.cl me_required gc_required (hr.mono (by decide)) bc_required .nil (passes_on L) (pa_cons (pe_gv gf_wind_of (by rfl)) pa_nil)))
   (pss_cons (ps_set (i := 2) sc_take_wind_and_sector.nd rfl (by first | exact Or.inl rfl | exact Or.inr rfl) pe_non)
   (pss_cons (ps_if (pt_val (pe_kn kn_may_have_sector (hr.mono (by decide)) rfl pass0 (pa_cons (pv 1) pa_nil)))
   (pss_one (ps_set (i := 2) sc_take_wind_and_sector.nd rfl (by first | exact Or.inl rfl | exact Or.inr rfl) (pe_meth (pv 0) CU.cl me_optional gc_optional (hr.mono (by decide)) bc_optional .nil pass0 (pa_cons (pe_gv gf_sector_of (by rfl)) pa_nil))))
   pss_nil)
   (pss_cons (ps_if (pt_cmp (pc_isN (pv 2)))
   (pss_one (ps_set (i := 2) sc_take_wind_and_sector.nd rfl (by first | exact Or.inl rfl | exact Or.inr rfl) (pe_lst (pa_cons (pe_gv g_NO_SECTOR (by rfl)) (pa_cons (pe_gv g_NO_SECTOR (by rfl)) pa_nil)))))
   pss_nil)
   (pss_one (ps_ret (pe_op op_cat (pv 1) (pv 2)))))))), ?_⟩
  unfold tWindF takeWind at r1 r2
  obtain ⟨dx, fs, ho, hno⟩ := cu.obj
  refine ⟨_, rfl, p, dx, fs, rfl, ho, hno _ (by decide +kernel) (by decide +kernel), ?_⟩
  dsimp only [tCons, tNil, tC]
  refine req_L windN wind_nil cu rdw (fun e => ?_) (fun x e H1 q b1 c1 hq hq1 => ?_)
  ·rw [e] at r1
   exact r1 rfl
  ·rw [e] at r2
   refine ⟨_, rfl, q, x, rfl, SqL.of hq1, _, rfl, ?_⟩
   dsimp only at r2
   have tail : ∀ (H2 : Hp) (r : List T) (pr : List Int) (v : V), But p H1 H2 -> CurAt C H2 p r -> ((v = .non /\ pr = [999, 999]) \/ ∃ z, v = .ref z /\ H2 z = some (.lst (pr.map V.int))) -> pr.length ≤ 2 ->
     (∀ H' u, But p H H' -> CurAt C H' p r -> H u = none -> H' u = some (.lst ((windN x ++ pr).map V.int)) -> Q (.ref u) H') ->
     tSeq (tIfS (tB (tIsN (tVar 2))) (tAsg (tLst (tCons (tC (V.int 999)) (tCons (tC (V.int 999)) tNil))) (gName 2)) tNext) (tRet (tOp rCat (tVar 1) (tVar 2))) { nx := fun x H' => Q V.non H', rt := Q } [some (.ref p), some (.ref q), some v] H2 := by
    intro H2 r pr v b2 c2 hv hpr ret
    have hq2 : H2 q = some (.lst ((windN x).map V.int)) := b2 _ _ hq1 (c1.ne hq1)
    have fin : ∀ (H3 : Hp) (z : Addr), Same H2 H3 -> H3 z = some (.lst (pr.map V.int)) -> tRet (tOp rCat (tVar 1) (tVar 2)) { nx := fun x H' => Q V.non H', rt := Q } [some (.ref p), some (.ref q), some (.ref z)] H3 := by
     intro H3 z s3 hz
     have b3 := (b1.trans b2).trans (But.of s3)
     have c3 := c2.same s3
     refine ⟨_, rfl, _, rfl, q, z, _, _, rfl, rfl, s3 _ _ hq2, hz, ?_, fun u hu => ?_⟩
     ·refine small500 ?_
      rw [List.length_map, List.length_map]
      show 3 + pr.length ≤ 500
      omega
     ·have su : Same H3 (upd H3 u (.lst ((windN x).map V.int ++ pr.map V.int))) := same_new (Same.refl _) hu
      refine ret _ u (b3.trans (But.of su)) (c3.same su) (b3.free hu (c3.new (H' := H3) hu)) ?_
      rw [upd_same, List.map_append]
    refine ⟨_, rfl, _, rfl, ?_⟩
    rcases hv with ⟨rfl, rfl⟩ | ⟨z, rfl, hz⟩
    ·refine iteT ⟨(by show 2 ≤ sizeLine; decide), fun z hz => ?_⟩
     exact fin _ z (same_new (Same.refl _) hz) upd_same
    ·exact iteF (fin H2 z (Same.refl _) hz)
   dsimp only
   refine iteB (fun e1 => ?_) (fun e1 => ?_)
   ·rw [Bool.and_eq_true] at e1
    rw [if_pos ⟨of_decide_eq_true e1.1, of_decide_eq_true e1.2⟩] at r2
    obtain ⟨dx, fs, ho, hno⟩ := c1.obj
    refine ⟨_, rfl, p, dx, fs, rfl, ho, hno _ (by decide +kernel) (by decide +kernel), ?_⟩
    dsimp only [tCons, tNil, tC]
    refine opt_L (fun p : Nat × Nat => [(p.1 : Int), (p.2 : Int)]) sector_nil c1 rds (fun e3 H2 s2 => ?_) (fun y e3 H2 z b2 c2 hz hz1 => ?_)
    ·rw [e3] at r2
     exact tail H2 l.tail [999, 999] .non (But.of s2) (c1.same s2) (.inl ⟨rfl, rfl⟩) (by decide) (r2 _ _ rfl)
    ·rw [e3] at r2
     exact tail H2 l.tail.tail [(y.1 : Int), (y.2 : Int)] (.ref z) b2 c2 (.inr ⟨z, rfl, hz1⟩) (Nat.le_refl 2) (r2 _ _ rfl)
   ·rw [if_neg (fun z => by rw [decide_eq_true z.1, decide_eq_true z.2] at e1; cases e1)] at r2
    exact tail H1 l.tail [999, 999] .non (But.of (Same.refl _)) c1 (.inl ⟨rfl, rfl⟩) (by decide) (r2 _ _ rfl)
end
end My
end
section
set_option Elab.async false
set_option linter.all false
set_option maxRecDepth 100000
set_option maxHeartbeats 4000000
namespace My
open PySem PySem.Spec PyProof.Rows L2 TL
def OV (o : Option (List Int)) (H : Hp) (v : V) : Prop := match o with
 | none => v = .non
 | some ns => ∃ q, v = .ref q /\ H q = some (.lst (ns.map V.int))
theorem OV.but {o : Option (List Int)} {H H' : Hp} {v : V} {p C : Addr} {l : List T} (h : OV o H v) (b : But p H H') (c : CurAt C H p l) : OV o H' v := by
 cases o with
 | none => exact h
 | some ns =>
  obtain ⟨q, e, hq⟩ := h
  exact ⟨q, e, b _ _ hq (c.ne hq)⟩
theorem OV.same {o : Option (List Int)} {H H' : Hp} {v : V} (h : OV o H v) (s : Same H H') : OV o H' v := by
 cases o with
 | none => exact h
 | some ns =>
  obtain ⟨q, e, hq⟩ := h
  exact ⟨q, e, s _ _ hq⟩
theorem OV.isN {o : Option (List Int)} {H : Hp} {v : V} (h : OV o H v) : decide (v = .non) = o.isNone := by
 cases o with
 | none => rw [show v = .non from h]; rfl
 | some ns =>
  obtain ⟨q, e, hq⟩ := h
  subst e
  rfl
theorem Fnd.ov {A : Type} {f : T -> Option A} {enc : A -> List Int} {l r : List T} {H H' : Hp} {v : V} (h : Fnd f enc l H H' v r) : OV ((Kwc.one f l).1.map enc) H' v /\ r = (Kwc.one f l).2 := by
 rcases h with ⟨e, rfl, rfl⟩ | ⟨x, q, e, rfl, rfl, _, hq⟩
 ·rw [e]; exact ⟨rfl, rfl⟩
 ·rw [e]; exact ⟨⟨q, rfl, hq⟩, rfl⟩
theorem FndI.ov {f : T -> Option Nat} {l r : List T} {v : V} (h : FndI f l v r) : v = optV (Kwc.one f l).1 /\ r = (Kwc.one f l).2 := by
 rcases h with ⟨e, rfl, rfl⟩ | ⟨x, e, rfl, rfl⟩
 ·rw [e]; exact ⟨rfl, rfl⟩
 ·rw [e]; exact ⟨rfl, rfl⟩
theorem pl {f : Str} {v : V} {fs : List (Str × V)} {k : Nat} (h : fs.length ≤ k) : (putF f v fs).length ≤ k + 1 := Nat.le_trans (length_putF f v fs) (Nat.succ_le_succ h)
def chF (v0 v1 v2 v3 v4 v5 v6 : V) : List (Str × V) := (putF "sky" v6 (putF "weather" v5 (putF "sight" v4 (putF "wind" v3 (putF "ends" v2 (putF "begins" v1 (putF "manner" v0 [])))))))
theorem chF_manner (v0 v1 v2 v3 v4 v5 v6 : V) : (chF v0 v1 v2 v3 v4 v5 v6).lookup ("manner" : Str) = some v0 := by
 unfold chF
 rw [lookup_putF, if_neg (by decide +kernel), lookup_putF, if_neg (by decide +kernel), lookup_putF, if_neg (by decide +kernel), lookup_putF, if_neg (by decide +kernel), lookup_putF, if_neg (by decide +kernel), lookup_putF, if_neg (by decide +kernel), lookup_putF, if_pos rfl]
theorem chF_begins (v0 v1 v2 v3 v4 v5 v6 : V) : (chF v0 v1 v2 v3 v4 v5 v6).lookup ("begins" : Str) = some v1 := by
 unfold chF
 rw [lookup_putF, if_neg (by decide +kernel), lookup_putF, if_neg (by decide +kernel), lookup_putF, if_neg (by decide +kernel), lookup_putF, if_neg (by decide +kernel), lookup_putF, if_neg (by decide +kernel), lookup_putF, if_pos rfl]
theorem chF_ends (v0 v1 v2 v3 v4 v5 v6 : V) : (chF v0 v1 v2 v3 v4 v5 v6).lookup ("ends" : Str) = some v2 := by
 unfold chF
 rw [lookup_putF, if_neg (by decide +kernel), lookup_putF, if_neg (by decide +kernel), lookup_putF, if_neg (by decide +kernel), lookup_putF, if_neg (by decide +kernel), lookup_putF, if_pos rfl]
theorem chF_sight (v0 v1 v2 v3 v4 v5 v6 : V) : (chF v0 v1 v2 v3 v4 v5 v6).lookup ("sight" : Str) = some v4 := by
 unfold chF
 rw [lookup_putF, if_neg (by decide +kernel), lookup_putF, if_neg (by decide +kernel), lookup_putF, if_pos rfl]
theorem chF_sky (v0 v1 v2 v3 v4 v5 v6 : V) : (chF v0 v1 v2 v3 v4 v5 v6).lookup ("sky" : Str) = some v6 := by
 unfold chF
 rw [lookup_putF, if_pos rfl]
structure ChangeOk (K : PySem.W.Frag) (mg : Str -> Option Value) (C : Addr) : Prop where
 cl : Cls K C
 n_manner : NoAttr K C "manner"
 n_begins : NoAttr K C "begins"
 n_ends : NoAttr K C "ends"
 n_wind : NoAttr K C "wind"
 n_sight : NoAttr K C "sight"
 n_weather : NoAttr K C "weather"
 n_sky : NoAttr K C "sky"
 mgC : mg "Change" = some (.ref C)
def spChangeInit (C : Addr) : Sp := fun vs H Q _ => ∃ (p dx : Addr) (v0 v1 v2 v3 v4 v5 v6 : V), vs = [.ref p, v0, v1, v2, v3, v4, v5, v6] /\ H p = some (.ins C dx []) /\ Q .non (upd H p (.ins C dx (chF v0 v1 v2 v3 v4 v5 v6)))
def trF (v0 v1 : V) : List (Str × V) := (putF "changes" v1 (putF "kind" v0 []))
theorem trF_changes (v0 v1 : V) : (trF v0 v1).lookup ("changes" : Str) = some v1 := by
 unfold trF
 rw [lookup_putF, if_pos rfl]
structure TrendOk (K : PySem.W.Frag) (mg : Str -> Option Value) (C : Addr) : Prop where
 cl : Cls K C
 n_kind : NoAttr K C "kind"
 n_changes : NoAttr K C "changes"
 mgC : mg "Trend" = some (.ref C)
def spTrendInit (C : Addr) : Sp := fun vs H Q _ => ∃ (p dx : Addr) (v0 v1 : V), vs = [.ref p, v0, v1] /\ H p = some (.ins C dx []) /\ Q .non (upd H p (.ins C dx (trF v0 v1)))
def rpF (v0 v1 v2 v3 v4 v5 v6 v7 v8 : V) : List (Str × V) := (putF "trend" v8 (putF "sky" v7 (putF "weather" v6 (putF "pressure" v5 (putF "degrees" v4 (putF "sight" v3 (putF "wind" v2 (putF "moment" v1 (putF "station" v0 [])))))))))
theorem rpF_moment (v0 v1 v2 v3 v4 v5 v6 v7 v8 : V) : (rpF v0 v1 v2 v3 v4 v5 v6 v7 v8).lookup ("moment" : Str) = some v1 := by
 unfold rpF
 rw [lookup_putF, if_neg (by decide +kernel), lookup_putF, if_neg (by decide +kernel), lookup_putF, if_neg (by decide +kernel), lookup_putF, if_neg (by decide +kernel), lookup_putF, if_neg (by decide +kernel), lookup_putF, if_neg (by decide +kernel), lookup_putF, if_neg (by decide +kernel), lookup_putF, if_pos rfl]
theorem rpF_sight (v0 v1 v2 v3 v4 v5 v6 v7 v8 : V) : (rpF v0 v1 v2 v3 v4 v5 v6 v7 v8).lookup ("sight" : Str) = some v3 := by
 unfold rpF
 rw [lookup_putF, if_neg (by decide +kernel), lookup_putF, if_neg (by decide +kernel), lookup_putF, if_neg (by decide +kernel), lookup_putF, if_neg (by decide +kernel), lookup_putF, if_neg (by decide +kernel), lookup_putF, if_pos rfl]
theorem rpF_sky (v0 v1 v2 v3 v4 v5 v6 v7 v8 : V) : (rpF v0 v1 v2 v3 v4 v5 v6 v7 v8).lookup ("sky" : Str) = some v7 := by
 unfold rpF
 rw [lookup_putF, if_neg (by decide +kernel), lookup_putF, if_pos rfl]
theorem rpF_trend (v0 v1 v2 v3 v4 v5 v6 v7 v8 : V) : (rpF v0 v1 v2 v3 v4 v5 v6 v7 v8).lookup ("trend" : Str) = some v8 := by
 unfold rpF
 rw [lookup_putF, if_pos rfl]
structure ReportOk (K : PySem.W.Frag) (mg : Str -> Option Value) (C : Addr) : Prop where
 cl : Cls K C
 n_station : NoAttr K C "station"
 n_moment : NoAttr K C "moment"
 n_wind : NoAttr K C "wind"
 n_sight : NoAttr K C "sight"
 n_degrees : NoAttr K C "degrees"
 n_pressure : NoAttr K C "pressure"
 n_weather : NoAttr K C "weather"
 n_sky : NoAttr K C "sky"
 n_trend : NoAttr K C "trend"
 mgC : mg "Report" = some (.ref C)
def spReportInit (C : Addr) : Sp := fun vs H Q _ => ∃ (p dx : Addr) (v0 v1 v2 v3 v4 v5 v6 v7 v8 : V), vs = [.ref p, v0, v1, v2, v3, v4, v5, v6, v7, v8] /\ H p = some (.ins C dx []) /\ Q .non (upd H p (.ins C dx (rpF v0 v1 v2 v3 v4 v5 v6 v7 v8)))
theorem made {H : Hp} {x dx C : Addr} {fs : List (Str × V)} (hx : H x = none) (hdx : H dx = none) (ne : dx ≠ x) : Same H (upd (upd (upd H dx (.own x)) x (.ins C dx [])) x (.ins C dx fs)) := by
 rw [upd_upd]
 refine same_new (same_new (Same.refl H) hdx) ?_
 rw [upd_ne (Ne.symm ne)]
 exact hx
theorem OV.put {o : Option (List Int)} {H : Hp} {v : V} {n : Addr} {as : List Addr} {u : HO} (h : OV o H v) (hn : H n = some (.lst (as.map V.ref))) (ne : o ≠ some []) : OV o (upd H n u) v := by
 cases o with
 | none => exact h
 | some ns =>
  obtain ⟨q, e, hq⟩ := h
  refine ⟨q, e, ?_⟩
  rw [upd_ne]
  ·exact hq
  ·intro z
   rw [z, hn] at hq
   injection hq with hq
   injection hq with hq
   match ns, as, hq, ne with
   | [], _, _, ne => exact ne rfl
   | _ :: _, [], hq, _ => cases hq
   | _ :: _, _ :: _, hq, _ => cases hq
structure ChgAt (CC : Addr) (H : Hp) (q : Addr) (c : Kwc.Change) : Prop where
 ex : ∃ (dx : Addr) (vw vx vk : V), H q = some (.ins CC dx (chF (.int (c.kind : Nat)) (optV c.fm) (optV c.tl) vw (optV c.sight) vx vk)) /\ OV (c.wind.map windN) H vw /\ OV (c.wx.map Kwc.wxNumbers) H vx /\ OV (c.sky.map Kwc.skyNumbers) H vk
theorem ChgAt.same {CC : Addr} {H H' : Hp} {q : Addr} {c : Kwc.Change} (h : ChgAt CC H q c) (s : Same H H') : ChgAt CC H' q c := by
 obtain ⟨dx, vw, vx, vk, h1, h2, h3, h4⟩ := h.ex
 exact ⟨dx, vw, vx, vk, s _ _ h1, h2.same s, h3.same s, h4.same s⟩
theorem cu_no_ch {C CC : Addr} {H : Hp} {p q dx : Addr} {l : List T} {v0 v1 v2 v3 v4 v5 v6 : V} (c : CurAt C H p l) (h : H q = some (.ins CC dx (chF v0 v1 v2 v3 v4 v5 v6))) : q ≠ p := fun e => by
 obtain ⟨dx', wl, ws, k, h1, _⟩ := c.ex
 rw [e, h1] at h
 injection h with h
 injection h with _ _ h
 have h2 := chF_manner v0 v1 v2 v3 v4 v5 v6
 rw [<- h, cuF_no _ _ (by decide +kernel) (by decide +kernel)] at h2
 cases h2
theorem ChgAt.but {C CC : Addr} {H H' : Hp} {p q : Addr} {c : Kwc.Change} {l : List T} (h : ChgAt CC H q c) (b : But p H H') (cu : CurAt C H p l) : ChgAt CC H' q c := by
 obtain ⟨dx, vw, vx, vk, h1, h2, h3, h4⟩ := h.ex
 exact ⟨dx, vw, vx, vk, b _ _ h1 (cu_no_ch cu h1), h2.but b cu, h3.but b cu, h4.but b cu⟩
theorem sky_ne (s : Kwc.Sky) : Kwc.skyNumbers s ≠ [] := by cases s <;> (intro z; cases z)
theorem map_ne {A : Type} {f : A -> List Int} (h : ∀ x, f x ≠ []) (o : Option A) : o.map f ≠ some [] := by
 cases o with
 | none => intro z; cases z
 | some x => intro z; exact h x (Option.some.inj z)
theorem ChgAt.put {CC : Addr} {H : Hp} {q n : Addr} {as : List Addr} {c : Kwc.Change} {u : HO} (h : ChgAt CC H q c) (hn : H n = some (.lst (as.map V.ref))) : ChgAt CC (upd H n u) q c := by
 obtain ⟨dx, vw, vx, vk, h1, h2, h3, h4⟩ := h.ex
 refine ⟨dx, vw, vx, vk, ?_, h2.put hn (map_ne (fun x z => by cases z) _), h3.put hn (map_ne (fun x z => by cases z) _), h4.put hn (map_ne sky_ne _)⟩
 rw [upd_ne (fun z => by rw [z, hn] at h1; cases h1)]
 exact h1
structure ChsAt (CC : Addr) (H : Hp) (n : Addr) (as : List Addr) (cs : List Kwc.Change) : Prop where
 lst : H n = some (.lst (as.map V.ref))
 len : as.length = cs.length
 at_ : ∀ (j : Nat) (a : Addr) (c : Kwc.Change), as[j]? = some a -> cs[j]? = some c -> ChgAt CC H a c
theorem ChsAt.same {CC : Addr} {H H' : Hp} {n : Addr} {as : List Addr} {cs : List Kwc.Change} (h : ChsAt CC H n as cs) (s : Same H H') : ChsAt CC H' n as cs :=
 ⟨s _ _ h.lst, h.len, fun j a c h1 h2 => (h.at_ j a c h1 h2).same s⟩
theorem ChsAt.but {C CC : Addr} {H H' : Hp} {p n : Addr} {as : List Addr} {cs : List Kwc.Change} {l : List T} (h : ChsAt CC H n as cs) (b : But p H H') (cu : CurAt C H p l) : ChsAt CC H' n as cs :=
 ⟨b _ _ h.lst (cu.ne h.lst), h.len, fun j a c h1 h2 => (h.at_ j a c h1 h2).but b cu⟩
theorem ChsAt.add {CC : Addr} {H : Hp} {n a : Addr} {as : List Addr} {cs : List Kwc.Change} {c : Kwc.Change} (L : ChsAt CC H n as cs) (h : ChgAt CC H a c) : ChsAt CC (upd H n (.lst (as.map V.ref ++ [.ref a]))) n (as ++ [a]) (cs ++ [c]) := by
 refine ⟨by rw [upd_same, List.map_append]; rfl, by simp [L.len], fun j x y hx hy => ?_⟩
 by_cases hj : j < as.length
 ·rw [List.getElem?_append_left hj] at hx
  rw [List.getElem?_append_left (by rw [<- L.len]; exact hj)] at hy
  exact (L.at_ j x y hx hy).put L.lst
 ·have hl := L.len
  rw [List.getElem?_append_right (by omega)] at hx
  rw [List.getElem?_append_right (by omega)] at hy
  have ej : j - as.length = 0 := by
   cases e : j - as.length with
   | zero => rfl
   | succ n => rw [e] at hx; cases hx
  rw [ej] at hx
  rw [show j - cs.length = 0 from by omega] at hy
  cases hx
  cases hy
  exact h.put L.lst
structure TrAt (TC CC : Addr) (H : Hp) (q : Addr) (t : Nat × List Kwc.Change) : Prop where
 ex : ∃ (dx n : Addr) (as : List Addr), H q = some (.ins TC dx (trF (.int (t.1 : Nat)) (.ref n))) /\ ChsAt CC H n as t.2
theorem TrAt.same {TC CC : Addr} {H H' : Hp} {q : Addr} {t : Nat × List Kwc.Change} (h : TrAt TC CC H q t) (s : Same H H') : TrAt TC CC H' q t := by
 obtain ⟨dx, n, as, h1, h2⟩ := h.ex
 exact ⟨dx, n, as, s _ _ h1, h2.same s⟩
abbrev momN (c : Nat × Nat × Nat) : List Int := [(c.1 : Int), (c.2.1 : Int), (c.2.2 : Int)]
abbrev degN (p : Int × Int) : List Int := [p.1, p.2]
abbrev win5 (w : Kwc.Wind) : List Int := [(w.dir : Int), (w.speed : Int), (w.gust : Int), (w.from_ : Int), (w.to : Int)]
structure RepAt (RC TC CC : Addr) (H : Hp) (q : Addr) (r : Kwc.Report) : Prop where
 ex : ∃ dx a1 a2 a3 a5 a6 a7 a9 : Addr, H q = some (.ins RC dx (rpF (.ref a1) (.ref a2) (.ref a3) (.int (r.sight : Nat)) (.ref a7) (.int (r.press : Nat)) (.ref a5) (.ref a6) (.ref a9))) /\
  H a1 = some (.lst ((zs r.station).map V.int)) /\ H a2 = some (.lst ((momN (r.day, r.hour, r.minute)).map V.int)) /\ H a3 = some (.lst ((win5 r.wind).map V.int)) /\ H a7 = some (.lst ((degN (r.temp, r.dew)).map V.int)) /\
  H a5 = some (.lst ((Kwc.wxNumbers r.wx).map V.int)) /\ H a6 = some (.lst ((Kwc.skyNumbers r.sky).map V.int)) /\ TrAt TC CC H a9 (r.trend, r.changes)
theorem RepAt.same {RC TC CC : Addr} {H H' : Hp} {q : Addr} {r : Kwc.Report} (h : RepAt RC TC CC H q r) (s : Same H H') : RepAt RC TC CC H' q r := by
 obtain ⟨dx, a1, a2, a3, a5, a6, a7, a9, h0, h1, h2, h3, h7, h5, h6, h9⟩ := h.ex
 exact ⟨dx, a1, a2, a3, a5, a6, a7, a9, s _ _ h0, s _ _ h1, s _ _ h2, s _ _ h3, s _ _ h7, s _ _ h5, s _ _ h6, h9.same s⟩
section
variable {P : Program} {w : World} {K : PySem.W.Frag} {mg : Str -> Option Value} {base : Heap} {C XC : Addr}
theorem sky_1 {f : List T -> Option (List Int) × List T} {H : Hp} {p : Addr} {l : List T} {Q : VK} {E : XK} (cu : CurAt C H p l) (k : ∀ H' v, But p H H' -> CurAt C H' p (f l).2 -> OV (f l).1 H' v -> Q v H') : spTakeS C f [.ref p] H Q E :=
 ⟨p, l, rfl, cu, fun e H' b c => k H' .non b c (by rw [e]; exact rfl), fun ns e H' q b c _ hq => k H' (.ref q) b c (by rw [e]; exact ⟨q, rfl, hq⟩)⟩
abbrev st_ch___init__ : Stmt := inClass (top 90) 0
theorem sc_ch___init__ : FnScope ["self", "manner", "begins", "ends", "wind", "sight", "weather", "sky"] ["self", "manner", "begins", "ends", "wind", "sight", "weather", "sky"] (defScope st_ch___init__) := ⟨rfl, rfl, rfl, by decide +kernel, rfl, by decide +kernel, by decide +kernel⟩
theorem ok_initChange {f : Addr} {fd : FuncData} (Fu : Fun K "__init__" "Change.__init__" st_ch___init__ f fd) (O : ChangeOk K mg C) : FnOk P w K mg base CX0 1 f fd ["self", "manner", "begins", "ends", "wind", "sight", "weather", "sky"] (spChangeInit C) := by
 refine Fu.ok sc_ch___init__ (fun vs H Q E h => ?_) (fun cdv A outer s H vs Q E hr h => ?_)
 ·obtain ⟨p, dx, v0, v1, v2, v3, v4, v5, v6, rfl, _⟩ := h
  rfl
 ·obtain ⟨p, dx, v0, v1, v2, v3, v4, v5, v6, rfl, hp, ret⟩ := h
  refine ⟨_, (pss_cons (ps_fld (pv 0) (pv 1) rfl)
   (pss_cons (ps_fld (pv 0) (pv 2) rfl)
   (pss_cons (ps_fld (pv 0) (pv 3) rfl)
   (pss_cons (ps_fld (pv 0) (pv 4) rfl)
   (pss_cons (ps_fld (pv 0) (pv 5) rfl)
   (pss_cons (ps_fld (pv 0) (pv 6) rfl)
   (pss_one (ps_fld (pv 0) (pv 7) rfl)))))))), ?_⟩
  refine ⟨_, rfl, _, rfl, p, C, dx, _, rfl, hp, O.cl, O.n_manner, (Nat.lt_of_le_of_lt (Nat.zero_le _ : ([] : List (Str × V)).length ≤ 0) (by decide)), ?_⟩
  refine ⟨_, rfl, _, rfl, p, C, dx, _, rfl, upd_same, O.cl, O.n_begins, (Nat.lt_of_le_of_lt (pl (Nat.zero_le _ : ([] : List (Str × V)).length ≤ 0)) (by decide)), ?_⟩
  refine ⟨_, rfl, _, rfl, p, C, dx, _, rfl, upd_same, O.cl, O.n_ends, (Nat.lt_of_le_of_lt (pl (pl (Nat.zero_le _ : ([] : List (Str × V)).length ≤ 0))) (by decide)), ?_⟩
  refine ⟨_, rfl, _, rfl, p, C, dx, _, rfl, upd_same, O.cl, O.n_wind, (Nat.lt_of_le_of_lt (pl (pl (pl (Nat.zero_le _ : ([] : List (Str × V)).length ≤ 0)))) (by decide)), ?_⟩
  refine ⟨_, rfl, _, rfl, p, C, dx, _, rfl, upd_same, O.cl, O.n_sight, (Nat.lt_of_le_of_lt (pl (pl (pl (pl (Nat.zero_le _ : ([] : List (Str × V)).length ≤ 0))))) (by decide)), ?_⟩
  refine ⟨_, rfl, _, rfl, p, C, dx, _, rfl, upd_same, O.cl, O.n_weather, (Nat.lt_of_le_of_lt (pl (pl (pl (pl (pl (Nat.zero_le _ : ([] : List (Str × V)).length ≤ 0)))))) (by decide)), ?_⟩
  refine ⟨_, rfl, _, rfl, p, C, dx, _, rfl, upd_same, O.cl, O.n_sky, (Nat.lt_of_le_of_lt (pl (pl (pl (pl (pl (pl (Nat.zero_le _ : ([] : List (Str × V)).length ≤ 0))))))) (by decide)), ?_⟩
  have ret : Q .non (upd H p (.ins C dx (chF v0 v1 v2 v3 v4 v5 v6))) := ret
  unfold chF at ret
  simp only [upd_upd]
  exact ret
abbrev st_tr___init__ : Stmt := inClass (top 91) 0
theorem sc_tr___init__ : FnScope ["self", "kind", "changes"] ["self", "kind", "changes"] (defScope st_tr___init__) := ⟨rfl, rfl, rfl, by decide +kernel, rfl, by decide +kernel, by decide +kernel⟩
theorem ok_initTrend {f : Addr} {fd : FuncData} (Fu : Fun K "__init__" "Trend.__init__" st_tr___init__ f fd) (O : TrendOk K mg C) : FnOk P w K mg base CX0 1 f fd ["self", "kind", "changes"] (spTrendInit C) := by
 refine Fu.ok sc_tr___init__ (fun vs H Q E h => ?_) (fun cdv A outer s H vs Q E hr h => ?_)
 ·obtain ⟨p, dx, v0, v1, rfl, _⟩ := h
  rfl
 ·obtain ⟨p, dx, v0, v1, rfl, hp, ret⟩ := h
  refine ⟨_, (pss_cons (ps_fld (pv 0) (pv 1) rfl)
   (pss_one (ps_fld (pv 0) (pv 2) rfl))), ?_⟩
  refine ⟨_, rfl, _, rfl, p, C, dx, _, rfl, hp, O.cl, O.n_kind, (Nat.lt_of_le_of_lt (Nat.zero_le _ : ([] : List (Str × V)).length ≤ 0) (by decide)), ?_⟩
  refine ⟨_, rfl, _, rfl, p, C, dx, _, rfl, upd_same, O.cl, O.n_changes, (Nat.lt_of_le_of_lt (pl (Nat.zero_le _ : ([] : List (Str × V)).length ≤ 0)) (by decide)), ?_⟩
  have ret : Q .non (upd H p (.ins C dx (trF v0 v1))) := ret
  unfold trF at ret
  simp only [upd_upd]
  exact ret
abbrev st_rp___init__ : Stmt := inClass (top 110) 0
theorem sc_rp___init__ : FnScope ["self", "station", "moment", "wind", "sight", "degrees", "pressure", "weather", "sky", "trend"] ["self", "station", "moment", "wind", "sight", "degrees", "pressure", "weather", "sky", "trend"] (defScope st_rp___init__) := ⟨rfl, rfl, rfl, by decide +kernel, rfl, by decide +kernel, by decide +kernel⟩
theorem ok_initReport {f : Addr} {fd : FuncData} (Fu : Fun K "__init__" "Report.__init__" st_rp___init__ f fd) (O : ReportOk K mg C) : FnOk P w K mg base CX0 1 f fd ["self", "station", "moment", "wind", "sight", "degrees", "pressure", "weather", "sky", "trend"] (spReportInit C) := by
 refine Fu.ok sc_rp___init__ (fun vs H Q E h => ?_) (fun cdv A outer s H vs Q E hr h => ?_)
 ·obtain ⟨p, dx, v0, v1, v2, v3, v4, v5, v6, v7, v8, rfl, _⟩ := h
  rfl
 ·obtain ⟨p, dx, v0, v1, v2, v3, v4, v5, v6, v7, v8, rfl, hp, ret⟩ := h
  refine ⟨_, (pss_cons (ps_fld (pv 0) (pv 1) rfl)
   (pss_cons (ps_fld (pv 0) (pv 2) rfl)
   (pss_cons (ps_fld (pv 0) (pv 3) rfl)
   (pss_cons (ps_fld (pv 0) (pv 4) rfl)
   (pss_cons (ps_fld (pv 0) (pv 5) rfl)
   (pss_cons (ps_fld (pv 0) (pv 6) rfl)
   (pss_cons (ps_fld (pv 0) (pv 7) rfl)
   (pss_cons (ps_fld (pv 0) (pv 8) rfl)
   (pss_one (ps_fld (pv 0) (pv 9) rfl)))))))))), ?_⟩
  refine ⟨_, rfl, _, rfl, p, C, dx, _, rfl, hp, O.cl, O.n_station, (Nat.lt_of_le_of_lt (Nat.zero_le _ : ([] : List (Str × V)).length ≤ 0) (by decide)), ?_⟩
  refine ⟨_, rfl, _, rfl, p, C, dx, _, rfl, upd_same, O.cl, O.n_moment, (Nat.lt_of_le_of_lt (pl (Nat.zero_le _ : ([] : List (Str × V)).length ≤ 0)) (by decide)), ?_⟩
  refine ⟨_, rfl, _, rfl, p, C, dx, _, rfl, upd_same, O.cl, O.n_wind, (Nat.lt_of_le_of_lt (pl (pl (Nat.zero_le _ : ([] : List (Str × V)).length ≤ 0))) (by decide)), ?_⟩
  refine ⟨_, rfl, _, rfl, p, C, dx, _, rfl, upd_same, O.cl, O.n_sight, (Nat.lt_of_le_of_lt (pl (pl (pl (Nat.zero_le _ : ([] : List (Str × V)).length ≤ 0)))) (by decide)), ?_⟩
  refine ⟨_, rfl, _, rfl, p, C, dx, _, rfl, upd_same, O.cl, O.n_degrees, (Nat.lt_of_le_of_lt (pl (pl (pl (pl (Nat.zero_le _ : ([] : List (Str × V)).length ≤ 0))))) (by decide)), ?_⟩
  refine ⟨_, rfl, _, rfl, p, C, dx, _, rfl, upd_same, O.cl, O.n_pressure, (Nat.lt_of_le_of_lt (pl (pl (pl (pl (pl (Nat.zero_le _ : ([] : List (Str × V)).length ≤ 0)))))) (by decide)), ?_⟩
  refine ⟨_, rfl, _, rfl, p, C, dx, _, rfl, upd_same, O.cl, O.n_weather, (Nat.lt_of_le_of_lt (pl (pl (pl (pl (pl (pl (Nat.zero_le _ : ([] : List (Str × V)).length ≤ 0))))))) (by decide)), ?_⟩
  refine ⟨_, rfl, _, rfl, p, C, dx, _, rfl, upd_same, O.cl, O.n_sky, (Nat.lt_of_le_of_lt (pl (pl (pl (pl (pl (pl (pl (Nat.zero_le _ : ([] : List (Str × V)).length ≤ 0)))))))) (by decide)), ?_⟩
  refine ⟨_, rfl, _, rfl, p, C, dx, _, rfl, upd_same, O.cl, O.n_trend, (Nat.lt_of_le_of_lt (pl (pl (pl (pl (pl (pl (pl (pl (Nat.zero_le _ : ([] : List (Str × V)).length ≤ 0))))))))) (by decide)), ?_⟩
  have ret : Q .non (upd H p (.ins C dx (rpF v0 v1 v2 v3 v4 v5 v6 v7 v8))) := ret
  unfold rpF at ret
  simp only [upd_upd]
  exact ret
end
end My
end
section
set_option Elab.async false
set_option linter.all false
set_option maxRecDepth 100000
set_option maxHeartbeats 4000000
namespace My
open PySem PySem.Spec PyProof.Rows L2 TL
def spTakeC (C XC CC : Addr) : Sp := fun vs H Q E => ∃ p l, vs = [.ref p] /\ CurAt C H p l /\ (takeChange l = none -> ∀ H', E (.ref XC) none H') /\
 (∀ c r, takeChange l = some (c, r) -> ∀ H' q, But p H H' -> CurAt C H' p r -> ChgAt CC H' q c -> Q (.ref q) H')
section
variable {P : Program} {w : World} {K : PySem.W.Frag} {mg : Str -> Option Value} {base : Heap} {C XC CC : Addr}
theorem chg_tail {H H2 : Hp} {p : Addr} {r : List T} {vw vx vk : V} {k : Nat} {ga gt : Option Nat} {g : Chg} {Q : VK} {E : XK} (b : But p H H2) (c : CurAt C H2 p r) (ow : OV (g.wind.map windN) H2 vw) (ox : OV (g.wx.map Kwc.wxNumbers) H2 vx) (ok : OV (g.sky.map Kwc.skyNumbers) H2 vk)
  (r1 : (g.wind.isNone && g.sight.isNone && g.wx.isNone && g.sky.isNone) = true -> ∀ H', E (.ref XC) none H')
  (r2 : (g.wind.isNone && g.sight.isNone && g.wx.isNone && g.sky.isNone) = false -> ∀ H' q, But p H H' -> CurAt C H' p r -> ChgAt CC H' q ⟨k, ga, gt, g.wind, g.sight, g.wx, g.sky⟩ -> Q (.ref q) H') :
  tSeq
     (tIfS (tAnd (tB (tIsN (tVar 4))) (tAnd (tB (tIsN (tVar 5))) (tAnd (tB (tIsN (tVar 6))) (tB (tIsN (tVar 7))))))
      (tRaise XC E (tCons (tC (V.str (Str.ofString "a change of nothing"))) tNil)) tNext)
     (tRet (tMake CC (spChangeInit CC) [] E0 (tCons (tVar 1) (tCons (tVar 2) (tCons (tVar 3) (tCons (tVar 4) (tCons (tVar 5) (tCons (tVar 6) (tCons (tVar 7) tNil)))))))))
     { nx := fun x H' => Q V.non H', rt := Q } [some (.ref p), some (.int (k : Nat)), some (optV ga), some (optV gt), some vw, some (optV g.sight), some vx, some vk] H2 := by
 have main : (g.wind.isNone && g.sight.isNone && g.wx.isNone && g.sky.isNone) = false ->
   tRet (tMake CC (spChangeInit CC) [] E0 (tCons (tVar 1) (tCons (tVar 2) (tCons (tVar 3) (tCons (tVar 4) (tCons (tVar 5) (tCons (tVar 6) (tCons (tVar 7) tNil))))))))
     { nx := fun x H' => Q V.non H', rt := Q } [some (.ref p), some (.int (k : Nat)), some (optV ga), some (optV gt), some vw, some (optV g.sight), some vx, some vk] H2 := by
  intro hne
  refine ⟨_, rfl, _, rfl, _, rfl, _, rfl, _, rfl, _, rfl, _, rfl, fun x dx hx hdx hn => ⟨x, dx, _, _, _, _, _, _, _, rfl, upd_same, rfl, ?_⟩⟩
  have s3 := made (C := CC) (fs := chF (.int (k : Nat)) (optV ga) (optV gt) vw (optV g.sight) vx vk) hx hdx hn
  exact r2 hne _ x (b.trans (But.of s3)) (c.same s3) ⟨dx, vw, vx, vk, upd_same, ow.same s3, ox.same s3, ok.same s3⟩
 have iw := ow.isN
 have ix_ := ox.isN
 have ik := ok.isN
 have is_ : decide (optV g.sight = .non) = g.sight.isNone := by cases g.sight <;> rfl
 rw [Option.isNone_map] at iw ix_ ik
 refine ⟨_, rfl, _, rfl, ?_⟩
 rw [iw]
 refine iteB (fun e1 => ?_) (fun e1 => ?_)
 ·refine ⟨_, rfl, _, rfl, ?_⟩
  rw [is_]
  refine iteB (fun e2 => ?_) (fun e2 => ?_)
  ·refine ⟨_, rfl, _, rfl, ?_⟩
   rw [ix_]
   refine iteB (fun e3 => ?_) (fun e3 => ?_)
   ·refine ⟨_, rfl, _, rfl, ?_⟩
    rw [ik]
    refine iteB (fun e4 => ?_) (fun e4 => ?_)
    ·exact ⟨(by show 1 ≤ sizeLine; decide), r1 (by rw [e1, e2, e3, e4]; rfl) H2⟩
    ·exact main (by rw [e1, e2, e3, e4]; rfl)
   ·exact iteF (main (by rw [e1, e2, e3]; rfl))
  ·exact iteF (main (by rw [e1, e2]; rfl))
 ·exact iteF (main (by rw [e1]; rfl))
abbrev st_take_change : Stmt := top 92
theorem sc_take_change : FnScope ["cursor", "manner", "begins", "ends", "wind", "sight", "weather", "sky"] ["cursor"] (defScope st_take_change) := ⟨rfl, rfl, rfl, by decide +kernel, rfl, by decide +kernel, by decide +kernel⟩
theorem kn_tchange (N : TopFn K mg "take_change" st_take_change) (CU : CurOk K mg C) (EX : ExcC K mg "NotReport" XC) (OKCh : ChangeOk K mg CC) {fic : Addr} {fdic : FuncData} (MkCh : Mk K CC fic) (GICh : FnOk P w K mg base CX0 1 fic fdic ["self", "manner", "begins", "ends", "wind", "sight", "weather", "sky"] (spChangeInit CC)) (bICh : L2.Binds K fdic ["self", "manner", "begins", "ends", "wind", "sight", "weather", "sky"] []) (g_CAVOK : GV mg "CAVOK" (.int 10000))
  (M1 : KnM P w K mg base CX0 10 C "optional" ["self", "reader"] (spOptional P w K mg base C)) (M2 : KnM P w K mg base (CXe P w XC) 11 C "required" ["self", "reader"] (spRequired P w K mg base C XC))
  (kn_change_manner_of : Known P w K mg base CX0 1 "change_manner_of" ["word"] (sp1 rManner)) (kn_from_of : Known P w K mg base CX0 4 "from_of" ["word"] (sp1 rFrom)) (kn_till_of : Known P w K mg base CX0 4 "till_of" ["word"] (sp1 rTill))
  (kn_wind_of : Known P w K mg base CX0 4 "wind_of" ["word"] (sp1 rWind)) (kn_sight_of : Known P w K mg base CX0 2 "sight_of" ["word"] (sp1 rSight)) (kn_changed_weather_of : Known P w K mg base CX0 5 "changed_weather_of" ["word"] (sp1 rChWx))
  (kn_take_sky : Known P w K mg base CX0 11 "take_sky" ["cursor"] (spTakeS C tSkyF)) : Known P w K mg base (CXe P w XC) 13 "take_change" ["cursor"] (spTakeC C XC CC) := by
 obtain ⟨fo, fdo, me_optional, bc_optional, gc_optional⟩ := M1.ex
 obtain ⟨fq, fdq, me_required, bc_required, gc_required⟩ := M2.ex
 obtain ⟨fm, gf_change_manner_of, rdm⟩ := kn_change_manner_of.rd (by decide)
 obtain ⟨ff, gf_from_of, rdf⟩ := kn_from_of.rd (by decide)
 obtain ⟨ft, gf_till_of, rdt⟩ := kn_till_of.rd (by decide)
 obtain ⟨fw, gf_wind_of, rdw⟩ := kn_wind_of.rd (by decide)
 obtain ⟨fg, gf_sight_of, rds⟩ := kn_sight_of.rd (by decide)
 obtain ⟨fc, gf_changed_weather_of, rdx⟩ := kn_changed_weather_of.rd (by decide)
 refine known_of N (fun _ _ _ _ _ _ us hl => match us, hl with | [_], _ => rfl) fun f fd Fu => ?_
 refine Fu.okE sc_take_change (fun vs H Q E h => ?_) ?_
 ·obtain ⟨p, l, rfl, _⟩ := h
  rfl
 ·rintro X outer cdv A s H vs Q E hr h rfl L
  obtain ⟨p, l, rfl, cu, r1, r2⟩ := h
  refine ⟨_, (pss_cons (ps_set (i := 1) sc_take_change.nd rfl (by first | exact Or.inl rfl | exact Or.inr rfl) (pe_meth (pv 0) CU.cl me_required gc_required (hr.mono (by decide)) bc_required .nil (passes_on L) (pa_cons (pe_gv gf_change_manner_of (by rfl)) pa_nil)))
   (pss_cons (ps_set (i := 2) sc_take_change.nd rfl (by first | exact Or.inl rfl | exact Or.inr rfl) (pe_meth (pv 0) CU.cl me_optional gc_optional (hr.mono (by decide)) bc_optional .nil pass0 (pa_cons (pe_gv gf_from_of (by rfl)) pa_nil)))
   (pss_cons (ps_set (i := 3) sc_take_change.nd rfl (by first | exact Or.inl rfl | exact Or.inr rfl) (pe_meth (pv 0) CU.cl me_optional gc_optional (hr.mono (by decide)) bc_optional .nil pass0 (pa_cons (pe_gv gf_till_of (by rfl)) pa_nil)))
   (pss_cons (ps_set (i := 4) sc_take_change.nd rfl (by first | exact Or.inl rfl | exact Or.inr rfl) (pe_meth (pv 0) CU.cl me_optional gc_optional (hr.mono (by decide)) bc_optional .nil pass0 (pa_cons (pe_gv gf_wind_of (by rfl)) pa_nil)))
   (pss_cons (ps_set (i := 5) sc_take_change.nd rfl (by first | exact Or.inl rfl | exact Or.inr rfl) (pe_meth (pv 0) CU.cl me_optional gc_optional (hr.mono (by decide)) bc_optional .nil pass0 (pa_cons (pe_gv gf_sight_of (by rfl)) pa_nil)))
   (pss_cons (ps_set (i := 6) sc_take_change.nd rfl (by first | exact Or.inl rfl | exact Or.inr rfl) pe_non)
   (pss_cons (ps_set (i := 7) sc_take_change.nd rfl (by first | exact Or.inl rfl | exact Or.inr rfl) pe_non)
   (pss_cons (ps_if (pt_cmpR op_ne (pv 5) (pe_gv g_CAVOK (by rfl)) (nomark _))
   (pss_cons (ps_set (i := 6) sc_take_change.nd rfl (by first | exact Or.inl rfl | exact Or.inr rfl) (pe_meth (pv 0) CU.cl me_optional gc_optional (hr.mono (by decide)) bc_optional .nil pass0 (pa_cons (pe_gv gf_changed_weather_of (by rfl)) pa_nil)))
   (pss_one (ps_set (i := 7) sc_take_change.nd rfl (by first | exact Or.inl rfl | exact Or.inr rfl) (pe_kn kn_take_sky (hr.mono (by decide)) rfl pass0 (pa_cons (pv 0) pa_nil)))))
   pss_nil)
   (pss_cons (ps_if (PW.pt (pw_and (pt_cmp (pc_isN (pv 4))) (pw_and (pt_cmp (pc_isN (pv 5))) (pw_and (pt_cmp (pc_isN (pv 6))) (pw_and1 (pt_cmp (pc_isN (pv 7))))))))
   (pss_one (ps_raise L rfl EX rfl (pa_cons pe_str pa_nil)))
   pss_nil)
   (pss_one (ps_ret (pe_make MkCh GICh (hr.mono (by decide)) rfl OKCh.mgC bICh .nil pass0 (pa_cons (pv 1) (pa_cons (pv 2) (pa_cons (pv 3) (pa_cons (pv 4) (pa_cons (pv 5) (pa_cons (pv 6) (pa_cons (pv 7) pa_nil))))))))))))))))))), ?_⟩
  unfold takeChange at r1 r2
  obtain ⟨dx, fs, ho, hno⟩ := cu.obj
  refine ⟨_, rfl, p, dx, fs, rfl, ho, hno _ (by decide +kernel) (by decide +kernel), ?_⟩
  dsimp only [tCons, tNil, tC]
  refine req_I manner_nil cu rdm (fun e => ?_) (fun x e H1 b1 c1 => ?_)
  ·rw [e] at r1
   exact r1 rfl
  rw [e] at r1 r2
  dsimp only at r1 r2
  obtain ⟨dx, fs, ho, hno⟩ := c1.obj
  refine ⟨_, rfl, p, dx, fs, rfl, ho, hno _ (by decide +kernel) (by decide +kernel), ?_⟩
  dsimp only [tCons, tNil, tC]
  refine opt_I1 (f := fun w => markedMinutes w (Kwc.text "FM")) from_nil c1 rdf fun H2 va ra b2 c2 fa => ?_
  obtain ⟨rfl, rfl⟩ := fa.ov
  obtain ⟨dx, fs, ho, hno⟩ := c2.obj
  refine ⟨_, rfl, p, dx, fs, rfl, ho, hno _ (by decide +kernel) (by decide +kernel), ?_⟩
  dsimp only [tCons, tNil, tC]
  refine opt_I1 (f := fun w => markedMinutes w (Kwc.text "TL")) till_nil c2 rdt fun H4 vt rt b4 c4 ft => ?_
  obtain ⟨rfl, rfl⟩ := ft.ov
  have b5 := (b1.trans b2).trans b4
  generalize Kwc.one (fun w => markedMinutes w (Kwc.text "TL")) (Kwc.one (fun w => markedMinutes w (Kwc.text "FM")) l.tail).2 = gt at c4 r1 r2 ⊢
  generalize (Kwc.one (fun w => markedMinutes w (Kwc.text "FM")) l.tail).1 = ga at r1 r2 ⊢
  have r1 : takeChanged gt.2 = none -> ∀ H', E (.ref XC) none H' := fun e3 => r1 (by rw [e3])
  have r2 : ∀ g r, takeChanged gt.2 = some (g, r) -> ∀ H' q, But p H H' -> CurAt C H' p r -> ChgAt CC H' q ⟨x, ga, gt.1, g.wind, g.sight, g.wx, g.sky⟩ -> Q (.ref q) H' := fun g r e3 => r2 _ _ (by rw [e3])
  unfold takeChanged at r1 r2
  obtain ⟨dx, fs, ho, hno⟩ := c4.obj
  refine ⟨_, rfl, p, dx, fs, rfl, ho, hno _ (by decide +kernel) (by decide +kernel), ?_⟩
  dsimp only [tCons, tNil, tC]
  refine opt_L1 windN wind_nil c4 rdw fun H5 vw rw_ b5' c5 fw1 => ?_
  obtain ⟨ow, rfl⟩ := fw1.ov
  obtain ⟨dx, fs, ho, hno⟩ := c5.obj
  refine ⟨_, rfl, p, dx, fs, rfl, ho, hno _ (by decide +kernel) (by decide +kernel), ?_⟩
  dsimp only [tCons, tNil, tC]
  refine opt_I1 sight_nil c5 rds fun H6 vs rs_ b6 c6 fs1 => ?_
  obtain ⟨rfl, rfl⟩ := fs1.ov
  have ow2 := ow.but b6 c5
  have b12 := (b5.trans b5').trans b6
  dsimp only at r1 r2
  generalize Kwc.one sightOf (Kwc.one windOf gt.2).2 = gs at c6 r1 r2 ⊢
  generalize (Kwc.one windOf gt.2).1 = gw at ow2 r1 r2
  refine ⟨_, rfl, (by cases gs.1 <;> rfl), _, rfl, ?_⟩
  have ec : (!decide (optV gs.1 = V.int 10000)) = decide (gs.1 ≠ some 10000) := by
   cases gs.1 with
   | none => rfl
   | some n => show (!decide (V.int (n : Int) = V.int 10000)) = _; rw [dec_intV, Bool.eq_iff_iff]; simp; omega
  dsimp only
  rw [ec]
  refine iteB (fun e => ?_) (fun e => ?_)
  ·have h := of_decide_eq_true e
   rw [if_neg h] at r1 r2
   rw [if_neg h] at r1 r2
   obtain ⟨dx, fs, ho, hno⟩ := c6.obj
   refine ⟨_, rfl, p, dx, fs, rfl, ho, hno _ (by decide +kernel) (by decide +kernel), ?_⟩
   dsimp only [tCons, tNil, tC]
   refine opt_L1 Kwc.wxNumbers chwx_nil c6 rdx fun H7 vx rx_ b7 c7 fx1 => ?_
   obtain ⟨ox, rfl⟩ := fx1.ov
   refine ⟨_, rfl, ?_⟩
   dsimp only [tNil]
   refine sky_1 (E := E0) c7 fun H8 vk b8 c8 ok => ?_
   refine chg_tail (k := x) (ga := ga) (gt := gt.1) (g := ⟨gw, gs.1, (Kwc.one changedWx gs.2).1, (takeSky (Kwc.one changedWx gs.2).2).1⟩) ((b12.trans b7).trans b8) c8 ((ow2.but b7 c6).but b8 c7) (ox.but b8 c7) ok (fun z => r1 (by rw [if_pos z])) (fun z => r2 _ _ (by rw [if_neg (by rw [z]; decide)]; rfl))
  ·have h : gs.1 = some 10000 := by have := of_decide_eq_false e; exact Classical.not_not.mp this
   rw [if_pos h] at r1 r2
   rw [if_pos h] at r1 r2
   refine chg_tail (k := x) (ga := ga) (gt := gt.1) (g := ⟨gw, gs.1, none, none⟩) b12 c6 ow2 rfl rfl (fun z => r1 (by rw [if_pos z])) (fun z => r2 _ _ (by rw [if_neg (by rw [z]; decide)]))
end
end My
end
section
set_option Elab.async false
set_option linter.all false
set_option maxRecDepth 100000
set_option maxHeartbeats 4000000
namespace My
open PySem PySem.Spec PyProof.Rows L2 TL
theorem tc_cons (n : Nat) (w : T) (l : List T) : takeChanges (n + 1) (w :: l) = match takeChange (w :: l) with
  | none => none
  | some (c, r) => match takeChanges n r with
   | none => none
   | some (cs, q) => some (c :: cs, q) := rfl
def spTakeT (C XC TC CC : Addr) : Sp := fun vs H Q E => ∃ p l, vs = [.ref p] /\ CurAt C H p l /\ (takeTrend l = none -> ∀ H', E (.ref XC) none H') /\
 (∀ t r, takeTrend l = some (t, r) -> ∀ H' q, But p H H' -> CurAt C H' p r -> TrAt TC CC H' q t -> Q (.ref q) H')
structure TrInv (C CC : Addr) (H : Hp) (p n : Addr) (l : List T) (m : Nat) (σ : L2.St) (H' : Hp) : Prop where
 ex : ∃ (cs : List Kwc.Change) (rest : List T) (as : List Addr), m = 3 - cs.length /\ σ = [some (.ref p), some (.ref n)] /\ But p H H' /\ CurAt C H' p rest /\ ChsAt CC H' n as cs /\ cs.length ≤ 3 /\
  takeChanges 3 l = match takeChanges (3 - cs.length) rest with
   | none => none
   | some (cs', q) => some (cs ++ cs', q)
section
variable {P : Program} {w : World} {K : PySem.W.Frag} {mg : Str -> Option Value} {base : Heap} {C XC CC TC : Addr}
theorem trend_nil {H : Hp} {p : Addr} {r : List T} {k : Nat} {Q : VK} {σ : L2.St} (c : CurAt C H p r) (ret : ∀ H' q, Same H H' -> CurAt C H' p r -> TrAt TC CC H' q (k, []) -> Q (.ref q) H') :
  tMake TC (spTrendInit TC) [] E0 (tCons (tC (.int (k : Nat))) (tCons (tLst tNil) tNil)) σ H Q := by
 refine ⟨(by show 0 ≤ sizeLine; decide), fun n hn => fun x dx hx hdx hne => ⟨x, dx, _, _, rfl, upd_same, rfl, ?_⟩⟩
 have s1 : Same H (upd H n (.lst [])) := same_new (Same.refl H) hn
 have s3 := made (C := TC) (fs := trF (.int (k : Nat)) (.ref n)) hx hdx hne
 refine ret _ x (s1.trans s3) (c.same (s1.trans s3)) ⟨dx, n, [], upd_same, ⟨s3 _ _ upd_same, rfl, fun j a c h1 h2 => by cases h1⟩⟩
abbrev st_take_trend : Stmt := top 93
theorem sc_take_trend : FnScope ["cursor", "changes"] ["cursor"] (defScope st_take_trend) := ⟨rfl, rfl, rfl, by decide +kernel, rfl, by decide +kernel, by decide +kernel⟩
theorem kn_ttrend (N : TopFn K mg "take_trend" st_take_trend) (g_NO_CHANGE_WORD : GV mg "NO_CHANGE_WORD" (.str (Str.ofString "NOSIG"))) (CU : CurOk K mg C) (B : Bt mg) (OKTr : TrendOk K mg TC) {fit : Addr} {fdit : FuncData} (MkTr : Mk K TC fit) (GITr : FnOk P w K mg base CX0 1 fit fdit ["self", "kind", "changes"] (spTrendInit TC)) (bITr : L2.Binds K fdit ["self", "kind", "changes"] [])
  (g_NOTHING_MORE : GV mg "NOTHING_MORE" (.int 0)) (g_NO_CHANGE : GV mg "NO_CHANGE" (.int 1)) (g_CHANGES : GV mg "CHANGES" (.int 2)) (g_MOST_CHANGES : GV mg "MOST_CHANGES" (.int 3))
  (M0 : KnM P w K mg base CX0 1 C "at_end" ["self"] (spAtEnd C)) (M1 : KnM P w K mg base CX0 2 C "word" ["self"] (spWord C)) (M2 : KnM P w K mg base CX0 1 C "advance" ["self"] (spAdvance C))
  (kn_take_change : Known P w K mg base (CXe P w XC) 13 "take_change" ["cursor"] (spTakeC C XC CC)) : Known P w K mg base (CXe P w XC) 14 "take_trend" ["cursor"] (spTakeT C XC TC CC) := by
 obtain ⟨fe, fde, me_at_end, bc_at_end, gc_at_end⟩ := M0.ex
 obtain ⟨fw, fdw, me_word, bc_word, gc_word⟩ := M1.ex
 obtain ⟨fa, fda, me_advance, bc_advance, gc_advance⟩ := M2.ex
 refine known_of N (fun _ _ _ _ _ _ us hl => match us, hl with | [_], _ => rfl) fun f fd Fu => ?_
 refine Fu.okE sc_take_trend (fun vs H Q E h => ?_) ?_
 ·obtain ⟨p, l, rfl, _⟩ := h
  rfl
 ·rintro X outer cdv A s H vs Q E hr h rfl L
  obtain ⟨p, l, rfl, cu, r1, r2⟩ := h
  refine ⟨_, (pss_cons (ps_if (pt_val (pe_meth0 (pv 0) CU.cl me_at_end gc_at_end (hr.mono (by decide)) bc_at_end .nil pass0))
   (pss_one (ps_ret (pe_make MkTr GITr (hr.mono (by decide)) rfl OKTr.mgC bITr .nil pass0 (pa_cons (pe_gv g_NOTHING_MORE (by rfl)) (pa_cons (pe_lst pa_nil) pa_nil)))))
   pss_nil)
   (pss_cons (ps_if (pt_cmpR op_eq (pe_meth0 (pv 0) CU.cl me_word gc_word (hr.mono (by decide)) bc_word .nil pass0) (pe_gv g_NO_CHANGE_WORD (by rfl)) (nomark _))
   (pss_cons (ps_expr (pe_meth0 (pv 0) CU.cl me_advance gc_advance (hr.mono (by decide)) bc_advance .nil pass0))
   (pss_one (ps_ret (pe_make MkTr GITr (hr.mono (by decide)) rfl OKTr.mgC bITr .nil pass0 (pa_cons (pe_gv g_NO_CHANGE (by rfl)) (pa_cons (pe_lst pa_nil) pa_nil))))))
   pss_nil)
   (pss_cons (ps_set (i := 1) sc_take_trend.nd rfl (by first | exact Or.inl rfl | exact Or.inr rfl) (pe_lst pa_nil))
   (pss_cons (ps_while PassesOwn.leaving (PW.pt (pw_and (pt_cmpR op_lt (pe_callB call_len_seq (by rfl) B.len PySem.boot_len (pa_cons (pv 1) pa_nil)) (pe_gv g_MOST_CHANGES (by rfl)) (nomark _)) (pw_and1 (pt_not (pt_val (pe_meth0 (pv 0) CU.cl me_at_end gc_at_end (hr.mono (by decide)) bc_at_end .nil pass0))))))
   (pss_one (ps_expr (pe_bm PySem.F.plainAttrs_list PySem.F.slot_list_append PySem.F.type_list_append mt_append (pv 1) (pa_cons (pe_kn kn_take_change (hr.mono (by decide)) rfl (passes_on L) (pa_cons (pv 0) pa_nil)) pa_nil)))))
   (pss_one (ps_ret (pe_make MkTr GITr (hr.mono (by decide)) rfl OKTr.mgC bITr .nil pass0 (pa_cons (pe_gv g_CHANGES (by rfl)) (pa_cons (pv 1) pa_nil))))))))), ?_⟩
  unfold takeTrend at r1 r2
  obtain ⟨dx, fs, ho, hno⟩ := cu.obj
  refine ⟨_, rfl, p, dx, fs, rfl, ho, hno _ (by decide +kernel) (by decide +kernel), p, l, rfl, cu, _, rfl, ?_⟩
  match l, cu, r1, r2 with
  | [], cu, r1, r2 =>
   refine iteT ?_
   exact trend_nil (k := 0) (CC := CC) cu fun H1 q s1 c1 t1 => r2 _ _ rfl H1 q (But.of s1) c1 t1
  | x :: l, cu, r1, r2 =>
   refine iteF ?_
   obtain ⟨dx, fs, ho, hno⟩ := cu.obj
   refine ⟨_, rfl, p, dx, fs, rfl, ho, hno _ (by decide +kernel) (by decide +kernel), p, _, rfl, cu, rfl, _, rfl, ?_⟩
   dsimp only at r1 r2
   rw [eqStr]
   refine iteB (fun e => ?_) (fun e => ?_)
   ·have e' : x = Kwc.text "NOSIG" := of_decide_eq_true e
    rw [if_pos e'] at r2
    refine ⟨_, rfl, p, dx, fs, rfl, ho, hno _ (by decide +kernel) (by decide +kernel), p, _, rfl, cu, fun H1 b1 c1 => ?_⟩
    exact trend_nil (k := 1) (CC := CC) c1 fun H2 q s2 c2 t2 => r2 _ _ rfl H2 q (b1.trans (But.of s2)) c2 t2
   ·have e' : ¬ x = Kwc.text "NOSIG" := of_decide_eq_false e
    rw [if_neg e'] at r1 r2
    refine ⟨(by show 0 ≤ sizeLine; decide), fun n hn => ?_⟩
    have s1 : Same H (upd H n (.lst [])) := same_new (Same.refl H) hn
    refine ⟨TrInv C CC H p n (x :: l), ⟨3, ⟨[], x :: l, [], rfl, rfl, But.of s1, cu.same s1, ⟨upd_same, rfl, fun j a c h1 h2 => by cases h1⟩, by decide, ?_⟩⟩, fun m σ H' hW => ?_⟩
    ·show takeChanges 3 (x :: l) = match takeChanges 3 (x :: l) with
      | none => none
      | some (cs', q) => some ([] ++ cs', q)
     cases takeChanges 3 (x :: l) <;> rfl
    ·obtain ⟨cs, rest, as, em, rfl, bt, cu', Lc, hc3, hv⟩ := hW.ex
     have hlen := Lc.len
     have exit : takeChanges 3 (x :: l) = some (cs, rest) -> tRet (tMake TC (spTrendInit TC) [] E0 (tCons (tC (V.int 2)) (tCons (tVar 1) tNil))) { nx := fun x H' => Q V.non H', rt := Q } [some (.ref p), some (.ref n)] H' := by
      intro ex
      rw [ex] at r2
      refine ⟨_, rfl, fun y dy hy hdy hne => ⟨y, dy, _, _, rfl, upd_same, rfl, ?_⟩⟩
      have s3 := made (C := TC) (fs := trF (.int 2) (.ref n)) hy hdy hne
      exact r2 _ _ rfl _ y (bt.trans (But.of s3)) (cu'.same s3) ⟨dy, n, as, upd_same, Lc.same s3⟩
     refine ⟨_, rfl, n, _, rfl, .inl (SqL.of Lc.lst), _, _, rfl, rfl, _, rfl, ?_⟩
     rw [List.length_map, hlen]
     refine iteB (fun e1 => ?_) (fun e1 => ?_)
     ·have hlt : cs.length < 3 := by have h : ((cs.length : Int) < 3) := of_decide_eq_true e1; omega
      obtain ⟨dx, fs, ho, hno⟩ := cu'.obj
      refine ⟨_, rfl, p, dx, fs, rfl, ho, hno _ (by decide +kernel) (by decide +kernel), p, rest, rfl, cu', _, rfl, ?_⟩
      have e3 : 3 - cs.length = (2 - cs.length) + 1 := by omega
      match rest, cu', hv, exit with
      | [], cu', hv, exit =>
       refine iteF (exit ?_)
       rw [hv, e3, takeChanges]
       simp
      | y :: rest, cu', hv, exit =>
       refine iteT ⟨fun σ' H' => ∃ m', m' < m /\ TrInv C CC H p n (x :: l) m' σ' H', fun σ' H' h => h, ?_⟩
       rw [e3, tc_cons (2 - cs.length) y rest] at hv
       refine ⟨_, rfl, .inl ⟨rfl, _, SqL.of Lc.lst⟩, _, rfl, p, _, rfl, cu', fun e4 => ?_, fun c r e4 H5 q b5 c5 hq5 => ?_⟩
       ·rw [e4] at hv; rw [hv] at r1; exact r1 rfl
       ·rw [e4] at hv
        have L5 := Lc.but b5 cu'
        refine ⟨n, _, _, rfl, rfl, L5.lst, (by rw [List.length_map, hlen]; exact Nat.lt_of_lt_of_le hlt (by decide)), ?_⟩
        refine ⟨3 - (cs ++ [c]).length, by rw [em]; simp; omega, ⟨cs ++ [c], r, as ++ [q], rfl, rfl, (bt.trans b5).put hn, c5.put L5.lst (no_ref as), L5.add hq5, by simp; omega, ?_⟩⟩
        rw [hv, show 3 - (cs ++ [c]).length = 2 - cs.length from by simp]
        dsimp only
        cases takeChanges (2 - cs.length) r with
        | none => rfl
        | some v => simp
     ·have hlt : cs.length = 3 := by have h : ¬ ((cs.length : Int) < 3) := of_decide_eq_false e1; omega
      refine iteF (exit ?_)
      rw [hv, hlt]
      show some (cs ++ [], rest) = _
      rw [List.append_nil]
end
end My
end
section
set_option Elab.async false
set_option linter.all false
set_option maxRecDepth 100000
set_option maxHeartbeats 4000000
namespace My
open PySem PySem.Spec PyProof.Rows L2 TL
theorem CurAt.keep {C : Addr} {H H' : Hp} {p q : Addr} {l : List T} {xs : List V} (c : CurAt C H p l) (b : But p H H') (h : H q = some (.lst xs)) : H' q = some (.lst xs) := b _ _ h (c.ne h)
def spRepo (C XC RC TC CC : Addr) : Sp := fun vs H Q E => ∃ p l, vs = [.ref p] /\ CurAt C H p l /\ (takeReport l = none -> ∀ H', E (.ref XC) none H') /\
 (∀ r, takeReport l = some r -> ∀ H' q, RepAt RC TC CC H' q r -> Q (.ref q) H')
section
variable {P : Program} {w : World} {K : PySem.W.Frag} {mg : Str -> Option Value} {base : Heap} {C XC RC TC CC : Addr}
theorem take_1 {f : List T -> Option (List Int × List T)} {H : Hp} {p : Addr} {l : List T} {Q : VK} {E : XK} (cu : CurAt C H p l) (k1 : f l = none -> ∀ H', E (.ref XC) none H') (k2 : ∀ ns r, f l = some (ns, r) -> ∀ H' q, But p H H' -> CurAt C H' p r -> H q = none -> H' q = some (.lst (ns.map V.int)) -> Q (.ref q) H') : spTake C XC f [.ref p] H Q E := ⟨p, l, rfl, cu, k1, k2⟩
theorem rep_tail {H : Hp} {p a1 a2 a3 a5 a6 f4 f5 : Addr} {l : List T} {n : Nat} {st : List Nat} {mo : Nat × Nat × Nat} {wd : Kwc.Wind} {wx : List Kwc.Wx} {sk : Kwc.Sky} {Q : VK} {E : XK} (cu : CurAt C H p l)
  (h1 : H a1 = some (.lst ((zs st).map V.int))) (h2 : H a2 = some (.lst ((momN mo).map V.int))) (h3 : H a3 = some (.lst ((win5 wd).map V.int))) (h5 : H a5 = some (.lst ((Kwc.wxNumbers wx).map V.int))) (h6 : H a6 = some (.lst ((Kwc.skyNumbers sk).map V.int)))
  (rdde : RdOk P w K mg base f4 rDegrees) (rdpr : RdOk P w K mg base f5 rPress)
  (z1 : ∀ r, Kwc.one degreesOf l = (none, r) -> ∀ H', E (.ref XC) none H') (z2 : ∀ dg l6 r, Kwc.one degreesOf l = (some dg, l6) -> Kwc.one pressureOf l6 = (none, r) -> ∀ H', E (.ref XC) none H')
  (z3 : ∀ dg l6 pr l7, Kwc.one degreesOf l = (some dg, l6) -> Kwc.one pressureOf l6 = (some pr, l7) -> takeTrend l7 = none -> ∀ H', E (.ref XC) none H')
  (z4 : ∀ dg l6 pr l7 tr l8, Kwc.one degreesOf l = (some dg, l6) -> Kwc.one pressureOf l6 = (some pr, l7) -> takeTrend l7 = some (tr, l8) -> ¬ l8 = [] -> ∀ H', E (.ref XC) none H')
  (z5 : ∀ dg l6 pr l7 tr l8, Kwc.one degreesOf l = (some dg, l6) -> Kwc.one pressureOf l6 = (some pr, l7) -> takeTrend l7 = some (tr, l8) -> l8 = [] -> ∀ H' q, RepAt RC TC CC H' q ⟨st, mo.1, mo.2.1, mo.2.2, wd, n, wx, sk, dg.1, dg.2, pr, tr.1, tr.2⟩ -> Q (.ref q) H') :
  tSeq
     (tAsg
      (tMeth C (Str.ofString "required") (spRequired P w K mg base C XC) [] E (tVar 0)
       (tCons (tC (V.ref f4)) tNil))
      (gName 7))
     (tSeq
      (tAsg
       (tMeth C (Str.ofString "required") (spRequired P w K mg base C XC) [] E (tVar 0)
        (tCons (tC (V.ref f5)) tNil))
       (gName 8))
      (tSeq (tAsg (tCall (spTakeT C XC TC CC) [] E (tCons (tVar 0) tNil)) (gName 9))
       (tSeq
        (tIfS (tNot (tB (tMeth C (Str.ofString "at_end") (spAtEnd C) [] E0 (tVar 0) tNil)))
         (tRaise XC E (tCons (tC (V.str (Str.ofString "a word too many"))) tNil)) tNext)
        (tRet
         (tMake RC (spReportInit RC) [] E0 (tCons (tVar 1) (tCons (tVar 2) (tCons (tVar 3) (tCons (tVar 4) (tCons (tVar 7) (tCons (tVar 8) (tCons (tVar 5) (tCons (tVar 6) (tCons (tVar 9) tNil))))))))))))))
     { nx := fun x H' => Q V.non H', rt := Q } [some (.ref p), some (.ref a1), some (.ref a2), some (.ref a3), some (.int (n : Nat)), some (.ref a5), some (.ref a6), none, none, none] H := by
 obtain ⟨dx, fs, ho, hno⟩ := cu.obj
 refine ⟨_, rfl, p, dx, fs, rfl, ho, hno _ (by decide +kernel) (by decide +kernel), ?_⟩
 dsimp only [tCons, tNil, tC]
 refine req_L degN degrees_nil cu rdde (fun e => z1 _ e) (fun dg eD H1 a7 b1 c1 _ h7 => ?_)
 have h1 := cu.keep b1 h1
 have h2 := cu.keep b1 h2
 have h3 := cu.keep b1 h3
 have h5 := cu.keep b1 h5
 have h6 := cu.keep b1 h6
 obtain ⟨dx, fs, ho, hno⟩ := c1.obj
 refine ⟨_, rfl, p, dx, fs, rfl, ho, hno _ (by decide +kernel) (by decide +kernel), ?_⟩
 dsimp only [tCons, tNil, tC]
 refine req_I pressure_nil c1 rdpr (fun e => z2 _ _ _ eD e) (fun pr eP H2 b2 c2 => ?_)
 have h1 := c1.keep b2 h1
 have h2 := c1.keep b2 h2
 have h3 := c1.keep b2 h3
 have h5 := c1.keep b2 h5
 have h6 := c1.keep b2 h6
 have h7 := c1.keep b2 h7
 refine ⟨_, rfl, ?_⟩
 dsimp only [tNil]
 refine ⟨p, _, rfl, c2, fun eT => z3 _ _ _ _ eD eP eT, fun tr l8 eT H3 a9 b3 c3 h9 => ?_⟩
 have h1 := c2.keep b3 h1
 have h2 := c2.keep b3 h2
 have h3 := c2.keep b3 h3
 have h5 := c2.keep b3 h5
 have h6 := c2.keep b3 h6
 have h7 := c2.keep b3 h7
 obtain ⟨dx, fs, ho, hno⟩ := c3.obj
 refine ⟨_, rfl, p, dx, fs, rfl, ho, hno _ (by decide +kernel) (by decide +kernel), p, _, rfl, c3, _, rfl, ?_⟩
 refine iteB (fun e => ?_) (fun e => ?_)
 ·exact ⟨(by show 1 ≤ sizeLine; decide), z4 _ _ _ _ _ _ eD eP eT (by have := nt e; simpa using this) H3⟩
 ·have z := z5 _ _ _ _ _ _ eD eP eT (by have := nf e; simpa using this)
  refine ⟨_, rfl, _, rfl, _, rfl, _, rfl, _, rfl, _, rfl, _, rfl, _, rfl, _, rfl, fun x dx hx hdx hne => ⟨x, dx, _, _, _, _, _, _, _, _, _, rfl, upd_same, rfl, ?_⟩⟩
  have s3 := made (C := RC) (fs := rpF (.ref a1) (.ref a2) (.ref a3) (.int (n : Nat)) (.ref a7) (.int (pr : Nat)) (.ref a5) (.ref a6) (.ref a9)) hx hdx hne
  exact z _ x ⟨dx, a1, a2, a3, a5, a6, a7, a9, upd_same, s3 _ _ h1, s3 _ _ h2, s3 _ _ h3, s3 _ _ h7, s3 _ _ h5, s3 _ _ h6, h9.same s3⟩
abbrev st_take_report : Stmt := top 111
theorem sc_take_report : FnScope ["cursor", "station", "moment", "wind", "sight", "weather", "sky", "degrees", "pressure", "trend"] ["cursor"] (defScope st_take_report) := ⟨rfl, rfl, rfl, by decide +kernel, rfl, by decide +kernel, by decide +kernel⟩
theorem kn_report (N : TopFn K mg "take_report" st_take_report) (CU : CurOk K mg C) (EX : ExcC K mg "NotReport" XC) (OKRp : ReportOk K mg RC) {fir : Addr} {fdir : FuncData} (MkRp : Mk K RC fir) (GIRp : FnOk P w K mg base CX0 1 fir fdir ["self", "station", "moment", "wind", "sight", "degrees", "pressure", "weather", "sky", "trend"] (spReportInit RC)) (bIRp : L2.Binds K fdir ["self", "station", "moment", "wind", "sight", "degrees", "pressure", "weather", "sky", "trend"] []) (g_CAVOK : GV mg "CAVOK" (.int 10000)) (M0 : KnM P w K mg base CX0 1 C "at_end" ["self"] (spAtEnd C)) (M2 : KnM P w K mg base (CXe P w XC) 11 C "required" ["self", "reader"] (spRequired P w K mg base C XC))
  (kn_station_of : Known P w K mg base CX0 1 "station_of" ["word"] (sp1 rStation)) (kn_moment_of : Known P w K mg base CX0 3 "moment_of" ["word"] (sp1 rMoment)) (kn_take_wind_and_sector : Known P w K mg base (CXe P w XC) 12 "take_wind_and_sector" ["cursor"] (spTake C XC tWindF))
  (kn_sight_of : Known P w K mg base CX0 2 "sight_of" ["word"] (sp1 rSight)) (kn_take_weather : Known P w K mg base CX0 11 "take_weather" ["cursor"] (spTake C XC tWxF)) (kn_take_sky : Known P w K mg base CX0 11 "take_sky" ["cursor"] (spTakeS C tSkyF)) (kn_demanded : Known P w K mg base (CXe P w XC) 1 "demanded" ["found"] (spDemanded XC))
  (kn_degrees_of : Known P w K mg base CX0 3 "degrees_of" ["word"] (sp1 rDegrees)) (kn_pressure_of : Known P w K mg base CX0 2 "pressure_of" ["word"] (sp1 rPress)) (kn_take_trend : Known P w K mg base (CXe P w XC) 14 "take_trend" ["cursor"] (spTakeT C XC TC CC)) : Known P w K mg base (CXe P w XC) 15 "take_report" ["cursor"] (spRepo C XC RC TC CC) := by
 obtain ⟨fe, fde, me_at_end, bc_at_end, gc_at_end⟩ := M0.ex
 obtain ⟨fq, fdq, me_required, bc_required, gc_required⟩ := M2.ex
 obtain ⟨f1, gf_station_of, rdst⟩ := kn_station_of.rd (by decide)
 obtain ⟨f2, gf_moment_of, rdmo⟩ := kn_moment_of.rd (by decide)
 obtain ⟨f3, gf_sight_of, rdsi⟩ := kn_sight_of.rd (by decide)
 obtain ⟨f4, gf_degrees_of, rdde⟩ := kn_degrees_of.rd (by decide)
 obtain ⟨f5, gf_pressure_of, rdpr⟩ := kn_pressure_of.rd (by decide)
 refine known_of N (fun _ _ _ _ _ _ us hl => match us, hl with | [_], _ => rfl) fun f fd Fu => ?_
 refine Fu.okE sc_take_report (fun vs H Q E h => ?_) ?_
 ·obtain ⟨p, l, rfl, _⟩ := h
  rfl
 ·rintro X outer cdv A s H vs Q E hr h rfl L
  obtain ⟨p, l, rfl, cu, r1, r2⟩ := h
  refine ⟨_, (pss_cons (ps_set (i := 1) sc_take_report.nd rfl (by first | exact Or.inl rfl | exact Or.inr rfl) (pe_meth (pv 0) CU.cl me_required gc_required (hr.mono (by decide)) bc_required .nil (passes_on L) (pa_cons (pe_gv gf_station_of (by rfl)) pa_nil)))
   (pss_cons (ps_set (i := 2) sc_take_report.nd rfl (by first | exact Or.inl rfl | exact Or.inr rfl) (pe_meth (pv 0) CU.cl me_required gc_required (hr.mono (by decide)) bc_required .nil (passes_on L) (pa_cons (pe_gv gf_moment_of (by rfl)) pa_nil)))
   (pss_cons (ps_set (i := 3) sc_take_report.nd rfl (by first | exact Or.inl rfl | exact Or.inr rfl) (pe_kn kn_take_wind_and_sector (hr.mono (by decide)) rfl (passes_on L) (pa_cons (pv 0) pa_nil)))
   (pss_cons (ps_set (i := 4) sc_take_report.nd rfl (by first | exact Or.inl rfl | exact Or.inr rfl) (pe_meth (pv 0) CU.cl me_required gc_required (hr.mono (by decide)) bc_required .nil (passes_on L) (pa_cons (pe_gv gf_sight_of (by rfl)) pa_nil)))
   (pss_cons (ps_set (i := 5) sc_take_report.nd rfl (by first | exact Or.inl rfl | exact Or.inr rfl) (pe_lst (pa_cons pe_int pa_nil)))
   (pss_cons (ps_set (i := 6) sc_take_report.nd rfl (by first | exact Or.inl rfl | exact Or.inr rfl) (pe_lst (pa_cons pe_int pa_nil)))
   (pss_cons (ps_if (pt_cmpR op_ne (pv 4) (pe_gv g_CAVOK (by rfl)) (nomark _))
   (pss_cons (ps_set (i := 5) sc_take_report.nd rfl (by first | exact Or.inl rfl | exact Or.inr rfl) (pe_kn kn_take_weather (hr.mono (by decide)) rfl pass0 (pa_cons (pv 0) pa_nil)))
   (pss_one (ps_set (i := 6) sc_take_report.nd rfl (by first | exact Or.inl rfl | exact Or.inr rfl) (pe_kn kn_demanded (hr.mono (by decide)) rfl (passes_on L) (pa_cons (pe_kn kn_take_sky (hr.mono (by decide)) rfl pass0 (pa_cons (pv 0) pa_nil)) pa_nil)))))
   pss_nil)
   (pss_cons (ps_set (i := 7) sc_take_report.nd rfl (by first | exact Or.inl rfl | exact Or.inr rfl) (pe_meth (pv 0) CU.cl me_required gc_required (hr.mono (by decide)) bc_required .nil (passes_on L) (pa_cons (pe_gv gf_degrees_of (by rfl)) pa_nil)))
   (pss_cons (ps_set (i := 8) sc_take_report.nd rfl (by first | exact Or.inl rfl | exact Or.inr rfl) (pe_meth (pv 0) CU.cl me_required gc_required (hr.mono (by decide)) bc_required .nil (passes_on L) (pa_cons (pe_gv gf_pressure_of (by rfl)) pa_nil)))
   (pss_cons (ps_set (i := 9) sc_take_report.nd rfl (by first | exact Or.inl rfl | exact Or.inr rfl) (pe_kn kn_take_trend (hr.mono (by decide)) rfl (passes_on L) (pa_cons (pv 0) pa_nil)))
   (pss_cons (ps_if (pt_not (pt_val (pe_meth0 (pv 0) CU.cl me_at_end gc_at_end (hr.mono (by decide)) bc_at_end .nil pass0)))
   (pss_one (ps_raise L rfl EX rfl (pa_cons pe_str pa_nil)))
   pss_nil)
   (pss_one (ps_ret (pe_make MkRp GIRp (hr.mono (by decide)) rfl OKRp.mgC bIRp .nil pass0 (pa_cons (pv 1) (pa_cons (pv 2) (pa_cons (pv 3) (pa_cons (pv 4) (pa_cons (pv 7) (pa_cons (pv 8) (pa_cons (pv 5) (pa_cons (pv 6) (pa_cons (pv 9) pa_nil))))))))))))))))))))))), ?_⟩
  unfold takeReport at r1 r2
  obtain ⟨dx, fs, ho, hno⟩ := cu.obj
  refine ⟨_, rfl, p, dx, fs, rfl, ho, hno _ (by decide +kernel) (by decide +kernel), ?_⟩
  dsimp only [tCons, tNil, tC]
  refine req_L zs station_nil cu rdst (fun e => ?_) (fun st eS H1 a1 b1 c1 _ h1 => ?_)
  ·rw [e] at r1
   exact r1 rfl
  rw [eS] at r1 r2
  dsimp only at r1 r2
  obtain ⟨dx, fs, ho, hno⟩ := c1.obj
  refine ⟨_, rfl, p, dx, fs, rfl, ho, hno _ (by decide +kernel) (by decide +kernel), ?_⟩
  dsimp only [tCons, tNil, tC]
  refine req_L momN moment_nil c1 rdmo (fun e => ?_) (fun mo e H2 a2 b2 c2 _ h2 => ?_)
  ·rw [e] at r1
   exact r1 rfl
  rw [e] at r1 r2
  dsimp only at r1 r2
  have h1 := c1.keep b2 h1
  refine ⟨_, rfl, ?_⟩
  dsimp only [tNil]
  refine take_1 c2 (fun e => ?_) (fun wi r3 e H3 a3 b3 c3 _ h3 => ?_)
  ·unfold tWindF at e
   cases ew : takeWind l.tail.tail with
   | none => rw [ew] at r1; exact r1 rfl
   | some y => rw [ew] at e; cases e
  have h1 := c2.keep b3 h1
  have h2 := c2.keep b3 h2
  unfold tWindF at e
  cases ew : takeWind l.tail.tail with
  | none => rw [ew] at e; cases e
  | some y =>
   obtain ⟨wd, r3'⟩ := y
   rw [ew] at e r1 r2
   cases e
   dsimp only at r1 r2
   obtain ⟨dx, fs, ho, hno⟩ := c3.obj
   refine ⟨_, rfl, p, dx, fs, rfl, ho, hno _ (by decide +kernel) (by decide +kernel), ?_⟩
   dsimp only [tCons, tNil, tC]
   refine req_I sight_nil c3 rdsi (fun e => ?_) (fun n e H4 b4 c4 => ?_)
   ·rw [e] at r1
    exact r1 rfl
   rw [e] at r1 r2
   dsimp only at r1 r2
   have h1 := c3.keep b4 h1
   have h2 := c3.keep b4 h2
   have h3 := c3.keep b4 h3
   refine ⟨(by show 1 ≤ sizeLine; decide), fun a5 h5 => ?_⟩
   have s5 : Same H4 (upd H4 a5 (.lst (([0] : List Int).map V.int))) := same_new (Same.refl _) h5
   refine ⟨(by show 1 ≤ sizeLine; decide), fun a6 h6 => ?_⟩
   have s6 : Same (upd H4 a5 (.lst (([0] : List Int).map V.int))) (upd (upd H4 a5 (.lst (([0] : List Int).map V.int))) a6 (.lst (([0] : List Int).map V.int))) := same_new (Same.refl _) h6
   have h5 := s6 _ _ (upd_same (H := H4) (a := a5) (o := .lst (([0] : List Int).map V.int)))
   have h6 : (upd (upd H4 a5 (.lst (([0] : List Int).map V.int))) a6 (.lst (([0] : List Int).map V.int))) a6 = _ := upd_same
   have s7 := s5.trans s6
   have c7 := c4.same s7
   have h1 := s7 _ _ h1
   have h2 := s7 _ _ h2
   have h3 := s7 _ _ h3
   refine ⟨_, rfl, rfl, _, rfl, ?_⟩
   have ec : (!decide (V.int (n : Int) = V.int 10000)) = decide (n ≠ 10000) := by rw [dec_intV, Bool.eq_iff_iff]; simp; omega
   dsimp only
   rw [ec]
   unfold takeWxSky at r1 r2
   refine iteB (fun e => ?_) (fun e => ?_)
   ·rw [if_neg (of_decide_eq_true e)] at r1 r2
    dsimp only at r1 r2
    refine ⟨_, rfl, ?_⟩
    dsimp only [tNil]
    refine take_1 (E := E0) c7 (fun e => (by cases e)) (fun ns r e H8 a8 b8 c8 _ h8 => ?_)
    cases e
    have h1 := c7.keep b8 h1
    have h2 := c7.keep b8 h2
    have h3 := c7.keep b8 h3
    refine ⟨_, rfl, ?_⟩
    dsimp only [tNil]
    refine sky_1 (E := E0) c8 fun H9 v b9 c9 ov => ?_
    have h1 := c8.keep b9 h1
    have h2 := c8.keep b9 h2
    have h3 := c8.keep b9 h3
    have h8 := c8.keep b9 h8
    unfold tSkyF at ov c9
    cases es : takeSky (upto weatherOf 3 r3.tail).2 with
    | mk o l5 =>
     rw [es] at ov c9 r1 r2
     cases o with
     | none =>
      have : v = .non := ov
      subst this
      exact ⟨_, rfl, fun _ => r1 rfl, fun z => absurd rfl z⟩
     | some sk =>
      obtain ⟨q, rfl, hq⟩ := ov
      refine ⟨_, rfl, fun z => (by cases z), fun _ => ?_⟩
      dsimp only at r1 r2
      exact rep_tail (sk := sk) c9 h1 h2 h3 h8 hq rdde rdpr (fun r e => by rw [e] at r1; exact r1 rfl) (fun dg l6 r e e2 => by rw [e] at r1; dsimp only at r1; rw [e2] at r1; exact r1 rfl)
       (fun dg l6 pr l7 e e2 e3 => by rw [e] at r1; dsimp only at r1; rw [e2] at r1; dsimp only at r1; rw [e3] at r1; exact r1 rfl)
       (fun dg l6 pr l7 tr l8 e e2 e3 e4 => by rw [e] at r1; dsimp only at r1; rw [e2] at r1; dsimp only at r1; rw [e3] at r1; dsimp only at r1; rw [if_neg e4] at r1; exact r1 rfl)
       (fun dg l6 pr l7 tr l8 e e2 e3 e4 => by rw [e] at r2; dsimp only at r2; rw [e2] at r2; dsimp only at r2; rw [e3] at r2; dsimp only at r2; rw [if_pos e4] at r2; exact r2 _ rfl)
   ·have hn : n = 10000 := Classical.not_not.mp (of_decide_eq_false e)
    rw [if_pos hn] at r1 r2
    dsimp only at r1 r2
    exact rep_tail (wx := []) (sk := .clear) c7 h1 h2 h3 h5 h6 rdde rdpr (fun r e => by rw [e] at r1; exact r1 rfl) (fun dg l6 r e e2 => by rw [e] at r1; dsimp only at r1; rw [e2] at r1; exact r1 rfl)
       (fun dg l6 pr l7 e e2 e3 => by rw [e] at r1; dsimp only at r1; rw [e2] at r1; dsimp only at r1; rw [e3] at r1; exact r1 rfl)
       (fun dg l6 pr l7 tr l8 e e2 e3 e4 => by rw [e] at r1; dsimp only at r1; rw [e2] at r1; dsimp only at r1; rw [e3] at r1; dsimp only at r1; rw [if_neg e4] at r1; exact r1 rfl)
       (fun dg l6 pr l7 tr l8 e e2 e3 e4 => by rw [e] at r2; dsimp only at r2; rw [e2] at r2; dsimp only at r2; rw [e3] at r2; dsimp only at r2; rw [if_pos e4] at r2; exact r2 _ rfl)
end
end My
end
section
set_option Elab.async false
set_option linter.all false
set_option maxRecDepth 100000
set_option maxHeartbeats 4000000
namespace My
open PySem PySem.Spec PyProof.Rows L2 TL
def SGN : T := Kwc.text " +-/0123456789=ABCDEFGHIJKLMNOPQRSTUVWXYZ"
theorem sgn_lt : ∀ b, b < 128 -> SGN.contains b = sign b := by decide +kernel
theorem sgn_sign (b : Nat) : SGN.contains b = sign b := by
 by_cases h : b < 128
 ·exact sgn_lt b h
 ·have h1 : sign b = false := by
   cases e : sign b with
   | false => rfl
   | true => exact absurd (sign_lt e) h
  have h2 : ∀ x ∈ SGN, x < 128 := by decide +kernel
  rw [h1]
  cases e : SGN.contains b with
  | false => rfl
  | true => exact absurd (h2 b (by simpa using e)) h
abbrev cK (c : Nat) : Key × V := (.inl (c : Int), strV [c])
theorem val_merge (b : Nat) : ∀ (l : T) (acc : List (Key × V)), valV (mergeK acc (l.map cK)) (.inl (b : Int)) = if l.contains b then some (strV [b]) else valV acc (.inl (b : Int))
 | [], acc => rfl
 | c :: l, acc => by
  have ih := val_merge b l (putK acc (.inl (c : Int)) (strV [c]))
  show valV (mergeK (putK acc (.inl (c : Int)) (strV [c])) (l.map cK)) (.inl (b : Int)) = _
  rw [ih, valV_put, List.contains_cons]
  by_cases e : b = c
  ·subst e
   simp
  ·have e1 : ¬ ((Sum.inl (b : Int) : Key) = .inl (c : Int)) := fun z => e (by injection z with z; omega)
   rw [if_neg e1, beq_eq_false_iff_ne.mpr e, Bool.false_or]
theorem joinL_nil : ∀ ps : List (List Nat), TL.joinL [] ps = ps.flatten
 | [] => rfl
 | [p] => by simp [TL.joinL]
 | p :: q :: r => by rw [TL.joinL, joinL_nil (q :: r)]; simp
theorem join_bytes (t : T) : Txt.join (Str.ofString "") (t.map fun b => S [b]) = S t := by
 rw [TL.join_eq]
 refine TL.ext_tl ?_
 rw [TL.tl_join, ofS "", show Kwc.text "" = [] from rfl, TL.tl_mk, joinL_nil, TL.tl_mk, List.map_map]
 induction t with
 | nil => rfl
 | cons b t ih => rw [List.map_cons, List.flatten_cons, ih]; rfl
structure PrR (i : Nat) (acc : List V) (H : Hp) : Prop where
 ln : acc.length = i
 ex : ∃ ps : List Addr, acc = ps.map V.ref /\ Paired (fun p c => H p = some (.tup [.int ((c : Nat) : Int), strV [c]])) ps (SGN.take i)
theorem Paired.snoc {α β : Type} {F : α -> β -> Prop} : ∀ {l₁ : List α} {l₂ : List β} {a : α} {b : β}, Paired F l₁ l₂ -> F a b -> Paired F (l₁ ++ [a]) (l₂ ++ [b])
 | _, _, _, _, .nil, h => .cons h .nil
 | _, _, _, _, .cons h t, h' => .cons h (Paired.snoc t h')
theorem paired_map {α β γ : Type} {F : α -> β -> Prop} {G : α -> γ -> Prop} {g : β -> γ} : ∀ {l₁ : List α} {l₂ : List β}, Paired F l₁ l₂ -> (∀ a b, F a b -> G a (g b)) -> Paired G l₁ (l₂.map g)
 | _, _, .nil, _ => .nil
 | _, _, .cons h t, k => .cons (k _ _ h) (paired_map t k)
theorem sum_bytes : ∀ t : T, ((t.map fun b => S [b]).map (·.length)).sum = t.length
 | [] => rfl
 | b :: t => by rw [List.map_cons, List.map_cons, List.sum_cons, sum_bytes t, S_len]; simp; omega
theorem rd_gen {w : T} {j : Nat} {te : TE} {σ : L2.St} {H1 : Hp} {Q : VK} (R : Nat -> List V -> Hp -> Prop) (hn : w.length < sizeLine) (h0 : ∀ D, H1 D = none -> R 0 [] (upd H1 D (.lst []))) (hl : ∀ i acc H, R i acc H -> acc.length = i)
  (elem : ∀ D, H1 D = none -> ∀ i acc H' (k : VK), i < w.length -> Same H1 H' -> H' D = some (.lst acc) -> R i acc H' -> (∀ y H4, Same H' H4 -> R (i + 1) (acc ++ [y]) (upd H4 D (.lst (acc ++ [y]))) -> k y H4) -> te ((wipe σ [j]).set j (some (.str ⟨#[w.getD i 0]⟩))) H' k)
  (fin : ∀ D, H1 D = none -> ∀ H acc, Same H1 H -> H D = some (.lst acc) -> R w.length acc H -> Q (.ref D) H) : tLc (iStr (tC (strV w))) (gName j) tYes te [j] σ H1 Q :=
 ⟨_, rfl, fun D hD => lc_gen (J := Its (S w)) (n := w.length) (src := fun i => .str ⟨#[w.getD i 0]⟩) R (fun i H hi _ => its_go hi) (fun i H hi _ => its_stop hi) (fun i H x H' hi _ hx => its_yld hi hx) hD hn (h0 D hD) hl (elem D hD) (fin D hD)⟩
section
variable {P : Program} {w : World} {K : PySem.W.Frag} {mg : Str -> Option Value} {base : Heap} {C XC : Addr}
abbrev st_text_of : Stmt := top 3
theorem sc_text_of : FnScope ["t", "signs", "sign", "byte"] ["t"] (defScope st_text_of) := ⟨rfl, rfl, rfl, by decide +kernel, rfl, by decide +kernel, by decide +kernel⟩
theorem kn_text (N : TopFn K mg "text_of" st_text_of) (B : Bt mg) (EX : ExcC K mg "NotReport" XC) (g_SIGNS : GV mg "SIGNS" (strV SGN)) : Known P w K mg base (CXe P w XC) 1 "text_of" ["t"] (spText XC K) := by
 refine known_of N (fun _ _ _ _ _ _ us hl => match us, hl with | [_], _ => rfl) fun f fd Fu => ?_
 refine Fu.okE sc_text_of (fun vs H Q E h => ?_) ?_
 ·obtain ⟨a, t, rfl, _⟩ := h
  rfl
 ·rintro X outer cdv A s H vs Q E hr h rfl L
  obtain ⟨a, t, rfl, sq, hl, r1, r2⟩ := h
  have hu := Nat.lt_of_le_of_lt (Nat.add_le_add_left (show 1 ≤ 64 by decide) _) hr.units
  refine ⟨_, (pss_cons (ps_set (i := 1) sc_text_of.nd rfl (by first | exact Or.inl rfl | exact Or.inr rfl) (pe_callTy (call_dictP rfl) (by rfl) B.dict bt_dict (pa_cons (pe_lc rfl sc_text_of.nd (pi_str (pe_gv g_SIGNS (by rfl))) (blkOk_by (own := [("sign", 2)]) (by kernel_rfl)) (fun _ _ _ _ _ => pg_name (i := 2) sc_text_of.nd rfl (Or.inl rfl)) (fun _ _ _ _ _ => pts_nil) (fun _ _ _ _ _ => (pe_tup (pa_cons (pe_callB call_ord (by rfl) B.ord bt_ord (pa_cons (pv 2) pa_nil)) (pa_cons (pv 2) pa_nil))))) pa_nil)))
   (pss_cons (ps_if (pt_not (pt_val (pe_callB (call_allB rfl) (by rfl) B.all bt_all (pa_cons (pe_lc rfl sc_text_of.nd (pi_list (pv 0)) (blkOk_by (own := [("byte", 3)]) (by kernel_rfl)) (fun _ _ _ _ _ => pg_name (i := 3) sc_text_of.nd rfl (Or.inl rfl)) (fun _ _ _ _ _ => pts_nil) (fun _ _ _ _ _ => (pe_cmp (pc_din hu (pv 3) (pv 1))))) pa_nil))))
   (pss_one (ps_raise L rfl EX rfl (pa_cons pe_str pa_nil)))
   pss_nil)
   (pss_one (ps_ret (pe_join pe_str (pe_lc rfl sc_text_of.nd (pi_list (pv 0)) (blkOk_by (own := [("byte", 3)]) (by kernel_rfl)) (fun _ _ _ _ _ => pg_name (i := 3) sc_text_of.nd rfl (Or.inl rfl)) (fun _ _ _ _ _ => pts_nil) (fun _ _ _ _ _ => (pe_dget hu (pv 1) (pv 3) (fun _ _ => rfl))))))))), ?_⟩
  dsimp only [tSeq, tAsg, tCB, tCons, tNil]
  refine rd_gen PrR (by decide +kernel) (fun D hD => ⟨rfl, [], rfl, .nil⟩) (fun i acc H h => h.ln) (fun D hD i acc H' k hi hs hd hR hk => ?_) (fun D hD H1 acc s1 hd hR => ?_)
  ·obtain ⟨hln, ps, rfl, hp⟩ := hR
   refine ⟨_, rfl, _, rfl, rfl, _, rfl, (by show 2 ≤ sizeLine; decide), fun p hpn => ?_⟩
   refine hk (.ref p) _ (same_new (Same.refl _) hpn) ⟨by simp at hln ⊢; omega, ps ++ [p], by simp, ?_⟩
   have e : SGN.take (i + 1) = SGN.take i ++ [SGN.getD i 0] := by
    rw [List.take_add_one, List.getD_eq_getElem?_getD, List.getElem?_eq_getElem hi]; rfl
   rw [e]
   refine Paired.snoc (Paired.mapP hp fun q c hq => ?_) ?_
   ·have n1 : q ≠ D := fun z => by rw [z, hd] at hq; cases hq
    rw [upd_ne n1, upd_ne (ne_of_none hq hpn)]
    exact hq
   ·have n1 : p ≠ D := fun z => by rw [z, hd] at hpn; cases hpn
    rw [upd_ne n1, upd_same]
    rfl
  ·obtain ⟨hln, ps, rfl, hp⟩ := hR
   rw [List.take_length] at hp
   refine ⟨D, ps, SGN.map cK, rfl, SqL.of hd, paired_map hp fun p c h => SqT.of h, fun d hdn => ?_⟩
   have s2 : Same H1 (upd H1 d (.dK (mergeK [] (SGN.map cK)))) := same_new (Same.refl _) hdn
   have hd2 : upd H1 d (.dK (mergeK [] (SGN.map cK))) d = some (.dK (mergeK [] (SGN.map cK))) := upd_same
   have s12 := s1.trans s2
   have sq2 : SqL K (upd H1 d (.dK (mergeK [] (SGN.map cK)))) a (t.map fun (n : Nat) => V.int (n : Int)) := by
    have := s12.seq sq
    rw [List.map_map] at this
    exact this
   have vm : ∀ b : Nat, valV (mergeK [] (SGN.map cK)) (.inl (b : Int)) = if sign b = true then some (strV [b]) else none := fun b => by rw [val_merge, sgn_sign]; rfl
   revert s12 sq2 hd2
   generalize upd H1 d (.dK (mergeK [] (SGN.map cK))) = H2
   generalize mergeK [] (SGN.map cK) = M at vm
   intro hd2 s12 sq2
   have ht : t.length < sizeLine := Nat.lt_of_le_of_lt hl (by decide)
   dsimp only [gName, tSeq, tIfS, tNot, tB, tCB, tCons, tNil, tRet]
   refine rd_list (d := 0) (f := fun (n : Nat) => V.int (n : Int)) (val := fun b => V.bl (sign b)) rfl sq2 ht (fun i H' k hi hs hkk => ?_) (fun H3 L3 s3 hL hl3 => ?_)
   ·refine ⟨_, rfl, _, rfl, d, _, rfl, .inl ⟨M, .inl ((t.getD i 0 : Nat) : Int), Rd.of (hs _ _ hd2), rfl, rfl⟩, ?_⟩
    rw [vm]
    have h := hkk H' (Same.refl _)
    cases e : sign (t.getD i 0) with
    | true => rw [e] at h; exact h
    | false => rw [e] at h; exact h
   ·refine ⟨L3, t.map sign, rfl, SqL.of (by rw [hl3, List.map_map]; rfl), _, rfl, ?_⟩
    rw [all_map_id]
    refine iteB (fun e => ?_) (fun e => ?_)
    ·exact ⟨(by show 1 ≤ sizeLine; decide), r1 (nt e) H3⟩
    ·have ha := nf e
     refine ⟨⟨_, rfl⟩, ?_⟩
     refine rd_list (d := 0) (f := fun (n : Nat) => V.int (n : Int)) (val := fun b => strV [b]) rfl (s3.seq sq2) ht (fun i H' k hi hs hkk => ?_) (fun H4 L4 s4 hL4 hl4 => ?_)
     ·have hsg : sign (t.getD i 0) = true := List.all_eq_true.mp ha _ (by rw [List.getD_eq_getElem?_getD, List.getElem?_eq_getElem hi]; exact List.getElem_mem hi)
      refine ⟨_, rfl, _, rfl, d, strV [t.getD i 0], rfl, .inl ⟨M, .inl ((t.getD i 0 : Nat) : Int), Rd.of (hs _ _ (s3 _ _ hd2)), rfl, by rw [vm, if_pos hsg]⟩, hkk H' (Same.refl _)⟩
     ·refine ⟨_, L4, t.map fun b => S [b], rfl, rfl, .inl (SqL.of (by rw [hl4, List.map_map]; rfl)), ?_, ?_⟩
      ·rw [sum_bytes, ofS "", S_len, List.length_map]
       show t.length + t.length * 0 ≤ _
       omega
      ·rw [join_bytes]
       exact r2 ha H4 ((s12.trans s3).trans s4)
end
end My
end
section
set_option Elab.async false
set_option linter.all false
set_option maxRecDepth 100000
set_option maxHeartbeats 4000000
namespace My
open PySem PySem.Spec PyProof.Rows L2 TL
theorem split_spl32 : ∀ (l acc : T), Kwc.split acc l = My.spl 32 acc l
 | [], acc => by first | rfl | (unfold Kwc.split My.spl; rfl)
 | b :: l, acc => by
  unfold Kwc.split My.spl
  rw [split_spl32 l [], split_spl32 l (b :: acc)]
theorem sign_plain {t : T} (h : t.all sign = true) (hl : t.length ≤ 500) : Plain t := ⟨List.all_eq_true.mp h, hl⟩
section
variable {P : Program} {w : World} {K : PySem.W.Frag} {mg : Str -> Option Value} {base : Heap} {C XC : Addr}
abbrev st_words_of : Stmt := top 4
theorem sc_words_of : FnScope ["t", "text"] ["t"] (defScope st_words_of) := ⟨rfl, rfl, rfl, by decide +kernel, rfl, by decide +kernel, by decide +kernel⟩
theorem kn_words (N : TopFn K mg "words_of" st_words_of) (EX : ExcC K mg "NotReport" XC) (kn_text_of : Known P w K mg base (CXe P w XC) 1 "text_of" ["t"] (spText XC K)) : Known P w K mg base (CXe P w XC) 2 "words_of" ["t"] (spWords XC K) := by
 refine known_of N (fun _ _ _ _ _ _ us hl => match us, hl with | [_], _ => rfl) fun f fd Fu => ?_
 refine Fu.okE sc_words_of (fun vs H Q E h => ?_) ?_
 ·obtain ⟨a, t, rfl, _⟩ := h
  rfl
 ·rintro X outer cdv A s H vs Q E hr h rfl L
  obtain ⟨a, t, rfl, sq, hl, r1, r2⟩ := h
  refine ⟨_, (pss_cons (ps_set (i := 1) sc_words_of.nd rfl (by first | exact Or.inl rfl | exact Or.inr rfl) (pe_kn kn_text_of (hr.mono (by decide)) rfl (passes_on L) (pa_cons (pv 0) pa_nil)))
   (pss_cons (ps_if (pt_not (pt_val (pe_m1 PySem.F.slot_str_endswith PySem.F.type_str_endswith mt_endswith (pv 1) pe_str)))
   (pss_one (ps_raise L rfl EX rfl (pa_cons pe_str pa_nil)))
   pss_nil)
   (pss_one (ps_ret (pe_split (pe_slice sl_str (pv 1) po_none (po_some (pe_un un_neg pe_int))) pe_str))))), ?_⟩
  refine ⟨_, rfl, a, t, rfl, sq, hl, fun e => r1 (fun z => by rw [z.1] at e; cases e), fun e H1 s1 => ?_⟩
  have hp : Plain t := sign_plain e (by omega)
  refine ⟨_, rfl, ⟨_, rfl⟩, _, _, rfl, rfl, _, rfl, ?_⟩
  rw [ofS "=", show Kwc.text "=" = [61] from rfl, ends_last]
  refine iteB (fun e1 => ?_) (fun e1 => ?_)
  ·exact ⟨(by show 1 ≤ sizeLine; decide), r1 (fun z => by rw [decide_eq_true z.2] at e1; cases e1) H1⟩
  ·have hlast : t.getLast? = some 61 := of_decide_eq_true (nf e1)
   have cd : cutS (S t) none (some (-1)) = S t.dropLast := by
    rw [cut_S, cut_neg (-1) 1 (by decide) rfl, List.dropLast_eq_take]
   have ret := r2 ⟨e, hlast⟩
   refine ⟨_, rfl, _, rfl, _, rfl, _, rfl, hp.size, ⟨_, rfl⟩, _, _, rfl, rfl, rfl, ?_, fun q hq => ?_⟩
   ·have h5 : t.dropLast.length ≤ 500 := by rw [List.length_dropLast]; omega
    show (cutS (S t) none (some (-1))).length + 2 ≤ _
    rw [cd, S_len]
    exact Nat.le_trans (Nat.add_le_add_right h5 2) (by decide)
   ·have es : (Txt.split (cutS (S t) none (some (-1))) (Str.ofString " ")).map V.str = (Kwc.split [] t.dropLast).map strV := by
     rw [cd, ofS " ", show Kwc.text " " = [32] from rfl, split_S _ 32 (by decide), List.map_map, split_spl32]
     rfl
    refine ret _ q (same_new s1 hq) (s1.free hq) ?_
    rw [upd_same]
    exact congrArg (fun z => some (HO.lst z)) es
end
end My
end
section
set_option Elab.async false
set_option linter.all false
set_option maxRecDepth 100000
set_option maxHeartbeats 4000000
namespace My
open PySem PySem.Spec PyProof.Rows L2 TL
theorem split_ne (l acc : T) : Kwc.split acc l ≠ [] := by
 induction l generalizing acc with
 | nil => unfold Kwc.split; simp
 | cons b l ih =>
  unfold Kwc.split
  split
  ·simp
  ·exact ih _
theorem spl_len (c : Nat) : ∀ (l acc : T), (My.spl c acc l).length ≤ l.length + 1
 | [], acc => by simp [My.spl]
 | b :: l, acc => by
  unfold My.spl
  split
  ·have := spl_len c l []; simp; omega
  ·have := spl_len c l (b :: acc); simp; omega
structure TelOk (P : Program) (w : World) (K : PySem.W.Frag) (mg : Str -> Option Value) (base : Heap) (f : Addr) (spT : Sp) : Prop where
 kp : KeepsAt P w K base f
 ok : ∃ (k : Nat) (fd : FuncData) (ps : List Str), FnOk P w K mg base CX0 k f fd ps spT /\ k ≤ 15 /\ Binds K fd ps []
def spAns (P : Program) (w : World) (K : PySem.W.Frag) (mg : Str -> Option Value) (base : Heap) (RC TC CC : Addr) : Sp := fun vs H Q _ => ∃ (a f : Addr) (t : T) (spT : Sp), vs = [.ref a, .ref f] /\ SqL K H a ((zs t).map V.int) /\ t.length ≤ 500 /\ TelOk P w K mg base f spT /\
 (400 < t.length -> ∀ H' q, H' q = some (.lst (([-22] : List Int).map V.int)) -> Q (.ref q) H') /\ (t.length ≤ 400 -> reads t = none -> ∀ H' q, H' q = some (.lst (([-71] : List Int).map V.int)) -> Q (.ref q) H') /\
 (t.length ≤ 400 -> ∀ r, reads t = some r -> ∀ H' q, RepAt RC TC CC H' q r -> spT [.ref q] H' Q E0)
section
variable {P : Program} {w : World} {K : PySem.W.Frag} {mg : Str -> Option Value} {base : Heap} {C XC RC TC CC : Addr}
abbrev st_answer_of : Stmt := top 112
theorem sc_answer_of : FnScope ["t", "teller", "report"] ["t", "teller"] (defScope st_answer_of) := ⟨rfl, rfl, rfl, by decide +kernel, rfl, by decide +kernel, by decide +kernel⟩
theorem ok_answer {f : Addr} {fd : FuncData} (Fu : Fun K "answer_of" "answer_of" st_answer_of f fd) (B : Bt mg) (CU : CurOk K mg C) (EX : ExcC K mg "NotReport" XC) (g_MOST_BYTES : GV mg "MOST_BYTES" (.int 400)) (g_OUT_OF_BOUNDS : GV mg "OUT_OF_BOUNDS" (.int (-22))) (g_NO_REPORT : GV mg "NO_REPORT" (.int (-71)))
  {fi : Addr} {fdi : FuncData} (MkC : Mk K C fi) (GI : FnOk P w K mg base CX0 1 fi fdi ["self", "words"] (spCuInit C)) (bI : L2.Binds K fdi ["self", "words"] [])
  (kn_words_of : Known P w K mg base (CXe P w XC) 2 "words_of" ["t"] (spWords XC K)) (kn_take_report : Known P w K mg base (CXe P w XC) 15 "take_report" ["cursor"] (spRepo C XC RC TC CC)) : FnOk P w K mg base CX0 16 f fd ["t", "teller"] (spAns P w K mg base RC TC CC) := by
 refine Fu.ok sc_answer_of (fun vs H Q E h => ?_) (fun cdv A outer s H vs Q E hr h => ?_)
 ·obtain ⟨a, f, t, spT, rfl, _⟩ := h
  rfl
 ·obtain ⟨a, ft, t, spT, rfl, sq, hl, ⟨kp, kT, fdT, psT, okT, hkT, bT⟩, ret1, ret2, ret3⟩ := h
  refine ⟨_, pss_cons (ps_if (pt_cmpR op_gt (pe_callB call_len_seq (by rfl) B.len PySem.boot_len (pa_cons (pv 0) pa_nil)) (pe_gv g_MOST_BYTES (by rfl)) (nomark _)) (pss_one (ps_ret (pe_lst (pa_cons (pe_gv g_OUT_OF_BOUNDS (by rfl)) pa_nil)))) pss_nil)
   (pss_cons (ps_try (outer := outer) rfl rfl EX rfl (fun pins E' EXX hp => pss_one (ps_set (i := 2) sc_answer_of.nd rfl (Or.inl rfl) (pe_kn kn_take_report (hr.mono (by decide)) rfl hp (pa_cons (pe_make MkC GI (hr.mono (by decide)) rfl CU.mgC bI .nil pass0 (pa_cons (pe_kn kn_words_of (hr.mono (by decide)) rfl hp (pa_cons (pv 0) pa_nil)) pa_nil)) pa_nil)))) (fun ea => pss_one (ps_ret (pe_lst (pa_cons (pe_gv g_NO_REPORT (by rfl)) pa_nil)))))
   (pss_one (ps_ret (pe_callL (CX := CX0) (E := E0) (i := 1) rfl (Or.inl rfl) pass0 (pa_cons (pv 2) pa_nil))))), ?_⟩
  refine ⟨_, rfl, a, _, rfl, .inl sq, _, _, rfl, rfl, _, rfl, ?_⟩
  have e0 : decide ((400 : Int) < ((((zs t).map V.int).length : Nat) : Int)) = decide (400 < t.length) := by
   rw [List.length_map, show (zs t).length = t.length from List.length_map .., Bool.eq_iff_iff]; simp; omega
  dsimp only
  rw [e0]
  refine iteB (fun e => ?_) (fun e => ?_)
  ·exact ⟨(by show 1 ≤ sizeLine; decide), fun q hq => ret1 (of_decide_eq_true e) _ q (by rw [upd_same]; rfl)⟩
  ·have h4 : t.length ≤ 400 := by have := of_decide_eq_false e; omega
   have exc : ∀ (D : Ends) (n : Nat) (v : Value) (o : Option Addr) (H' : Hp), D.rt = Q -> reads t = none -> exTry (tRet (tLst (tCons (tC (V.int (-71))) tNil))) D n v o H' := by
    intro D n v o H' hD er σ' _
    refine ⟨(by show 1 ≤ sizeLine; decide), fun q hq => ?_⟩
    rw [hD]
    exact ret2 h4 er _ q (by rw [upd_same]; rfl)
   refine ⟨_, rfl, a, t, rfl, sq, h4, fun ne H' => exc _ _ _ _ H' rfl (by unfold reads; rw [if_neg ne]), fun e1 H1 q1 s1 hq hq1 => ?_⟩
   have er : reads t = takeReport (Kwc.split [] t.dropLast) := by unfold reads; rw [if_pos e1]
   have hpt : Plain t.dropLast := ⟨fun c hc => List.all_eq_true.mp e1.1 c ((List.dropLast_sublist t).subset hc), by rw [List.length_dropLast]; omega⟩
   intro x dx hx hdx hne
   have n1 : q1 ≠ x := ne_of_none hq1 hx
   have n2 : q1 ≠ dx := ne_of_none hq1 hdx
   refine ⟨x, dx, q1, _, rfl, upd_same, (by rw [upd_ne n1, upd_ne n2]; exact hq1), ?_, ⟨?_, split_ne _ _⟩, fun H2 b2 c2 => ⟨rfl, ?_⟩⟩
   ·rw [split_spl32]
    exact spl_plain hpt
   ·rw [split_spl32]
    have := spl_len 32 t.dropLast []
    rw [List.length_dropLast] at this
    omega
   ·refine ⟨x, _, rfl, c2, fun e2 H' => exc _ _ _ _ H' rfl (er.trans e2), fun r e2 H3 q3 hq3 => ?_⟩
    exact ⟨ft, spT, rfl, ⟨⟨kT, fdT, psT, okT, hr.mono hkT, bT⟩, kp⟩, _, rfl, ret3 h4 r (er.trans e2) H3 q3 hq3⟩
end
end My
end
section
set_option Elab.async false
set_option linter.all false
set_option maxRecDepth 100000
set_option maxHeartbeats 4000000
namespace My
open PySem PySem.Spec PyProof.Rows L2 TL
theorem rg_three {n : Nat} (h : n ≤ 4) : RgC 2 ((2 + 3 * n : Nat) : Int) 3 n := by
 match n, h with
 | 0, _ => exact ⟨by decide, by decide, by decide, by decide⟩
 | 1, _ => exact ⟨by decide, by decide, by decide, by decide⟩
 | 2, _ => exact ⟨by decide, by decide, by decide, by decide⟩
 | 3, _ => exact ⟨by decide, by decide, by decide, by decide⟩
 | 4, _ => exact ⟨by decide, by decide, by decide, by decide⟩
theorem rg_none : RgC 2 ((1 : Nat) : Int) 3 0 := ⟨by decide, by decide, by decide, by decide⟩
theorem lay_at : ∀ (l : List Kwc.Cloud) (i : Nat) (h : i < l.length), (l.flatMap cloudN)[3 * i]? = some (l[i].amount : Int) /\ (l.flatMap cloudN)[3 * i + 1]? = some (l[i].height : Int)
 | [], i, h => by cases h
 | c :: l, 0, h => by
  rw [List.flatMap_cons]
  exact ⟨rfl, rfl⟩
 | c :: l, i + 1, h => by
  have ih := lay_at l i (by simpa using h)
  rw [List.flatMap_cons]
  have e1 : 3 * (i + 1) = (cloudN c).length + 3 * i := by show _ = 3 + 3 * i; omega
  have e2 : 3 * (i + 1) + 1 = (cloudN c).length + (3 * i + 1) := by show _ = 3 + (3 * i + 1); omega
  rw [e2, e1, List.getElem?_append_right (by omega), List.getElem?_append_right (by omega), Nat.add_sub_cancel_left, Nat.add_sub_cancel_left]
  exact ih
theorem sky_at (l : List Kwc.Cloud) (i : Nat) (h : i < l.length) : ((Kwc.skyNumbers (.layers l)).map V.int)[2 + 3 * i]? = some (.int (l[i].amount : Int)) /\ ((Kwc.skyNumbers (.layers l)).map V.int)[2 + 3 * i + 1]? = some (.int (l[i].height : Int)) := by
 obtain ⟨h1, h2⟩ := lay_at l i h
 show (((2 : Int) :: (l.length : Int) :: l.flatMap cloudN).map V.int)[2 + 3 * i]? = _ /\ (((2 : Int) :: (l.length : Int) :: l.flatMap cloudN).map V.int)[2 + 3 * i + 1]? = _
 rw [List.getElem?_map, List.getElem?_map, show 2 + 3 * i + 1 = (3 * i + 1) + 1 + 1 from by omega, show 2 + 3 * i = 3 * i + 1 + 1 from by omega]
 rw [List.getElem?_cons_succ, List.getElem?_cons_succ, List.getElem?_cons_succ, List.getElem?_cons_succ, h1, h2]
 exact ⟨rfl, rfl⟩
theorem find_take {l : List Kwc.Cloud} {i : Nat} (h : i < l.length) (hn : (l.take i).all (fun c => !decide (3 ≤ c.amount)) = true) (h3 : 3 ≤ l[i].amount) : l.find? (fun c => decide (3 ≤ c.amount)) = some l[i] := by
 induction l generalizing i with
 | nil => cases h
 | cons c l ih =>
  cases i with
  | zero =>
   have h3' : 3 ≤ c.amount := h3
   rw [List.find?_cons, decide_eq_true h3']
   rfl
  | succ i =>
   rw [List.take_succ_cons, List.all_cons, Bool.and_eq_true] at hn
   have h1 : decide (3 ≤ c.amount) = false := by simpa using hn.1
   rw [List.find?_cons, h1]
   exact ih (by simpa using h) hn.2 h3
theorem find_no {l : List Kwc.Cloud} (hn : l.all (fun c => !decide (3 ≤ c.amount)) = true) : l.find? (fun c => decide (3 ≤ c.amount)) = none := by
 rw [List.find?_eq_none]
 intro c hc
 have := List.all_eq_true.mp hn c hc
 simpa using this
theorem take_all {l : List Kwc.Cloud} {i : Nat} (h : i < l.length) (hn : (l.take i).all (fun c => !decide (3 ≤ c.amount)) = true) (h3 : ¬ 3 ≤ l[i].amount) : (l.take (i + 1)).all (fun c => !decide (3 ≤ c.amount)) = true := by
 rw [List.take_add_one, List.getElem?_eq_getElem h, List.all_append, hn]
 simpa using h3
theorem lays4 {l : List Kwc.Cloud} (h : Kwc.okSky (.layers l) = true) : l.length ≤ 4 := by
 unfold Kwc.okSky at h
 simp only [Bool.and_eq_true, decide_eq_true_eq] at h
 exact h.1.2
abbrev vwN (v : Kwc.View) : List V := [.int (v.sight : Int), .int (v.ceiling : Int)]
abbrev momAt (r : Kwc.Report) : List V := (momN (r.day, r.hour, r.minute)).map V.int
def spCeil (K : PySem.W.Frag) : Sp := fun vs H Q _ => ∃ a s, vs = [.ref a] /\ SqL K H a ((Kwc.skyNumbers s).map V.int) /\ Kwc.okSky s = true /\ Q (.int (Kwc.ceilingOf s : Nat)) H
def spMB (K : PySem.W.Frag) : Sp := fun vs H Q _ => ∃ (a : Addr) (r : Kwc.Report) (t : Nat), vs = [.ref a, .int t] /\ SqL K H a (momAt r) /\ r.hour ≤ 23 /\ r.minute ≤ 59 /\ Q (.int (Kwc.since r t : Nat)) H
def spBeg (K : PySem.W.Frag) (CC : Addr) : Sp := fun vs H Q _ => ∃ (q a : Addr) (c : Kwc.Change) (r : Kwc.Report), vs = [.ref q, .ref a] /\ ChgAt CC H q c /\ SqL K H a (momAt r) /\ r.hour ≤ 23 /\ r.minute ≤ 59 /\ Q (.int (Kwc.begins r c : Nat)) H
def spEnd (K : PySem.W.Frag) (CC : Addr) : Sp := fun vs H Q _ => ∃ (q a : Addr) (c : Kwc.Change) (r : Kwc.Report), vs = [.ref q, .ref a] /\ ChgAt CC H q c /\ SqL K H a (momAt r) /\ r.hour ≤ 23 /\ r.minute ≤ 59 /\ Q (.int (Kwc.ends r c : Nat)) H
def spTV (RC TC CC : Addr) : Sp := fun vs H Q _ => ∃ q r, vs = [.ref q] /\ RepAt RC TC CC H q r /\ Kwc.okSky r.sky = true /\ ∀ H' p, Same H H' -> H p = none -> H' p = some (.tup (vwN (Kwc.viewOf r))) -> Q (.ref p) H'
def skyOk (c : Kwc.Change) : Prop := ∀ s, c.sky = some s -> Kwc.okSky s = true
def spCV (CC : Addr) : Sp := fun vs H Q _ => ∃ (v q : Addr) (x : Kwc.View) (c : Kwc.Change), vs = [.ref v, .ref q] /\ H v = some (.tup (vwN x)) /\ ChgAt CC H q c /\ skyOk c /\ ∀ H' p, Same H H' -> H p = none -> H' p = some (.tup (vwN (Kwc.changed c x))) -> Q (.ref p) H'
section
variable {P : Program} {w : World} {K : PySem.W.Frag} {mg : Str -> Option Value} {base : Heap} {C XC RC TC CC : Addr}
abbrev st_ceiling_of : Stmt := top 46
theorem sc_ceiling_of : FnScope ["sky", "k"] ["sky"] (defScope st_ceiling_of) := ⟨rfl, rfl, rfl, by decide +kernel, rfl, by decide +kernel, by decide +kernel⟩
theorem kn_ceil (N : TopFn K mg "ceiling_of" st_ceiling_of) (B : Bt mg) (g_UPRIGHT : GV mg "UPRIGHT" (.int 1)) (g_BROKEN : GV mg "BROKEN" (.int 3)) (g_NO_CEILING : GV mg "NO_CEILING" (.int 999)) : Known P w K mg base CX0 1 "ceiling_of" ["sky"] (spCeil K) := by
 refine known_of N (fun _ _ _ _ _ _ us hl => match us, hl with | [_], _ => rfl) fun f fd Fu => ?_
 refine Fu.ok sc_ceiling_of (fun vs H Q E h => ?_) (fun cdv A outer s H vs Q E hr h => ?_)
 ·obtain ⟨a, s, rfl, _⟩ := h
  rfl
 ·obtain ⟨a, s, rfl, sq, hok, ret⟩ := h
  refine ⟨_, (pss_cons (ps_if (pt_cmpR op_eq (pe_ix ix_list (pv 0) pe_int (fun _ _ => rfl)) (pe_gv g_UPRIGHT (by rfl)) (nomark _))
   (pss_one (ps_ret (pe_ix ix_list (pv 0) pe_int (fun _ _ => rfl))))
   pss_nil)
   (pss_cons (ps_for PassesOwn.never rfl (pi_range3 (by rfl) B.range (pa_cons pe_int (pa_cons (pe_callB call_len_seq (by rfl) B.len PySem.boot_len (pa_cons (pv 0) pa_nil)) (pa_cons pe_int pa_nil)))) (pg_name (i := 1) sc_ceiling_of.nd rfl (by first | exact Or.inl rfl | exact Or.inr rfl))
   (pss_one (ps_if (pt_cmpR op_ge (pe_ix ix_list (pv 0) (pv 1) (fun _ _ => rfl)) (pe_gv g_BROKEN (by rfl)) (nomark _))
   (pss_one (ps_ret (pe_ix ix_list (pv 0) (pe_op op_add (pv 1) pe_int) (fun _ _ => rfl))))
   pss_nil)))
   (pss_one (ps_ret (pe_gv g_NO_CEILING (by rfl)))))), ?_⟩
  cases s with
  | clear =>
   refine ⟨_, rfl, a, _, _, _, rfl, rfl, sq, at_of (j := 0) rfl rfl, rfl, _, rfl, ?_⟩
   refine iteF ?_
   refine ⟨_, rfl, a, _, rfl, .inl sq, 2, _, 3, 0, rfl, rg_none, ?_⟩
   exact for_rangeC (fun i σ H' => i = 0 /\ σ = [some (.ref a), none] /\ H' = H) ⟨rfl, rfl, rfl⟩ (fun i σ H' hi _ => absurd hi (Nat.not_lt_zero _)) (fun σ H' ⟨_, e, e2⟩ => by subst e2; exact ret)
  | up n =>
   refine ⟨_, rfl, a, _, _, _, rfl, rfl, sq, at_of (j := 0) rfl rfl, rfl, _, rfl, ?_⟩
   exact iteT ⟨_, rfl, a, _, _, _, rfl, rfl, sq, at_of (j := 1) rfl rfl, ret⟩
  | layers l =>
   have h4 := lays4 hok
   have hlen : ((Kwc.skyNumbers (.layers l)).map V.int).length = 2 + 3 * l.length := by
    rw [List.length_map]
    show ((2 : Int) :: (l.length : Int) :: l.flatMap cloudN).length = _
    rw [List.length_cons, List.length_cons, flat_cloud]; omega
   refine ⟨_, rfl, a, _, _, _, rfl, rfl, sq, at_of (j := 0) rfl rfl, rfl, _, rfl, ?_⟩
   refine iteF ?_
   refine ⟨_, rfl, a, _, rfl, .inl sq, 2, _, 3, l.length, rfl, (by rw [hlen]; exact rg_three h4), ?_⟩
   refine for_rangeC (fun i σ H' => ∃ o, σ = [some (.ref a), o] /\ H' = H /\ (l.take i).all (fun c => !decide (3 ≤ c.amount)) = true) ⟨none, rfl, rfl, rfl⟩ (fun i σ H' hi hP => ?_) (fun σ H' hP => ?_)
   ·obtain ⟨o, rfl, rfl, hn⟩ := hP
    obtain ⟨e1, e2⟩ := sky_at l i hi
    refine ⟨_, rfl, _, rfl, a, _, _, _, rfl, rfl, sq, at_of (j := 2 + 3 * i) (by omega) e1, _, _, rfl, rfl, _, rfl, ?_⟩
    refine iteB (fun e => ?_) (fun e => ?_)
    ·have h3 : 3 ≤ l[i].amount := by have : (3 : Int) ≤ (l[i].amount : Int) := of_decide_eq_true e; omega
     have ef : Kwc.ceilingOf (.layers l) = l[i].height := by
      unfold Kwc.ceilingOf
      dsimp only
      rw [find_take hi hn h3]
     rw [ef] at ret
     exact ⟨_, rfl, _, rfl, _, _, rfl, rfl, a, _, _, _, rfl, rfl, sq, at_of (j := 2 + 3 * i + 1) (by omega) e2, ret⟩
    ·have h3 : ¬ 3 ≤ l[i].amount := by have : ¬ (3 : Int) ≤ (l[i].amount : Int) := of_decide_eq_false e; omega
     exact ⟨_, rfl, rfl, take_all hi hn h3⟩
   ·obtain ⟨o, rfl, rfl, hn⟩ := hP
    rw [List.take_length] at hn
    have ef : Kwc.ceilingOf (.layers l) = 999 := by
     unfold Kwc.ceilingOf
     dsimp only
     rw [find_no hn]
    rw [ef] at ret
    exact ret
abbrev st_minutes_behind : Stmt := top 98
theorem sc_minutes_behind : FnScope ["moment", "minutes_of_day"] ["moment", "minutes_of_day"] (defScope st_minutes_behind) := ⟨rfl, rfl, rfl, by decide +kernel, rfl, by decide +kernel, by decide +kernel⟩
theorem kn_mb (N : TopFn K mg "minutes_behind" st_minutes_behind) (g_MINUTES_OF_A_DAY : GV mg "MINUTES_OF_A_DAY" (.int 1440)) : Known P w K mg base CX0 1 "minutes_behind" ["moment", "minutes_of_day"] (spMB K) := by
 refine known_of N (fun _ _ _ _ _ _ us hl => match us, hl with | [_, _], _ => rfl) fun f fd Fu => ?_
 refine Fu.ok sc_minutes_behind (fun vs H Q E h => ?_) (fun cdv A outer s H vs Q E hr h => ?_)
 ·obtain ⟨a, r, t, rfl, _⟩ := h
  rfl
 ·obtain ⟨a, r, t, rfl, sq, h1, h2, ret⟩ := h
  refine ⟨_, (pss_one (ps_ret (pe_op op_mod (pe_op op_sub (pe_op op_sub (pv 1) (pe_op op_mul (pe_ix ix_list (pv 0) pe_int (fun _ _ => rfl)) pe_int)) (pe_ix ix_list (pv 0) pe_int (fun _ _ => rfl))) (pe_gv g_MINUTES_OF_A_DAY (by rfl))))), ?_⟩
  refine ⟨_, rfl, _, rfl, a, _, _, _, rfl, rfl, sq, at_of (j := 1) rfl rfl, _, _, rfl, rfl, .inl ⟨by have e : (r.day, r.hour, r.minute).2.1 = r.hour := rfl; omega, by have e : (r.day, r.hour, r.minute).2.1 = r.hour := rfl; omega⟩, _, _, rfl, rfl, _, rfl, a, _, _, _, rfl, rfl, sq, at_of (j := 2) rfl rfl, _, _, rfl, rfl, _, _, rfl, rfl, (by show (0 : Int) < 1440; decide), ?_⟩
  have e : ((t : Int) - (r.hour : Int) * 60 - (r.minute : Int)) % 1440 = ((Kwc.since r t : Nat) : Int) := by
   unfold Kwc.since
   omega
  show Q (.int (((t : Int) - (r.hour : Int) * 60 - (r.minute : Int)) % 1440)) H
  rw [e]
  exact ret
abbrev st_beginning_of : Stmt := top 99
theorem sc_beginning_of : FnScope ["change", "moment"] ["change", "moment"] (defScope st_beginning_of) := ⟨rfl, rfl, rfl, by decide +kernel, rfl, by decide +kernel, by decide +kernel⟩
theorem kn_beg (N : TopFn K mg "beginning_of" st_beginning_of) (O : ChangeOk K mg CC) (kn_minutes_behind : Known P w K mg base CX0 1 "minutes_behind" ["moment", "minutes_of_day"] (spMB K)) : Known P w K mg base CX0 2 "beginning_of" ["change", "moment"] (spBeg K CC) := by
 refine known_of N (fun _ _ _ _ _ _ us hl => match us, hl with | [_, _], _ => rfl) fun f fd Fu => ?_
 refine Fu.ok sc_beginning_of (fun vs H Q E h => ?_) (fun cdv A outer s H vs Q E hr h => ?_)
 ·obtain ⟨q, a, c, r, rfl, _⟩ := h
  rfl
 ·obtain ⟨q, a, c, r, rfl, ca, sq, h1, h2, ret⟩ := h
  obtain ⟨dx, vw, vx, vk, hq, _⟩ := ca.ex
  refine ⟨_, (pss_one (ps_ret (pe_ifExp (pt_cmp (pc_isN (pe_fld (pv 0) rfl))) pe_int (pe_kn kn_minutes_behind (hr.mono (by decide)) rfl pass0 (pa_cons (pv 1) (pa_cons (pe_fld (pv 0) rfl) pa_nil)))))), ?_⟩
  refine ⟨_, rfl, q, CC, dx, _, _, rfl, hq, O.cl, O.n_begins, chF_begins _ _ _ _ _ _ _, _, rfl, ?_⟩
  cases e : c.fm with
  | none =>
   have eb : Kwc.begins r c = 0 := by unfold Kwc.begins; rw [e]
   rw [eb] at ret
   exact iteT ret
  | some t =>
   have eb : Kwc.begins r c = Kwc.since r t := by unfold Kwc.begins; rw [e]
   rw [eb] at ret
   refine iteF ?_
   refine ⟨_, rfl, _, rfl, q, CC, dx, _, _, rfl, hq, O.cl, O.n_begins, chF_begins _ _ _ _ _ _ _, ?_⟩
   rw [e]
   exact ⟨a, r, t, rfl, sq, h1, h2, ret⟩
abbrev st_end_of : Stmt := top 100
theorem sc_end_of : FnScope ["change", "moment"] ["change", "moment"] (defScope st_end_of) := ⟨rfl, rfl, rfl, by decide +kernel, rfl, by decide +kernel, by decide +kernel⟩
theorem kn_end (N : TopFn K mg "end_of" st_end_of) (O : ChangeOk K mg CC) (g_USUAL_LENGTH : GV mg "USUAL_LENGTH" (.int 120)) (kn_minutes_behind : Known P w K mg base CX0 1 "minutes_behind" ["moment", "minutes_of_day"] (spMB K)) (kn_beginning_of : Known P w K mg base CX0 2 "beginning_of" ["change", "moment"] (spBeg K CC)) : Known P w K mg base CX0 3 "end_of" ["change", "moment"] (spEnd K CC) := by
 refine known_of N (fun _ _ _ _ _ _ us hl => match us, hl with | [_, _], _ => rfl) fun f fd Fu => ?_
 refine Fu.ok sc_end_of (fun vs H Q E h => ?_) (fun cdv A outer s H vs Q E hr h => ?_)
 ·obtain ⟨q, a, c, r, rfl, _⟩ := h
  rfl
 ·obtain ⟨q, a, c, r, rfl, ca, sq, h1, h2, ret⟩ := h
  obtain ⟨dx, vw, vx, vk, hq, _⟩ := ca.ex
  refine ⟨_, (pss_cons (ps_if (pt_cmp (pc_isN (pe_fld (pv 0) rfl)))
   (pss_one (ps_ret (pe_op op_add (pe_kn kn_beginning_of (hr.mono (by decide)) rfl pass0 (pa_cons (pv 0) (pa_cons (pv 1) pa_nil))) (pe_gv g_USUAL_LENGTH (by rfl)))))
   pss_nil)
   (pss_one (ps_ret (pe_kn kn_minutes_behind (hr.mono (by decide)) rfl pass0 (pa_cons (pv 1) (pa_cons (pe_fld (pv 0) rfl) pa_nil)))))), ?_⟩
  refine ⟨_, rfl, q, CC, dx, _, _, rfl, hq, O.cl, O.n_ends, chF_ends _ _ _ _ _ _ _, _, rfl, ?_⟩
  cases e : c.tl with
  | none =>
   have eb : Kwc.ends r c = Kwc.begins r c + 120 := by unfold Kwc.ends; rw [e]
   rw [eb] at ret
   refine iteT ⟨_, rfl, _, rfl, q, a, c, r, rfl, ca, sq, h1, h2, _, _, rfl, rfl, ?_⟩
   exact ret
  | some t =>
   have eb : Kwc.ends r c = Kwc.since r t := by unfold Kwc.ends; rw [e]
   rw [eb] at ret
   refine iteF ?_
   refine ⟨_, rfl, _, rfl, q, CC, dx, _, _, rfl, hq, O.cl, O.n_ends, chF_ends _ _ _ _ _ _ _, ?_⟩
   rw [e]
   exact ⟨a, r, t, rfl, sq, h1, h2, ret⟩
abbrev st_told_view : Stmt := top 101
theorem sc_told_view : FnScope ["report", "metres"] ["report"] (defScope st_told_view) := ⟨rfl, rfl, rfl, by decide +kernel, rfl, by decide +kernel, by decide +kernel⟩
theorem kn_tv (N : TopFn K mg "told_view" st_told_view) (O : ReportOk K mg RC) (g_CAVOK : GV mg "CAVOK" (.int 10000)) (g_CAVOK_METRES : GV mg "CAVOK_METRES" (.int 9999)) (kn_ceiling_of : Known P w K mg base CX0 1 "ceiling_of" ["sky"] (spCeil K)) : Known P w K mg base CX0 2 "told_view" ["report"] (spTV RC TC CC) := by
 refine known_of N (fun _ _ _ _ _ _ us hl => match us, hl with | [_], _ => rfl) fun f fd Fu => ?_
 refine Fu.ok sc_told_view (fun vs H Q E h => ?_) (fun cdv A outer s H vs Q E hr h => ?_)
 ·obtain ⟨q, r, rfl, _⟩ := h
  rfl
 ·obtain ⟨q, r, rfl, ra, hok, ret⟩ := h
  obtain ⟨dx, a1, a2, a3, a5, a6, a7, a9, h0, h1, h2, h3, h7, h5, h6, h9⟩ := ra.ex
  refine ⟨_, (pss_cons (ps_set (i := 1) sc_told_view.nd rfl (by first | exact Or.inl rfl | exact Or.inr rfl) (pe_ifExp (pt_cmpR op_eq (pe_fld (pv 0) rfl) (pe_gv g_CAVOK (by rfl)) (nomark _)) (pe_gv g_CAVOK_METRES (by rfl)) (pe_fld (pv 0) rfl)))
   (pss_one (ps_ret (pe_tup (pa_cons (pv 1) (pa_cons (pe_kn kn_ceiling_of (hr.mono (by decide)) rfl pass0 (pa_cons (pe_fld (pv 0) rfl) pa_nil)) pa_nil)))))), ?_⟩
  have fin : ∀ n : Nat, n = Kwc.metres r.sight -> tRet (tTup (tCons (tVar 1) (tCons (tCall (spCeil K) [] E0 (tCons (tFld K (tVar 0) (Str.ofString "sky")) tNil)) tNil))) { nx := fun x H' => Q V.non H', rt := Q } [some (.ref q), some (.int (n : Int))] H := by
   intro n hn
   refine ⟨_, rfl, _, rfl, q, RC, dx, _, _, rfl, h0, O.cl, O.n_sky, rpF_sky _ _ _ _ _ _ _ _ _, a6, r.sky, rfl, SqL.of h6, hok, (by show 2 ≤ sizeLine; decide), fun p hp => ?_⟩
   refine ret _ p (same_new (Same.refl H) hp) hp ?_
   rw [upd_same, hn]
   rfl
  refine ⟨_, rfl, q, RC, dx, _, _, rfl, h0, O.cl, O.n_sight, rpF_sight _ _ _ _ _ _ _ _ _, rfl, _, rfl, ?_⟩
  have ec : decide (V.int (r.sight : Int) = V.int 10000) = decide (r.sight = 10000) := by rw [dec_intV, Bool.eq_iff_iff]; simp; omega
  dsimp only
  rw [ec]
  refine iteB (fun e => ?_) (fun e => ?_)
  ·exact fin 9999 (by unfold Kwc.metres Kwc.cavok; rw [if_pos (of_decide_eq_true e)])
  ·refine ⟨_, rfl, q, RC, dx, _, _, rfl, h0, O.cl, O.n_sight, rpF_sight _ _ _ _ _ _ _ _ _, ?_⟩
   exact fin r.sight (by unfold Kwc.metres Kwc.cavok; rw [if_neg (of_decide_eq_false e)])
abbrev st_changed_view : Stmt := top 102
theorem sc_changed_view : FnScope ["view", "change", "metres", "ceiling"] ["view", "change"] (defScope st_changed_view) := ⟨rfl, rfl, rfl, by decide +kernel, rfl, by decide +kernel, by decide +kernel⟩
theorem kn_cv (N : TopFn K mg "changed_view" st_changed_view) (O : ChangeOk K mg CC) (g_CAVOK : GV mg "CAVOK" (.int 10000)) (g_CAVOK_METRES : GV mg "CAVOK_METRES" (.int 9999)) (g_NO_CEILING : GV mg "NO_CEILING" (.int 999)) (kn_ceiling_of : Known P w K mg base CX0 1 "ceiling_of" ["sky"] (spCeil K)) : Known P w K mg base CX0 2 "changed_view" ["view", "change"] (spCV CC) := by
 refine known_of N (fun _ _ _ _ _ _ us hl => match us, hl with | [_, _], _ => rfl) fun f fd Fu => ?_
 refine Fu.ok sc_changed_view (fun vs H Q E h => ?_) (fun cdv A outer s H vs Q E hr h => ?_)
 ·obtain ⟨v, q, x, c, rfl, _⟩ := h
  rfl
 ·obtain ⟨v, q, x, c, rfl, hv, ca, hsk, ret⟩ := h
  obtain ⟨dx, vw, vx, vk, hq, _, _, ok⟩ := ca.ex
  refine ⟨_, (pss_cons (ps_if (pt_cmpR op_eq (pe_fld (pv 1) rfl) (pe_gv g_CAVOK (by rfl)) (nomark _))
   (pss_one (ps_ret (pe_tup (pa_cons (pe_gv g_CAVOK_METRES (by rfl)) (pa_cons (pe_gv g_NO_CEILING (by rfl)) pa_nil)))))
   pss_nil)
   (pss_cons (ps_set (i := 2) sc_changed_view.nd rfl (by first | exact Or.inl rfl | exact Or.inr rfl) (pe_ifExp (pt_cmp (pc_isN (pe_fld (pv 1) rfl))) (pe_ix ix_tup (pv 0) pe_int (fun _ _ => rfl)) (pe_fld (pv 1) rfl)))
   (pss_cons (ps_set (i := 3) sc_changed_view.nd rfl (by first | exact Or.inl rfl | exact Or.inr rfl) (pe_ifExp (pt_cmp (pc_isN (pe_fld (pv 1) rfl))) (pe_ix ix_tup (pv 0) pe_int (fun _ _ => rfl)) (pe_kn kn_ceiling_of (hr.mono (by decide)) rfl pass0 (pa_cons (pe_fld (pv 1) rfl) pa_nil))))
   (pss_one (ps_ret (pe_tup (pa_cons (pv 2) (pa_cons (pv 3) pa_nil)))))))), ?_⟩
  refine ⟨_, rfl, q, CC, dx, _, _, rfl, hq, O.cl, O.n_sight, chF_sight _ _ _ _ _ _ _, (by cases c.sight <;> rfl), _, rfl, ?_⟩
  have ec : decide (optV c.sight = V.int 10000) = decide (c.sight = some 10000) := by
   cases c.sight with
   | none => rfl
   | some n => show decide (V.int (n : Int) = V.int 10000) = _; rw [dec_intV, Bool.eq_iff_iff]; simp; omega
  dsimp only
  rw [ec]
  refine iteB (fun e => ?_) (fun e => ?_)
  ·have h := of_decide_eq_true e
   have ech : Kwc.changed c x = ⟨9999, 999⟩ := by unfold Kwc.changed Kwc.cavok; rw [if_pos h]
   rw [ech] at ret
   exact ⟨(by show 2 ≤ sizeLine; decide), fun p hp => ret _ p (same_new (Same.refl H) hp) hp (by rw [upd_same]; rfl)⟩
  ·have h := of_decide_eq_false e
   have ech : Kwc.changed c x = ⟨c.sight.getD x.sight, (c.sky.map Kwc.ceilingOf).getD x.ceiling⟩ := by
    unfold Kwc.changed Kwc.cavok
    rw [if_neg h]
    cases e2 : c.sight with
    | none => rfl
    | some n =>
     have hn : ¬ n = 10000 := fun z => h (by rw [e2, z])
     show (⟨Kwc.metres n, _⟩ : Kwc.View) = ⟨n, _⟩
     unfold Kwc.metres Kwc.cavok
     rw [if_neg hn]
   rw [ech] at ret
   have fin : ∀ (n m : Nat), n = c.sight.getD x.sight -> m = (c.sky.map Kwc.ceilingOf).getD x.ceiling -> tRet (tTup (tCons (tVar 2) (tCons (tVar 3) tNil))) { nx := fun x H' => Q V.non H', rt := Q } [some (.ref v), some (.ref q), some (.int (n : Int)), some (.int (m : Int))] H := by
    intro n m hn hm
    refine ⟨_, rfl, _, rfl, (by show 2 ≤ sizeLine; decide), fun p hp => ?_⟩
    refine ret _ p (same_new (Same.refl H) hp) hp ?_
    rw [upd_same, hn, hm]
   have fin2 : ∀ n : Nat, n = c.sight.getD x.sight -> tSeq (tAsg (tIf (tB (tIsN (tFld K (tVar 1) (Str.ofString "sky")))) (tOp (rIxT K) (tVar 0) (tC (V.int 1))) (tCall (spCeil K) [] E0 (tCons (tFld K (tVar 1) (Str.ofString "sky")) tNil))) (gName 3)) (tRet (tTup (tCons (tVar 2) (tCons (tVar 3) tNil)))) { nx := fun x H' => Q V.non H', rt := Q } [some (.ref v), some (.ref q), some (.int (n : Int)), none] H := by
    intro n hn
    refine ⟨_, rfl, q, CC, dx, _, _, rfl, hq, O.cl, O.n_sky, chF_sky _ _ _ _ _ _ _, _, rfl, ?_⟩
    cases e3 : c.sky with
    | none =>
     rw [e3] at ok
     have : vk = .non := ok
     subst this
     refine iteT ⟨_, rfl, v, _, _, _, rfl, rfl, SqT.of hv, at_of (j := 1) rfl rfl, ?_⟩
     exact fin n x.ceiling hn (by rw [e3]; rfl)
    | some sk =>
     rw [e3] at ok
     obtain ⟨z, rfl, hz⟩ := ok
     refine iteF ⟨_, rfl, q, CC, dx, _, _, rfl, hq, O.cl, O.n_sky, chF_sky _ _ _ _ _ _ _, z, sk, rfl, SqL.of hz, hsk sk e3, ?_⟩
     exact fin n (Kwc.ceilingOf sk) hn (by rw [e3]; rfl)
   refine ⟨_, rfl, q, CC, dx, _, _, rfl, hq, O.cl, O.n_sight, chF_sight _ _ _ _ _ _ _, _, rfl, ?_⟩
   cases e4 : c.sight with
   | none =>
    refine iteT ⟨_, rfl, v, _, _, _, rfl, rfl, SqT.of hv, at_of (j := 0) rfl rfl, ?_⟩
    exact fin2 x.sight (by rw [e4]; rfl)
   | some n =>
    refine iteF ⟨_, rfl, q, CC, dx, _, _, rfl, hq, O.cl, O.n_sight, chF_sight _ _ _ _ _ _ _, ?_⟩
    rw [e4]
    exact fin2 n (by rw [e4]; rfl)
end
end My
end
section
set_option Elab.async false
set_option linter.all false
set_option maxRecDepth 100000
set_option maxHeartbeats 4000000
namespace My
open PySem PySem.Spec PyProof.Rows L2 TL
structure VwsAt (H : Hp) (n : Addr) (as : List Addr) (vs : List Kwc.View) : Prop where
 lst : H n = some (.lst (as.map V.ref))
 len : as.length = vs.length
 at_ : ∀ (j : Nat) (a : Addr) (v : Kwc.View), as[j]? = some a -> vs[j]? = some v -> H a = some (.tup (vwN v))
theorem VwsAt.same {H H' : Hp} {n : Addr} {as : List Addr} {vs : List Kwc.View} (h : VwsAt H n as vs) (s : Same H H') : VwsAt H' n as vs :=
 ⟨s _ _ h.lst, h.len, fun j a v h1 h2 => s _ _ (h.at_ j a v h1 h2)⟩
theorem VwsAt.cat {H : Hp} {n n' p : Addr} {as bs : List Addr} {vs us : List Kwc.View} (h : VwsAt H n as vs) (h' : VwsAt H n' bs us) (hp : H p = none) : VwsAt (upd H p (.lst (as.map V.ref ++ bs.map V.ref))) p (as ++ bs) (vs ++ us) := by
 refine ⟨by rw [upd_same, List.map_append], by simp [h.len, h'.len], fun j a v h1 h2 => ?_⟩
 have hl := h.len
 have q : H a = some (.tup (vwN v)) := by
  by_cases hj : j < as.length
  ·rw [List.getElem?_append_left hj] at h1
   rw [List.getElem?_append_left (by omega)] at h2
   exact h.at_ j a v h1 h2
  ·rw [List.getElem?_append_right (by omega)] at h1
   rw [List.getElem?_append_right (by omega), <- hl] at h2
   exact h'.at_ _ a v h1 h2
 rw [upd_ne (ne_of_none q hp)]
 exact q
theorem rd_views {K : PySem.W.Frag} {H1 : Hp} {nl : Addr} {asl : List Addr} {ls : List Kwc.View} {g : Kwc.View -> Kwc.View} {i0 j0 : Nat} {te : TE} {σ : L2.St} {Q : VK} (hσ : σ[i0]? = some (some (.ref nl))) (L : VwsAt H1 nl asl ls) (hl : ls.length ≤ 100)
  (elem : ∀ (i : Nat) (H' : Hp) (k : VK) (a : Addr) (x : Kwc.View), x ∈ ls -> H' a = some (.tup (vwN x)) -> Same H1 H' -> (∀ p H4, Same H' H4 -> H' p = none -> H4 p = some (.tup (vwN (g x))) -> k (.ref p) H4) -> te ((wipe σ [j0]).set j0 (some (.ref a))) H' k)
  (fin : ∀ H D as, Same H1 H -> H1 D = none -> VwsAt H D as (ls.map g) -> Q (.ref D) H) : tLc (iList K (tVar i0)) (gName j0) tYes te [j0] σ H1 Q := by
 have hll := L.len
 refine ⟨_, hσ, _, rfl, ⟨_, SqL.of L.lst⟩, fun D hD => ?_⟩
 refine lc_gen (J := Itl K nl) (n := ls.length) (src := fun i => .ref (asl.getD i 0)) (fun i acc H => ∃ as : List Addr, acc = as.map V.ref /\ as.length = i /\ ∀ (j : Nat) (a : Addr) (x : Kwc.View), as[j]? = some a -> ls[j]? = some x -> H a = some (.tup (vwN (g x))))
  (fun i H hi s => ?_) (fun i H hi s => ?_) (fun i H x H' hi s hx => ?_) hD (Nat.lt_of_le_of_lt hl (by decide)) ⟨[], rfl, rfl, fun j a x h => by cases h⟩ (fun i acc H ⟨as, e, e2, _⟩ => by rw [e, List.length_map, e2]) (fun i acc H' k hi hs hd hR hk => ?_) (fun H acc hs hd hR => ?_)
 ·have hi' : i < asl.length := by omega
  exact ⟨_, .ref asl[i], SqL.of (s _ _ L.lst), by rw [List.getElem?_map, List.getElem?_eq_getElem hi']; rfl⟩
 ·exact ⟨_, SqL.of (s _ _ L.lst), by rw [List.length_map]; omega⟩
 ·have hi' : i < asl.length := by omega
  obtain ⟨e1, e2⟩ := hx
  refine ⟨e1, ?_⟩
  have e3 := e2 _ (SqL.of (s _ _ L.lst))
  rw [List.getElem?_map, List.getElem?_eq_getElem hi'] at e3
  rw [List.getD_eq_getElem?_getD, List.getElem?_eq_getElem hi']
  exact (Option.some.inj e3).symm
 ·have hi' : i < asl.length := by omega
  obtain ⟨as, rfl, ha, hall⟩ := hR
  have hat := hs _ _ (L.at_ i asl[i] ls[i] (List.getElem?_eq_getElem hi') (List.getElem?_eq_getElem hi))
  rw [List.getD_eq_getElem?_getD, List.getElem?_eq_getElem hi']
  refine elem i H' k asl[i] ls[i] (List.getElem_mem hi) hat hs fun p H4 s4 hp hp4 => hk (.ref p) H4 s4 ⟨as ++ [p], by simp, by simp [ha], fun j a x hj hx => ?_⟩
  by_cases hjl : j < as.length
  ·rw [List.getElem?_append_left hjl] at hj
   have q := hall j a x hj hx
   rw [upd_ne (fun z => by rw [z, hd] at q; cases q)]
   exact s4 _ _ q
  ·rw [List.getElem?_append_right (by omega)] at hj
   have ej : j - as.length = 0 := by
    cases e : j - as.length with
    | zero => rfl
    | succ n => rw [e] at hj; cases hj
   rw [ej] at hj
   have : p = a := Option.some.inj (show some p = some a from hj)
   subst this
   have : j = i := by omega
   subst this
   rw [List.getElem?_eq_getElem hi] at hx
   cases hx
   rw [upd_ne (fun z => by rw [z, hd] at hp; cases hp)]
   exact hp4
 ·obtain ⟨as, rfl, ha, hall⟩ := hR
  refine fin H D as hs hD ⟨hd, by rw [List.length_map]; exact ha, fun j a v h1 h2 => ?_⟩
  rw [List.getElem?_map] at h2
  cases e : ls[j]? with
  | none => rw [e] at h2; cases h2
  | some x =>
   rw [e] at h2
   cases h2
   exact hall j a x h1 e
theorem ok_sky {r : Kwc.Report} (h : Kwc.ok r = true) : Kwc.okSky r.sky = true := by
 unfold Kwc.ok at h
 simp only [Bool.and_eq_true] at h
 exact h.1.1.1.1.1.1.1.1.1.2
theorem ok_chgs {r : Kwc.Report} (h : Kwc.ok r = true) : ∀ c ∈ r.changes, skyOk c := by
 unfold Kwc.ok at h
 simp only [Bool.and_eq_true] at h
 have h19 := h.1.2
 intro c hc s e
 have q := List.all_eq_true.mp h19 c hc
 unfold Kwc.okChange at q
 simp only [Bool.and_eq_true] at q
 have q7 := q.1.1.2
 rw [e] at q7
 exact q7
def spViews (RC TC CC : Addr) : Sp := fun vs H Q _ => ∃ (q : Addr) (m : Nat) (r : Kwc.Report), vs = [.ref q, .int m] /\ RepAt RC TC CC H q r /\ Kwc.ok r = true /\ ∀ H' p as, Same H H' -> H p = none -> VwsAt H' p as (Kwc.views r m) -> Q (.ref p) H'
structure VInv (H : Hp) (q : Addr) (m : Nat) (r : Kwc.Report) (i : Nat) (σ : L2.St) (H' : Hp) : Prop where
 ex : ∃ (nl nb : Addr) (asl asb : List Addr) (v4 v5 v6 v7 : Option V), σ = [some (.ref q), some (.int (m : Nat)), some (.ref nl), some (.ref nb), v4, v5, v6, v7] /\ Same H H' /\
  VwsAt H' nl asl (viewsTo r m (r.changes.take i) (startV r)).1 /\ VwsAt H' nb asb (viewsTo r m (r.changes.take i) (startV r)).2
theorem to8 {r : Kwc.Report} {m i : Nat} (h : r.changes.length ≤ 3) : (viewsTo r m (r.changes.take i) (startV r)).1.length + (viewsTo r m (r.changes.take i) (startV r)).2.length ≤ 8 := by
 have h1 := to_len (r := r) (m := m) (r.changes.take i) (startV r)
 have h2 : (r.changes.take i).length ≤ 3 := by rw [List.length_take]; omega
 have h3 : 2 ^ (r.changes.take i).length ≤ 2 ^ 3 := Nat.pow_le_pow_right (by decide) h2
 have h4 : (startV r).1.length + (startV r).2.length = 1 := rfl
 rw [h4] at h1
 omega
section
variable {P : Program} {w : World} {K : PySem.W.Frag} {mg : Str -> Option Value} {base : Heap} {C XC RC TC CC : Addr}
abbrev st_views_at : Stmt := top 103
theorem sc_views_at : FnScope ["report", "minute", "lasting", "besides", "change", "ended", "changed", "view"] ["report", "minute"] (defScope st_views_at) := ⟨rfl, rfl, rfl, by decide +kernel, rfl, by decide +kernel, by decide +kernel⟩
theorem kn_views (N : TopFn K mg "views_at" st_views_at) (OR : ReportOk K mg RC) (OT : TrendOk K mg TC) (OC : ChangeOk K mg CC) (g_AT_TIMES : GV mg "AT_TIMES" (.int 2)) (kn_told_view : Known P w K mg base CX0 2 "told_view" ["report"] (spTV RC TC CC)) (kn_beginning_of : Known P w K mg base CX0 2 "beginning_of" ["change", "moment"] (spBeg K CC)) (kn_end_of : Known P w K mg base CX0 3 "end_of" ["change", "moment"] (spEnd K CC))
  (kn_changed_view : Known P w K mg base CX0 2 "changed_view" ["view", "change"] (spCV CC)) : Known P w K mg base CX0 4 "views_at" ["report", "minute"] (spViews RC TC CC) := by
 refine known_of N (fun _ _ _ _ _ _ us hl => match us, hl with | [_, _], _ => rfl) fun f fd Fu => ?_
 refine Fu.ok sc_views_at (fun vs H Q E h => ?_) (fun cdv A outer s H vs Q E hr h => ?_)
 ·obtain ⟨q, m, r, rfl, _⟩ := h
  rfl
 ·obtain ⟨q, m, r, rfl, ra, hok, ret⟩ := h
  obtain ⟨dx, a1, a2, a3, a5, a6, a7, a9, h0, h1, h2, h3, h7, h5, h6, h9⟩ := ra.ex
  obtain ⟨dt, nc, ac, ht, LC⟩ := h9.ex
  have hVo := vok hok
  have hc3 := chgs_le hok
  have hclen := LC.len
  refine ⟨_, (pss_cons (ps_set (i := 2) sc_views_at.nd rfl (by first | exact Or.inl rfl | exact Or.inr rfl) (pe_lst (pa_cons (pe_kn kn_told_view (hr.mono (by decide)) rfl pass0 (pa_cons (pv 0) pa_nil)) pa_nil)))
   (pss_cons (ps_set (i := 3) sc_views_at.nd rfl (by first | exact Or.inl rfl | exact Or.inr rfl) (pe_lst pa_nil))
   (pss_cons (ps_for PassesOwn.never rfl (pi_list (pe_fld (pe_fld (pv 0) rfl) rfl)) (pg_name (i := 4) sc_views_at.nd rfl (by first | exact Or.inl rfl | exact Or.inr rfl))
   (pss_cons (ps_if (pt_cmpR op_lt (pv 1) (pe_kn kn_beginning_of (hr.mono (by decide)) rfl pass0 (pa_cons (pv 4) (pa_cons (pe_fld (pv 0) rfl) pa_nil))) (nomark _))
   (pss_one ps_continue)
   pss_nil)
   (pss_cons (ps_set (i := 5) sc_views_at.nd rfl (by first | exact Or.inl rfl | exact Or.inr rfl) (pe_cmpR op_gt (pv 1) (pe_kn kn_end_of (hr.mono (by decide)) rfl pass0 (pa_cons (pv 4) (pa_cons (pe_fld (pv 0) rfl) pa_nil))) (nomark _)))
   (pss_cons (ps_setLc (i := 6) rfl sc_views_at.nd rfl rfl rfl (pi_list (pv 2)) (blkOk_by (own := [("view", 7)]) (by kernel_rfl)) (fun _ _ _ _ _ => pg_name (i := 7) sc_views_at.nd rfl (Or.inl rfl)) (fun _ _ _ _ _ => pts_nil) (fun _ _ _ _ _ => (pe_kn kn_changed_view (hr.mono (by decide)) rfl pass0 (pa_cons (pv 7) (pa_cons (pv 4) pa_nil)))))
   (pss_one (ps_if (pt_cmpR op_eq (pe_fld (pv 4) rfl) (pe_gv g_AT_TIMES (by rfl)) (nomark _))
   (pss_one (ps_set (i := 3) sc_views_at.nd rfl (by first | exact Or.inl rfl | exact Or.inr rfl) (pe_ifExp (pt_val (pv 5)) (pv 3) (pe_op op_cat (pv 3) (pv 6)))))
   (pss_one (ps_set (i := 2) sc_views_at.nd rfl (by first | exact Or.inl rfl | exact Or.inr rfl) (pe_ifExp (pt_val (pv 5)) (pv 6) (pe_op op_cat (pv 2) (pv 6)))))))))))
   (pss_one (ps_ret (pe_op op_cat (pv 2) (pv 3))))))), ?_⟩
  refine ⟨_, rfl, q, r, rfl, ra, ok_sky hok, fun H1 p1 s1 hp1 hv1 => ?_⟩
  refine ⟨(by show 1 ≤ sizeLine; decide), fun nl hnl => ?_⟩
  have s2 : Same H1 (upd H1 nl (.lst [.ref p1])) := same_new (Same.refl _) hnl
  have L2' : VwsAt (upd H1 nl (.lst [.ref p1])) nl [p1] [Kwc.viewOf r] := ⟨upd_same, rfl, fun j a v e1 e2 => by
   cases j with
   | zero => cases e1; cases e2; exact s2 _ _ hv1
   | succ j => cases e1⟩
  generalize upd H1 nl (.lst [.ref p1]) = H2 at s2 L2'
  refine ⟨(by show 0 ≤ sizeLine; decide), fun nb hnb => ?_⟩
  have s3 : Same H2 (upd H2 nb (.lst [])) := same_new (Same.refl _) hnb
  have B3 : VwsAt (upd H2 nb (.lst [])) nb [] [] := ⟨upd_same, rfl, fun j a v e1 e2 => by cases e1⟩
  have L3 := L2'.same s3
  generalize upd H2 nb (.lst []) = H3 at s3 B3 L3
  have t3 := (s1.trans s2).trans s3
  refine ⟨_, rfl, q, RC, dx, _, _, rfl, t3 _ _ h0, OR.cl, OR.n_trend, rpF_trend _ _ _ _ _ _ _ _ _, a9, TC, dt, _, _, rfl, t3 _ _ ht, OT.cl, OT.n_changes, trF_changes _ _, nc, rfl, ⟨_, SqL.of (t3 _ _ LC.lst)⟩, ?_⟩
  refine for_list (xs := ac.map V.ref) (VInv H q m r) ⟨nl, nb, [p1], [], none, none, none, none, rfl, t3, L3, B3⟩ (fun i σ H' hi hP => ?_) (fun i x σ H' hx hP => ?_) (fun σ H' hP => ?_)
  ·obtain ⟨nl, nb, asl, asb, v4, v5, v6, v7, rfl, s', La, Lb⟩ := hP.ex
   exact SqL.of (s' _ _ LC.lst)
  ·obtain ⟨nl, nb, asl, asb, v4, v5, v6, v7, rfl, s', La, Lb⟩ := hP.ex
   rw [List.getElem?_map] at hx
   cases ea : ac[i]? with
   | none => rw [ea] at hx; cases hx
   | some ai =>
    rw [ea] at hx
    cases hx
    have hi : i < r.changes.length := by rw [<- hclen]; exact (List.getElem?_eq_some_iff.mp ea).1
    have hat := LC.at_ i ai r.changes[i] ea (List.getElem?_eq_getElem hi)
    have hsk := ok_chgs hok r.changes[i] (List.getElem_mem hi)
    have h8 := to8 (r := r) (m := m) (i := i) hc3
    have hst := to_take r m i r.changes (startV r) hi
    generalize r.changes[i] = c at hat hsk hst
    generalize viewsTo r m (r.changes.take i) (startV r) = pv at La Lb h8 hst
    obtain ⟨ls, bs⟩ := pv
    dsimp only at La Lb h8
    have cat' := hat.same s'
    obtain ⟨dc, vw, vx, vk, hq, _⟩ := cat'.ex
    have nxt : ∀ (H' : Hp) (nl nb : Addr) (asl asb : List Addr) (v4 v5 v6 v7 : Option V) (pw : List Kwc.View × List Kwc.View), Same H H' -> stepV r m c (ls, bs) = pw -> VwsAt H' nl asl pw.1 -> VwsAt H' nb asb pw.2 -> VInv H q m r (i + 1) [some (.ref q), some (.int (m : Nat)), some (.ref nl), some (.ref nb), v4, v5, v6, v7] H' := by
     intro H' nl nb asl asb v4 v5 v6 v7 pw sH e1 l1 l2
     rw [<- e1] at l1 l2
     exact ⟨nl, nb, asl, asb, v4, v5, v6, v7, rfl, sH, by rw [hst]; exact l1, by rw [hst]; exact l2⟩
    refine ⟨_, rfl, _, rfl, _, rfl, q, RC, dx, _, _, rfl, s' _ _ h0, OR.cl, OR.n_moment, rpF_moment _ _ _ _ _ _ _ _ _, ai, a2, c, r, rfl, cat', SqL.of (s' _ _ h2), hVo.hour, hVo.minute, _, _, rfl, rfl, _, rfl, ?_⟩
    have eb : decide ((m : Int) < ((Kwc.begins r c : Nat) : Int)) = decide (m < Kwc.begins r c) := by rw [Bool.eq_iff_iff]; simp
    dsimp only
    rw [eb]
    refine iteB (fun e => ?_) (fun e => ?_)
    ·exact nxt _ _ _ _ _ _ _ _ _ (ls, bs) s' (by unfold stepV; rw [if_pos (of_decide_eq_true e)]) La Lb
    ·have hb := of_decide_eq_false e
     refine ⟨_, rfl, _, rfl, _, rfl, q, RC, dx, _, _, rfl, s' _ _ h0, OR.cl, OR.n_moment, rpF_moment _ _ _ _ _ _ _ _ _, ai, a2, c, r, rfl, cat', SqL.of (s' _ _ h2), hVo.hour, hVo.minute, _, _, rfl, rfl, ?_⟩
     dsimp only [gName, tSeq, tAsg]
     refine rd_views (K := K) (i0 := 2) (j0 := 7) (g := Kwc.changed c) rfl La (by omega) (fun j H4 k a x hx ha s4 hk => ?_) (fun H4 D as s4 hD LD => ?_)
     ·exact ⟨_, rfl, _, rfl, a, ai, x, c, rfl, ha, cat'.same s4, hsk, fun H5 p s5 hp hp5 => hk p H5 s5 hp hp5⟩
     ·have t4 := s'.trans s4
      have hq4 := s4 _ _ hq
      have La4 := La.same s4
      have Lb4 := Lb.same s4
      have hlD : (ls.map (Kwc.changed c)).length = ls.length := List.length_map ..
      refine ⟨_, rfl, ai, CC, dc, _, _, rfl, hq4, OC.cl, OC.n_manner, chF_manner _ _ _ _ _ _ _, rfl, _, rfl, ?_⟩
      have ek : decide (V.int (c.kind : Int) = V.int 2) = decide (c.kind = 2) := by rw [dec_intV, Bool.eq_iff_iff]; simp; omega
      dsimp only
      rw [ek]
      refine iteB (fun e2 => ?_) (fun e2 => ?_)
      ·have hk2 := of_decide_eq_true e2
       refine ⟨_, rfl, _, rfl, ?_⟩
       refine iteB (fun e3 => ?_) (fun e3 => ?_)
       ·exact ⟨_, rfl, nxt _ _ _ _ _ _ _ _ _ (ls, bs) t4 (by unfold stepV; rw [if_neg hb, if_pos hk2]; simp only [if_pos (show Kwc.ends r c < m by have h : ((Kwc.ends r c : Nat) : Int) < (m : Int) := of_decide_eq_true e3; omega)]) La4 Lb4⟩
       ·refine ⟨_, rfl, _, rfl, nb, D, _, _, rfl, rfl, Lb4.lst, LD.lst, small500 (by rw [List.length_map, List.length_map, Lb4.len, LD.len]; omega), fun p hp => ?_⟩
        have s5 : Same H4 (upd H4 p (.lst (asb.map V.ref ++ as.map V.ref))) := same_new (Same.refl _) hp
        exact nxt _ _ _ _ _ _ _ _ _ (ls, bs ++ ls.map (Kwc.changed c)) (t4.trans s5) (by unfold stepV; rw [if_neg hb, if_pos hk2]; simp only [if_neg (show ¬ Kwc.ends r c < m by have h : ¬ ((Kwc.ends r c : Nat) : Int) < (m : Int) := of_decide_eq_false e3; omega)]) (La4.same s5) (Lb4.cat LD hp)
      ·have hk2 := of_decide_eq_false e2
       refine ⟨_, rfl, _, rfl, ?_⟩
       refine iteB (fun e3 => ?_) (fun e3 => ?_)
       ·exact ⟨_, rfl, nxt _ _ _ _ _ _ _ _ _ (ls.map (Kwc.changed c), bs) t4 (by unfold stepV; rw [if_neg hb, if_neg hk2]; simp only [if_pos (show Kwc.ends r c < m by have h : ((Kwc.ends r c : Nat) : Int) < (m : Int) := of_decide_eq_true e3; omega)]) LD Lb4⟩
       ·refine ⟨_, rfl, _, rfl, nl, D, _, _, rfl, rfl, La4.lst, LD.lst, small500 (by rw [List.length_map, List.length_map, La4.len, LD.len]; omega), fun p hp => ?_⟩
        have s5 : Same H4 (upd H4 p (.lst (asl.map V.ref ++ as.map V.ref))) := same_new (Same.refl _) hp
        exact nxt _ _ _ _ _ _ _ _ _ (ls ++ ls.map (Kwc.changed c), bs) (t4.trans s5) (by unfold stepV; rw [if_neg hb, if_neg hk2]; simp only [if_neg (show ¬ Kwc.ends r c < m by have h : ¬ ((Kwc.ends r c : Nat) : Int) < (m : Int) := of_decide_eq_false e3; omega)]) (La4.cat LD hp) (Lb4.same s5)
  ·obtain ⟨nl, nb, asl, asb, v4, v5, v6, v7, rfl, s', La, Lb⟩ := hP.ex
   have h8 := to8 (r := r) (m := m) (i := (ac.map V.ref).length) hc3
   rw [List.length_map, hclen, List.take_length] at La Lb h8
   refine ⟨_, rfl, _, rfl, nl, nb, _, _, rfl, rfl, La.lst, Lb.lst, small500 (by rw [List.length_map, List.length_map, La.len, Lb.len]; omega), fun p hp => ?_⟩
   refine ret _ p (asl ++ asb) (s'.trans (same_new (Same.refl _) hp)) (s'.free hp) ?_
   rw [views_to]
   exact La.cat Lb hp
end
end My
end
section
set_option Elab.async false
set_option linter.all false
set_option maxRecDepth 100000
set_option maxHeartbeats 4000000
namespace My
open PySem PySem.Spec PyProof.Rows L2 TL
theorem ix_tupK {X : Cx} (K : PySem.W.Frag) (h : X.K = K) : IxR X (rIxT K) := by subst h; exact ix_tup
theorem free_mem {l : List (Str × NameKind)} {xs : List Str} (h : (l.all fun p => p.2 != .free || xs.contains p.1) = true) : ∀ x, l.lookup x = some .free -> x ∈ xs := fun x e => by
 have := List.all_eq_true.mp h _ (PySem.mem_of_lookup e)
 simpa using this
theorem lc_parts {K : PySem.W.Frag} {H1 : Hp} {p : Addr} {as : List Addr} {vs : List Kwc.View} {val : Kwc.View -> V} {j0 : Nat} {te : TE} {σ : L2.St} {Q : VK} (L : VwsAt H1 p as vs) (hl : vs.length ≤ 100)
  (elem : ∀ (H' : Hp) (k : VK) (a : Addr) (x : Kwc.View), x ∈ vs -> H' a = some (.tup (vwN x)) -> Same H1 H' -> (∀ H4, Same H' H4 -> k (val x) H4) -> te ((wipe σ [j0]).set j0 (some (.ref a))) H' k)
  (fin : ∀ H D, Same H1 H -> H1 D = none -> H D = some (.lst (vs.map val)) -> Q (.ref D) H) (D : Addr) (hD : H1 D = none) : LcR (Itl K p) j0 te σ H1 D Q := by
 have hz : (as.zip vs).map (fun x => V.ref x.1) = as.map V.ref := by
  rw [show (fun x : Addr × Kwc.View => V.ref x.1) = V.ref ∘ Prod.fst from rfl, <- List.map_map, List.map_fst_zip (by rw [L.len]; exact Nat.le_refl _)]
 have hz2 : (as.zip vs).map (fun x => val x.2) = vs.map val := by
  rw [show (fun x : Addr × Kwc.View => val x.2) = val ∘ Prod.snd from rfl, <- List.map_map, List.map_snd_zip (by rw [L.len]; exact Nat.le_refl _)]
 refine lc_list (K := K) (a := p) (xs := as.zip vs) (f := fun x => V.ref x.1) (d := (0, ⟨0, 0⟩)) (val := fun x => val x.2) (by rw [hz]; exact SqL.of L.lst) (by rw [List.length_zip]; exact Nat.lt_of_le_of_lt (Nat.min_le_right _ _) (Nat.lt_of_le_of_lt hl (by decide))) (fun i H3 k hi hs hk => ?_) (fun H3 D s3 hD hd => ?_) D hD
 ·have hi2 : i < vs.length := by rw [List.length_zip] at hi; omega
  have hi1 : i < as.length := by rw [L.len]; exact hi2
  have eg : (as.zip vs).getD i (0, ⟨0, 0⟩) = (as[i], vs[i]) := by
   rw [List.getD_eq_getElem?_getD, List.getElem?_eq_getElem hi, List.getElem_zip]; rfl
  rw [eg] at hk ⊢
  exact elem H3 k as[i] vs[i] (List.getElem_mem hi2) (hs _ _ (L.at_ i _ _ (List.getElem?_eq_getElem hi1) (List.getElem?_eq_getElem hi2))) hs hk
 ·rw [hz2] at hd
  exact fin H3 D s3 hD hd
theorem views_ok {r : Kwc.Report} {m : Nat} (h : Kwc.ok r = true) : Kwc.views r m ≠ [] /\ (∀ v ∈ Kwc.views r m, okV v) /\ (Kwc.views r m).length ≤ 100 := by
 have hVo := vok h
 obtain ⟨a, b, c⟩ := to_ok (r := r) (m := m) r.changes hVo.chg (startV r) (by intro z; cases z) (fun v hv => by
  have : v = Kwc.viewOf r := by simpa [startV] using hv
  rw [this]; exact hVo.view) (fun v hv => by cases hv)
 have h8 := to8 (r := r) (m := m) (i := r.changes.length) (chgs_le h)
 rw [List.take_length] at h8
 rw [views_to]
 refine ⟨by simp [a], fun v hv => ?_, by rw [List.length_append]; omega⟩
 rcases List.mem_append.mp hv with hv | hv
 ·exact b v hv
 ·exact c v hv
section
variable {P : Program} {w : World} {K : PySem.W.Frag} {mg : Str -> Option Value} {base : Heap} {C XC RC TC CC : Addr}
theorem okL {x qual : Str} {st : Stmt} {f c : Addr} {fd : FuncData} {N ps : List Str} {k : Nat} {sp : Sp} (F : Fun K x qual st f fd) (hc : fd.code = .ref c) (S : FnScope N ps (defScope st)) (len : ∀ vs H Q E, sp vs H Q E -> vs.length = ps.length)
  (hbody : ∀ (A : Around) (outer : List Env) (s : Shared) (H : Hp) (vs : List V) (Q : VK) (E : XK), Room k (A.deeper (envOfC qual (defScope st) s.heap.objs.size f (.ref c))) -> sp vs H Q E ->
   ∃ t, PSs (cxOf CX0 P w K mg base N qual (defScope st) f (.ref c) A outer s H E).nox (defBody st) t /\ t { nx := fun _ H' => Q .non H', rt := Q } (start N vs) H) : FnOk P w K mg base CX0 (k + 1) f fd ps sp := by
 obtain ⟨oc, od, kV, doc, pm, an, cdv, ct, osl, rfl, lk, hcd⟩ := F.ex
 have e : cdv = .ref c := hc
 subst e
 refine fn_of lk hcd S len fun A outer s H vs Q E hr hsp => ?_
 obtain ⟨t, h, q⟩ := hbody A outer s H vs Q E hr hsp
 exact ⟨t, h.nox, q⟩
theorem sq_tbl {H : Hp} {a Pt : Addr} {xs : List V} {tb tb' : Array Value} (h : SqL K H a xs) (hP : H Pt = some (.tbl tb)) : SqL K (upd H Pt (.tbl tb')) a xs := by
 rcases h with (h | ⟨o, h⟩) | h
 ·exact .inl (.inl (by rw [upd_ne (fun z => by rw [z, hP] at h; cases h)]; exact h))
 ·exact .inl (.inr ⟨o, by rw [upd_ne (fun z => by rw [z, hP] at h; cases h)]; exact h⟩)
 ·exact .inr h
end
end My
end
section
set_option Elab.async false
set_option linter.all false
set_option maxRecDepth 100000
set_option maxHeartbeats 4000000
namespace My
open PySem PySem.Spec PyProof.Rows L2 TL
def hit (r : Kwc.Report) (s c m : Nat) : Bool := (Kwc.views r m).any (Kwc.below s c)
def firstN (r : Kwc.Report) (s c : Nat) : List Int := match (List.range 241).find? (hit r s c) with
 | some m => [((m : Nat) : Int)]
 | none => [-61]
theorem find_range {p : Nat -> Bool} {n i : Nat} (hi : i < n) (hn : ∀ j, j < i -> p j = false) (hp : p i = true) : (List.range n).find? p = some i := by
 rw [List.find?_range_eq_some]
 exact ⟨hp, by simpa using hi, fun j hj => by simp [hn j hj]⟩
theorem find_range_none {p : Nat -> Bool} {n : Nat} (hn : ∀ j, j < n -> p j = false) : (List.range n).find? p = none := by
 rw [List.find?_eq_none]
 intro x hx
 rw [hn x (by simpa using hx)]
 decide
def spFirstB (RC TC CC : Addr) : Sp := fun vs H Q _ => ∃ (q : Addr) (s c : Nat) (r : Kwc.Report), vs = [.ref q, .int s, .int c] /\ RepAt RC TC CC H q r /\ Kwc.ok r = true /\ RetR H Q (.l (firstN r s c))
def spTellF (RC TC CC : Addr) (s c : Nat) : Sp := fun vs H Q _ => ∃ (q : Addr) (r : Kwc.Report), vs = [.ref q] /\ RepAt RC TC CC H q r /\ Kwc.ok r = true /\ RetR H Q (.l (firstN r s c))
def spFirst (K : PySem.W.Frag) (Pt : Addr) : Sp := fun vs H Q _ => ∃ (a : Addr) (s c : Nat) (t : T), vs = [.int s, .int c, .ref a] /\ SqL K H a ((zs t).map V.int) /\ t.length ≤ 500 /\ H Pt = some (.tbl #[]) /\ ∀ H' q, H' q = some (.lst ((PyKwc.first (s : Int) (c : Int) (zs t)).map V.int)) -> Q (.ref q) H'
theorem below_at (s c : Nat) (x : Kwc.View) : (decide ((x.sight : Int) < (s : Int)) || decide ((x.ceiling : Int) < (c : Int))) = Kwc.below s c x := by
 unfold Kwc.below
 rw [show decide ((x.sight : Int) < (s : Int)) = decide (x.sight < s) by rw [Bool.eq_iff_iff]; simp, show decide ((x.ceiling : Int) < (c : Int)) = decide (x.ceiling < c) by rw [Bool.eq_iff_iff]; simp]
theorem rd_vcall {K : PySem.W.Frag} {RC TC CC : Addr} {ia ib j0 : Nat} {te : TE} {σ : L2.St} {H0 : Hp} {Q : VK} {q : Addr} {m : Nat} {r : Kwc.Report} {val : Kwc.View -> V} (ha : σ[ia]? = some (some (.ref q))) (hb : σ[ib]? = some (some (.int (m : Nat)))) (ra : RepAt RC TC CC H0 q r) (hok : Kwc.ok r = true)
  (elem : ∀ (H' : Hp) (k : VK) (a : Addr) (x : Kwc.View), H' a = some (.tup (vwN x)) -> (∀ H4, Same H' H4 -> k (val x) H4) -> te ((wipe σ [j0]).set j0 (some (.ref a))) H' k)
  (fin : ∀ H D, Same H0 H -> H D = some (.lst ((Kwc.views r m).map val)) -> Q (.ref D) H) : tLc (iList K (tCall (spViews RC TC CC) [] E0 (tCons (tVar ia) (tCons (tVar ib) tNil)))) (gName j0) tYes te [j0] σ H0 Q :=
 ⟨_, ha, _, hb, q, m, r, rfl, ra, hok, fun H1 p as s1 hp L => ⟨p, rfl, ⟨_, SqL.of L.lst⟩, fun D hD => lc_parts L (views_ok hok).2.2 (fun H' k a x _ ha _ hk => elem H' k a x ha hk) (fun H2 D s2 _ hd => fin H2 D (s1.trans s2) hd) D hD⟩⟩
section
variable {P : Program} {w : World} {K : PySem.W.Frag} {mg : Str -> Option Value} {base : Heap} {C XC RC TC CC : Addr}
abbrev st_first_below : Stmt := top 113
theorem sc_first_below : FnScope ["report", "sight", "ceiling", "minute", "view"] ["report", "sight", "ceiling"] (defScope st_first_below) := ⟨rfl, rfl, rfl, by decide +kernel, rfl, by decide +kernel, by decide +kernel⟩
theorem kn_first_below (N : TopFn K mg "first_below" st_first_below) (B : Bt mg) (g_LAST_MINUTE : GV mg "LAST_MINUTE" (.int 240)) (g_NONE_BELOW : GV mg "NONE_BELOW" (.int (-61))) (kn_views_at : Known P w K mg base CX0 4 "views_at" ["report", "minute"] (spViews RC TC CC)) : Known P w K mg base CX0 5 "first_below" ["report", "sight", "ceiling"] (spFirstB RC TC CC) := by
 refine known_of N (fun _ _ _ _ _ _ us hl => match us, hl with | [_, _, _], _ => rfl) fun f fd Fu => ?_
 refine Fu.ok sc_first_below (fun vs H Q E h => ?_) (fun cdv A outer s H vs Q E hr h => ?_)
 ·obtain ⟨q, si, ce, r, rfl, _⟩ := h
  rfl
 ·obtain ⟨q, si, ce, r, rfl, ra, hok, ret⟩ := h
  refine ⟨_, (pss_cons (ps_for PassesOwn.never rfl (pi_range1 (by rfl) B.range (pa_cons (pe_op op_add (pe_gv g_LAST_MINUTE (by rfl)) pe_int) pa_nil)) (pg_name (i := 3) sc_first_below.nd rfl (by first | exact Or.inl rfl | exact Or.inr rfl))
   (pss_one (ps_if (pt_val (pe_callB (cr_any rfl) (by rfl) B.any bt_any (pa_cons (pe_lc rfl sc_first_below.nd (pi_list (pe_kn kn_views_at (hr.mono (by decide)) rfl pass0 (pa_cons (pv 0) (pa_cons (pv 3) pa_nil)))) (blkOk_by (own := [("view", 4)]) (by kernel_rfl)) (fun _ _ _ _ _ => pg_name (i := 4) sc_first_below.nd rfl (Or.inl rfl)) (fun _ _ _ _ _ => pts_nil) (fun _ _ _ _ _ => (pe_or (pe_cmpR op_lt (pe_ix (ix_tupK K rfl) (pv 4) pe_int (fun _ _ => rfl)) (pv 1) (nomark _)) (pe_one (pe_cmpR op_lt (pe_ix (ix_tupK K rfl) (pv 4) pe_int (fun _ _ => rfl)) (pv 2) (nomark _)))))) pa_nil)))
   (pss_one (ps_ret (pe_lst (pa_cons (pv 3) pa_nil))))
   pss_nil)))
   (pss_one (ps_ret (pe_lst (pa_cons (pe_gv g_NONE_BELOW (by rfl)) pa_nil))))), ?_⟩
  refine ⟨_, _, rfl, rfl, 241, rfl, by decide, by decide, ?_⟩
  refine for_range (lo := 0) (n := 241) (fun i σ H' => ∃ v3 v4, σ = [some (.ref q), some (.int (si : Nat)), some (.int (ce : Nat)), v3, v4] /\ Same H H' /\ ∀ j, j < i -> hit r si ce j = false) ⟨none, none, rfl, Same.refl H, fun j hj => absurd hj (Nat.not_lt_zero _)⟩ (fun i σ H' hi hP => ?_) (fun σ H' hP => ?_)
  ·obtain ⟨v3, v4, rfl, s', hno⟩ := hP
   have ei : (0 : Int) + ((i : Nat) : Int) = ((i : Nat) : Int) := Int.zero_add _
   rw [ei]
   dsimp only [gName, tSeq, tIfS, tB, tCB, tCons, tNil]
   refine rd_vcall (K := K) (ia := 0) (ib := 3) (j0 := 4) (val := fun x => .bl (Kwc.below si ce x)) rfl rfl (ra.same s') hok (fun H2 k a x ha hk => ?_) (fun H2 D s2 hd => ?_)
   ·have hb := below_at si ce x
    refine ⟨_, rfl, a, _, _, _, rfl, rfl, SqT.of ha, at_of (j := 0) rfl rfl, _, rfl, _, _, rfl, rfl, _, rfl, ?_⟩
    refine iteB (fun e => ?_) (fun e => ?_)
    ·have e2 : Kwc.below si ce x = true := by rw [<- hb, e]; rfl
     have hk := hk H2 (Same.refl _)
     rw [e2] at hk
     exact hk
    ·have e2 : Kwc.below si ce x = decide ((x.ceiling : Int) < (ce : Int)) := by rw [<- hb, e]; rfl
     have hk := hk H2 (Same.refl _)
     rw [e2] at hk
     exact ⟨_, rfl, a, _, _, _, rfl, rfl, SqT.of ha, at_of (j := 1) rfl rfl, _, rfl, _, _, rfl, rfl, hk⟩
   ·refine ⟨D, (Kwc.views r i).map (Kwc.below si ce), rfl, SqL.of (by rw [hd, List.map_map]; rfl), _, rfl, ?_⟩
    have eh : ((Kwc.views r i).map (Kwc.below si ce)).any id = hit r si ce i := by unfold hit; rw [List.any_map]; rfl
    rw [eh]
    refine iteB (fun e => ?_) (fun e => ?_)
    ·have ef : firstN r si ce = [((i : Nat) : Int)] := by unfold firstN; rw [find_range hi hno e]
     rw [ef] at ret
     refine ⟨_, rfl, (by show 1 ≤ sizeLine; decide), fun z hz => ?_⟩
     exact ret _ z ((s'.trans s2).trans (same_new (Same.refl _) hz)) ((s'.trans s2).free hz) (by rw [upd_same]; rfl)
    ·refine ⟨_, _, rfl, s'.trans s2, fun j hj => ?_⟩
     rcases Nat.lt_succ_iff_lt_or_eq.mp hj with hj | rfl
     ·exact hno j hj
     ·exact e
  ·obtain ⟨v3, v4, rfl, s', hno⟩ := hP
   have ef : firstN r si ce = [-61] := by unfold firstN; rw [find_range_none hno]
   rw [ef] at ret
   refine ⟨(by show 1 ≤ sizeLine; decide), fun z hz => ?_⟩
   exact ret _ z (s'.trans (same_new (Same.refl _) hz)) (s'.free hz) (by rw [upd_same]; rfl)
abbrev st_first : Stmt := top 114
theorem sc_first : FnScope ["sight", "ceiling", "t"] ["sight", "ceiling", "t"] (defScope st_first) := ⟨rfl, rfl, rfl, by decide +kernel, rfl, by decide +kernel, by decide +kernel⟩
theorem ok_first {f c Pt : Addr} {fd : FuncData} (Fu : Fun K "first" "first" st_first f fd) (hcd : fd.code = .ref c) (LB : LamBase mg c Pt base)
  {fg : Addr} {fdg : FuncData} (mgg : mg "answer_of" = some (.ref fg)) (kpg : PySem.W.keepIn K (.ref fg) = true) (bg : L2.Binds K fdg ["t", "teller"] []) (Fg : ∀ b2 : Heap, FnOk P w K mg b2 CX0 16 fg fdg ["t", "teller"] (spAns P w K mg b2 RC TC CC))
  (KL : ∀ b2 : Heap, Known P w K mg b2 CX0 5 "first_below" ["report", "sight", "ceiling"] (spFirstB RC TC CC)) : FnOk P w K mg base CX0 17 f fd ["sight", "ceiling", "t"] (spFirst K Pt) := by
 refine okL Fu hcd sc_first (fun vs H Q E h => ?_) (fun A outer s H vs Q E hr h => ?_)
 ·obtain ⟨a, si, ce, t, rfl, _⟩ := h
  rfl
 ·obtain ⟨a, si, ce, t, rfl, sq, hl, hP, ret⟩ := h
  refine ⟨_, pss_one (ps_ret (pe_callLam (c := c) (Pt := Pt) (E := E0) Fg hr rfl mgg kpg bg pass0 LB rfl rfl rfl (fun _ => rfl) (pv 2))), ?_⟩
  rw [first_py] at ret
  refine ⟨_, rfl, #[], hP, trivial, rfl, fun b2 fl c' ctv tb' LA hcells hcap hinj => ?_⟩
  obtain ⟨d1, u1, h11, h12, h13⟩ := hcap 0 "sight" (.int si) rfl rfl rfl
  obtain ⟨d2, u2, h21, h22, h23⟩ := hcap 1 "ceiling" (.int ce) rfl rfl rfl
  obtain rfl : d1 = s.heap.objs.size + 1 := (Option.some.inj h11).symm
  obtain rfl : d2 = s.heap.objs.size + 1 + 1 := (Option.some.inj h21).symm
  have FL : FnOk P w K mg b2 CX0 6 fl _ ["report"] (spTellF RC TC CC si ce) := lam_of (k := 5) (p0 := "report") (xs := ["sight", "ceiling"]) (v0s := [.int si, .int ce]) LA rfl rfl rfl rfl (by decide) (fun x hx => ?_) (fun x hx => ?_) rfl (fun i x v h1 h2 => ?_) (fun x d hx => ?_) (fun x y d hx hy => ?_) (fun vs H Q E h => ?_) (fun A outer s H v Q E hr h => ?_)
  ·refine ⟨a, fl, t, spTellF RC TC CC si ce, rfl, sq_tbl sq hP, hl, ⟨LA.keeps, 6, _, ["report"], FL, by decide, ?_⟩, fun h4 H' q hq => ?_, fun h4 er H' q hq => ?_, fun h4 r er H' q rq => ?_⟩
   ·exact Binds.all fun us hu => match us, hu with | [_], _ => rfl
   ·rw [if_pos h4] at ret
    exact ret H' q hq
   ·rw [if_neg (by omega), er] at ret
    exact ret H' q hq
   ·rw [if_neg (by omega), er] at ret
    exact ⟨q, r, rfl, rq, reads_ok er, fun H2 p s2 _ hp => ret H2 p hp⟩
  ·exact free_mem (by decide +kernel) x hx
  ·rcases List.mem_cons.mp hx with e | hx
   ·subst e; rfl
   ·have e : x = "ceiling" := by simpa using hx
    subst e
    rfl
  ·match i, h1, h2 with
   | 0, h1, h2 =>
    cases h1
    cases h2
    exact ⟨_, u1, h11, h12, h13⟩
   | 1, h1, h2 =>
    cases h1
    cases h2
    exact ⟨_, u2, h21, h22, h23⟩
   | i + 2, h1, _ => cases h1
  ·have hm := PySem.mem_of_lookup hx
   rcases List.mem_cons.mp hm with e | hm
   ·cases e; exact ⟨_, h12⟩
   ·rcases List.mem_cons.mp hm with e | hm
    ·cases e; exact ⟨_, h22⟩
    ·cases hm
  ·have hm := PySem.mem_of_lookup hx
   have hn := PySem.mem_of_lookup hy
   rcases List.mem_cons.mp hm with e | hm
   ·rcases List.mem_cons.mp hn with e' | hn
    ·cases e; cases e'; rfl
    ·rcases List.mem_cons.mp hn with e' | hn
     ·cases e; exact absurd (Prod.mk.inj e').2 (by intro z; exact absurd z (by first | exact Nat.ne_of_lt (Nat.lt_succ_self _) | exact Nat.ne_of_gt (Nat.lt_succ_self _)))
     ·cases hn
   ·rcases List.mem_cons.mp hm with e | hm
    ·rcases List.mem_cons.mp hn with e' | hn
     ·cases e; exact absurd (Prod.mk.inj e').2 (by intro z; exact absurd z (by first | exact Nat.ne_of_lt (Nat.lt_succ_self _) | exact Nat.ne_of_gt (Nat.lt_succ_self _)))
     ·rcases List.mem_cons.mp hn with e' | hn
      ·cases e; cases e'; rfl
      ·cases hn
    ·cases hm
  ·obtain ⟨q, r, rfl, _⟩ := h
   rfl
  ·obtain ⟨q, r, e, ra, hok, ret'⟩ := h
   cases e
   refine ⟨_, pe_kn (KL b2) hr rfl pass0 (pa_cons (pv 0) (pa_cons (pv 1) (pa_cons (pv 2) pa_nil))), ?_⟩
   exact ⟨_, rfl, _, rfl, _, rfl, q, si, ce, r, rfl, ra, hok, ret'⟩
end
end My
end
section
set_option Elab.async false
set_option linter.all false
namespace My
open PySem PySem.Spec PyProof.Rows L2 TL
theorem zs_nat : ∀ {l : List Int}, (∀ z ∈ l, 0 ≤ z) -> zs (l.map Int.toNat) = l
 | [], _ => rfl
 | z :: l, h => by
  have ih := zs_nat (l := l) fun y hy => h y (by simp [hy])
  show ((z.toNat : Int)) :: zs (l.map Int.toNat) = z :: l
  rw [ih, Int.toNat_of_nonneg (h z (by simp))]
theorem first_req {K : PySem.W.Frag} {H : Hp} {a Pt : Addr} {z y : Int} {l : List Int} {Q : VK} {E : XK} (hs : SqL K H a (l.map V.int)) (hz : 0 ≤ z) (hy : 0 ≤ y) (hb : ∀ y ∈ l, 0 ≤ y) (hl : l.length ≤ 500) (hP : H Pt = some (.tbl #[])) (k : ∀ H' p, H' p = some (.lst ((PyKwc.first z y l).map V.int)) -> Q (.ref p) H') : spFirst K Pt [.int z, .int y, .ref a] H Q E := by
 have e := zs_nat hb
 have e2 : ((z.toNat : Nat) : Int) = z := Int.toNat_of_nonneg hz
 have e3 : ((y.toNat : Nat) : Int) = y := Int.toNat_of_nonneg hy
 exact ⟨a, z.toNat, y.toNat, l.map Int.toNat, by rw [e2, e3], by rw [e]; exact hs, by rw [List.length_map]; exact hl, hP, by rw [e, e2, e3]; exact k⟩
section
variable {K : PySem.W.Frag} {h : Heap} {mg : Str -> Option Value}
theorem tf {x : Str} {st : Stmt} {f : Addr} {oc kV doc pm cdv ct : Value} {od an : Option Addr} {osl : Array (Option Value)} (X : K.In h) (G : h.Ns mainGlobals mg) (a : PySem.W.nsIn K mainGlobals x = some (some (.ref f)))
  (l : K.lookup f = some ⟨oc, od, .func (PySem.W.fnOf x x (defArgs st) (defBody st) (defScope st) .none kV doc pm an cdv ct), osl⟩) (c : PySem.W.codeIn K cdv x = true) (k : PySem.W.keepIn K (.ref f) = true) : TopFn K mg x st :=
 ⟨f, _, PySem.W.mg_of X G a, fun_mk l c k⟩
theorem tm {C : Addr} {m q : Str} {st : Stmt} {f : Addr} {oc kV doc pm cdv ct : Value} {od an : Option Addr} {osl : Array (Option Value)} (a : PySem.W.findIn K (.ref C) m = some (some (.ref f))) (i : PySem.W.isFn K (.ref f) = true)
  (l : K.lookup f = some ⟨oc, od, .func (PySem.W.fnOf m q (defArgs st) (defBody st) (defScope st) .none kV doc pm an cdv ct), osl⟩) (c : PySem.W.codeIn K cdv q = true) (k : PySem.W.keepIn K (.ref f) = true) : TopM K C m q st :=
 ⟨f, _, ⟨a, i, k⟩, fun_mk l c k⟩
theorem gvi {x : Str} {n : Int} {t : Tok} (X : K.In h) (G : h.Ns mainGlobals mg) (a : PySem.W.nsIn K mainGlobals x = some (some (.int n t))) : GV mg x (.int n) := ⟨_, PySem.W.mg_of X G a, t, rfl⟩
theorem gvs {x : Str} {n : Str} {t : Tok} (X : K.In h) (G : h.Ns mainGlobals mg) (a : PySem.W.nsIn K mainGlobals x = some (some (.str n t))) : GV mg x (.str n) := ⟨_, PySem.W.mg_of X G a, t, rfl⟩
theorem gvt {x n : Str} {t : Tok} {v : V} (X : K.In h) (G : h.Ns mainGlobals mg) (a : PySem.W.nsIn K mainGlobals x = some (some (.str n t))) (e : V.str n = v) : GV mg x v := e ▸ gvs X G a
theorem tgv {x : Str} {p : Addr} {its : Array Value} {n : Nat} {sl : Array (Option Value)} {ws : List T} (X : K.In h) (G : h.Ns mainGlobals mg) (a : PySem.W.nsIn K mainGlobals x = some (some (.ref p))) (l : K.lookup p = some ⟨.type "tuple", none, .seq its n, sl⟩) (z : its.size ≤ sizeLine) (v : Vals (ws.map strV) its.toList) : TG K mg x ws :=
 ⟨p, PySem.W.mg_of X G a, _, its, n, l, rfl, rfl, rfl, z, v⟩
end
end My
end
section
set_option Elab.async false
set_option linter.all false
set_option maxHeartbeats 4000000
set_option maxRecDepth 100000
namespace My
open PySem PySem.Spec PyProof.Rows L2 TL
theorem all_ans {P : Program} {w : World} {K : PySem.W.Frag} {mg : Str -> Option Value} {base : Heap} {C XC CC TC RC : Addr}
  (T_number_within : TopFn K mg "number_within" st_number_within)
  (T_clock_of : TopFn K mg "clock_of" st_clock_of)
  (T_metres_fit : TopFn K mg "metres_fit" st_metres_fit)
  (T_from_of : TopFn K mg "from_of" st_from_of)
  (T_till_of : TopFn K mg "till_of" st_till_of)
  (T_marked_minutes : TopFn K mg "marked_minutes" st_marked_minutes)
  (T_moment_of : TopFn K mg "moment_of" st_moment_of)
  (T_sight_of : TopFn K mg "sight_of" st_sight_of)
  (T_degree_of : TopFn K mg "degree_of" st_degree_of)
  (T_pressure_of : TopFn K mg "pressure_of" st_pressure_of)
  (T_plain_sky_of : TopFn K mg "plain_sky_of" st_plain_sky_of)
  (T_direction_fits : TopFn K mg "direction_fits" st_direction_fits)
  (T_direction_of : TopFn K mg "direction_of" st_direction_of)
  (T_wind_degrees : TopFn K mg "wind_degrees" st_wind_degrees)
  (T_gusts_of : TopFn K mg "gusts_of" st_gusts_of)
  (T_wind_fits : TopFn K mg "wind_fits" st_wind_fits)
  (T_wind_of : TopFn K mg "wind_of" st_wind_of)
  (T_sector_of : TopFn K mg "sector_of" st_sector_of)
  (T_degrees_of : TopFn K mg "degrees_of" st_degrees_of)
  (T_layer_of : TopFn K mg "layer_of" st_layer_of)
  (T_change_manner_of : TopFn K mg "change_manner_of" st_change_manner_of)
  (T_station_of : TopFn K mg "station_of" st_station_of)
  (T_demanded : TopFn K mg "demanded" st_demanded)
  (T_strength_of : TopFn K mg "strength_of" st_strength_of)
  (T_all_rain : TopFn K mg "all_rain" st_all_rain)
  (T_kinds_fit : TopFn K mg "kinds_fit" st_kinds_fit)
  (T_strength_fits : TopFn K mg "strength_fits" st_strength_fits)
  (T_manner_fits : TopFn K mg "manner_fits" st_manner_fits)
  (T_weather_fits : TopFn K mg "weather_fits" st_weather_fits)
  (T_weather_numbers : TopFn K mg "weather_numbers" st_weather_numbers)
  (T_weather_of : TopFn K mg "weather_of" st_weather_of)
  (T_changed_weather_of : TopFn K mg "changed_weather_of" st_changed_weather_of)
  (T_layer_follows : TopFn K mg "layer_follows" st_layer_follows)
  (T_take_layers : TopFn K mg "take_layers" st_take_layers)
  (T_take_sky : TopFn K mg "take_sky" st_take_sky)
  (T_take_weather : TopFn K mg "take_weather" st_take_weather)
  (T_may_have_sector : TopFn K mg "may_have_sector" st_may_have_sector)
  (T_take_wind_and_sector : TopFn K mg "take_wind_and_sector" st_take_wind_and_sector)
  (T_text_of : TopFn K mg "text_of" st_text_of)
  (T_words_of : TopFn K mg "words_of" st_words_of)
  (T_take_change : TopFn K mg "take_change" st_take_change)
  (T_take_trend : TopFn K mg "take_trend" st_take_trend)
  (T_take_report : TopFn K mg "take_report" st_take_report)
  (T_ceiling_of : TopFn K mg "ceiling_of" st_ceiling_of)
  (T_minutes_behind : TopFn K mg "minutes_behind" st_minutes_behind)
  (T_beginning_of : TopFn K mg "beginning_of" st_beginning_of)
  (T_end_of : TopFn K mg "end_of" st_end_of)
  (T_told_view : TopFn K mg "told_view" st_told_view)
  (T_changed_view : TopFn K mg "changed_view" st_changed_view)
  (T_views_at : TopFn K mg "views_at" st_views_at)
  (T_first_below : TopFn K mg "first_below" st_first_below)
  (TM_at_end : TopM K C "at_end" "Cursor.at_end" st_cu_at_end)
  (TM_word : TopM K C "word" "Cursor.word" st_cu_word)
  (TM_advance : TopM K C "advance" "Cursor.advance" st_cu_advance)
  (TM_optional : TopM K C "optional" "Cursor.optional" st_cu_optional)
  (TM_required : TopM K C "required" "Cursor.required" st_cu_required)
  (g_FROM : GV mg "FROM" (.str (Str.ofString "FM")))
  (g_TILL : GV mg "TILL" (.str (Str.ofString "TL")))
  (g_CAVOK_WORD : GV mg "CAVOK_WORD" (.str (Str.ofString "CAVOK")))
  (g_CAVOK : GV mg "CAVOK" (.int 10000))
  (g_MOST_DEGREES : GV mg "MOST_DEGREES" (.int 60))
  (g_LEAST_PRESSURE : GV mg "LEAST_PRESSURE" (.int 850))
  (g_MOST_PRESSURE : GV mg "MOST_PRESSURE" (.int 1100))
  (g_CLEAR_WORD : GV mg "CLEAR_WORD" (.str (Str.ofString "NSC")))
  (g_MOST_UPRIGHT : GV mg "MOST_UPRIGHT" (.int 100))
  (g_CLEAR : GV mg "CLEAR" (.int 0))
  (g_UPRIGHT : GV mg "UPRIGHT" (.int 1))
  (g_VARIABLE : GV mg "VARIABLE" (.int 999))
  (g_MOST_SPEED : GV mg "MOST_SPEED" (.int 99))
  (g_MOST_HUNDREDS : GV mg "MOST_HUNDREDS" (.int 300))
  (g_LETTERS : GV mg "LETTERS" (strV lettersT))
  (g_LIGHT : GV mg "LIGHT" (.int 0))
  (g_NEITHER : GV mg "NEITHER" (.int 1))
  (g_HEAVY : GV mg "HEAVY" (.int 2))
  (g_MOST_KINDS : GV mg "MOST_KINDS" (.int 3))
  (g_NO_WEATHER_WORD : GV mg "NO_WEATHER_WORD" (.str (Str.ofString "NSW")))
  (g_MOST_LAYERS : GV mg "MOST_LAYERS" (.int 4))
  (g_OVERCAST : GV mg "OVERCAST" (.int 4))
  (g_LAYERED : GV mg "LAYERED" (.int 2))
  (g_MOST_WORDS : GV mg "MOST_WORDS" (.int 3))
  (g_NO_SECTOR : GV mg "NO_SECTOR" (.int 999))
  (g_SIGNS : GV mg "SIGNS" (strV SGN))
  (g_NO_CHANGE_WORD : GV mg "NO_CHANGE_WORD" (.str (Str.ofString "NOSIG")))
  (g_NOTHING_MORE : GV mg "NOTHING_MORE" (.int 0))
  (g_NO_CHANGE : GV mg "NO_CHANGE" (.int 1))
  (g_CHANGES : GV mg "CHANGES" (.int 2))
  (g_MOST_CHANGES : GV mg "MOST_CHANGES" (.int 3))
  (g_MOST_BYTES : GV mg "MOST_BYTES" (.int 400))
  (g_OUT_OF_BOUNDS : GV mg "OUT_OF_BOUNDS" (.int (-22)))
  (g_NO_REPORT : GV mg "NO_REPORT" (.int (-71)))
  (g_BROKEN : GV mg "BROKEN" (.int 3))
  (g_NO_CEILING : GV mg "NO_CEILING" (.int 999))
  (g_MINUTES_OF_A_DAY : GV mg "MINUTES_OF_A_DAY" (.int 1440))
  (g_USUAL_LENGTH : GV mg "USUAL_LENGTH" (.int 120))
  (g_CAVOK_METRES : GV mg "CAVOK_METRES" (.int 9999))
  (g_AT_TIMES : GV mg "AT_TIMES" (.int 2))
  (g_LAST_MINUTE : GV mg "LAST_MINUTE" (.int 240))
  (g_NONE_BELOW : GV mg "NONE_BELOW" (.int (-61)))
  (tg_COVERS : TG K mg "COVERS" coversT)
  (tg_CLOUDS : TG K mg "CLOUDS" cloudsT)
  (tg_MANNERS_OF_CHANGE : TG K mg "MANNERS_OF_CHANGE" [Kwc.text "BECMG", Kwc.text "TEMPO"])
  (tg_STRENGTHS : TG K mg "STRENGTHS" [[45], [], [43]])
  (tg_RAIN_KINDS : TG K mg "RAIN_KINDS" RAIN)
  (tg_OTHER_KINDS : TG K mg "OTHER_KINDS" OTHR)
  (tg_MANNERS : TG K mg "MANNERS" MANN)
  (B : Bt mg)
  (CU : CurOk K mg C)
  (EX : ExcC K mg "NotReport" XC)
  (OCh : ChangeOk K mg CC)
  (OTr : TrendOk K mg TC)
  (ORp : ReportOk K mg RC)
  {fi : Addr}
  {fdi : FuncData}
  (MkC : Mk K C fi)
  (FI : Fun K "__init__" "Cursor.__init__" st_cu___init__ fi fdi)
  {fiCh : Addr}
  {fdiCh : FuncData}
  (MkCh : Mk K CC fiCh)
  (FICh : Fun K "__init__" "Change.__init__" st_ch___init__ fiCh fdiCh)
  {fiTr : Addr}
  {fdiTr : FuncData}
  (MkTr : Mk K TC fiTr)
  (FITr : Fun K "__init__" "Trend.__init__" st_tr___init__ fiTr fdiTr)
  {fiRp : Addr}
  {fdiRp : FuncData}
  (MkRp : Mk K RC fiRp)
  (FIRp : Fun K "__init__" "Report.__init__" st_rp___init__ fiRp fdiRp)
  {fg : Addr} {fdg : FuncData} (FG : Fun K "answer_of" "answer_of" st_answer_of fg fdg) : FnOk P w K mg base CX0 16 fg fdg ["t", "teller"] (spAns P w K mg base RC TC CC) /\ Known P w K mg base CX0 5 "first_below" ["report", "sight", "ceiling"] (spFirstB RC TC CC) := by
 have bI := FI.binds (ps := ["self", "words"]) fun _ _ _ _ _ _ us hl => match us, hl with | [_, _], _ => rfl
 have bICh := FICh.binds (ps := ["self", "manner", "begins", "ends", "wind", "sight", "weather", "sky"]) fun _ _ _ _ _ _ us hl => match us, hl with | [_, _, _, _, _, _, _, _], _ => rfl
 have bITr := FITr.binds (ps := ["self", "kind", "changes"]) fun _ _ _ _ _ _ us hl => match us, hl with | [_, _, _], _ => rfl
 have bIRp := FIRp.binds (ps := ["self", "station", "moment", "wind", "sight", "degrees", "pressure", "weather", "sky", "trend"]) fun _ _ _ _ _ _ us hl => match us, hl with | [_, _, _, _, _, _, _, _, _, _], _ => rfl
 have K_number_within := kn_nw (P := P) (w := w) (base := base) T_number_within B
 have K_clock_of := kn_clock (P := P) (w := w) (base := base) T_clock_of K_number_within
 have K_metres_fit := kn_metres (P := P) (w := w) (base := base) T_metres_fit
 have K_marked_minutes := kn_marked (P := P) (w := w) (base := base) T_marked_minutes B K_clock_of
 have K_from_of := kn_from (P := P) (w := w) (base := base) T_from_of g_FROM K_marked_minutes
 have K_till_of := kn_till (P := P) (w := w) (base := base) T_till_of g_TILL K_marked_minutes
 have K_moment_of := kn_moment (P := P) (w := w) (base := base) T_moment_of K_number_within K_clock_of
 have K_sight_of := kn_sight (P := P) (w := w) (base := base) T_sight_of g_CAVOK_WORD g_CAVOK K_number_within K_metres_fit
 have K_degree_of := kn_degree (P := P) (w := w) (base := base) T_degree_of g_MOST_DEGREES K_number_within
 have K_pressure_of := kn_press (P := P) (w := w) (base := base) T_pressure_of g_LEAST_PRESSURE g_MOST_PRESSURE K_number_within
 have K_plain_sky_of := kn_plain (P := P) (w := w) (base := base) T_plain_sky_of g_CLEAR_WORD g_MOST_UPRIGHT g_CLEAR g_UPRIGHT K_number_within
 have K_direction_fits := kn_dfits (P := P) (w := w) (base := base) T_direction_fits
 have K_direction_of := kn_direction (P := P) (w := w) (base := base) T_direction_of K_number_within K_direction_fits
 have K_wind_degrees := kn_wdeg (P := P) (w := w) (base := base) T_wind_degrees g_VARIABLE K_direction_of
 have K_gusts_of := kn_gusts (P := P) (w := w) (base := base) T_gusts_of g_MOST_SPEED K_number_within
 have K_wind_fits := kn_wfits (P := P) (w := w) (base := base) T_wind_fits
 have K_wind_of := kn_wind (P := P) (w := w) (base := base) T_wind_of g_MOST_SPEED K_number_within K_wind_degrees K_gusts_of K_wind_fits
 have K_sector_of := kn_sector (P := P) (w := w) (base := base) T_sector_of B K_direction_of
 have K_degrees_of := kn_degrees (P := P) (w := w) (base := base) T_degrees_of B K_degree_of
 have K_layer_of := kn_layer (P := P) (w := w) (base := base) T_layer_of g_MOST_HUNDREDS tg_COVERS tg_CLOUDS K_number_within
 have K_change_manner_of := kn_manner (P := P) (w := w) (base := base) T_change_manner_of tg_MANNERS_OF_CHANGE
 have K_station_of := kn_station (P := P) (w := w) (base := base) T_station_of B g_LETTERS
 have M_at_end := kn_at_end (P := P) (w := w) (base := base) (C := C) TM_at_end CU B
 have M_word := kn_word (P := P) (w := w) (base := base) (C := C) TM_word CU M_at_end
 have M_advance := kn_advance (P := P) (w := w) (base := base) (C := C) TM_advance CU
 have M_optional := kn_optional (P := P) (w := w) (base := base) (C := C) TM_optional CU M_word M_advance
 have K_demanded := kn_demanded (P := P) (w := w) (base := base) T_demanded EX
 have M_required := kn_required (P := P) (w := w) (base := base) (C := C) TM_required CU M_optional K_demanded
 have K_strength_of := kn_strength (P := P) (w := w) (base := base) T_strength_of tg_STRENGTHS g_LIGHT g_NEITHER g_HEAVY
 have K_all_rain := kn_allrain (P := P) (w := w) (base := base) T_all_rain B tg_RAIN_KINDS
 have K_kinds_fit := kn_kfit (P := P) (w := w) (base := base) T_kinds_fit B g_MOST_KINDS K_all_rain
 have K_strength_fits := kn_sfit (P := P) (w := w) (base := base) T_strength_fits B g_NEITHER tg_RAIN_KINDS
 have K_manner_fits := kn_mfit (P := P) (w := w) (base := base) T_manner_fits B K_all_rain
 have K_weather_fits := kn_wfit (P := P) (w := w) (base := base) T_weather_fits K_kinds_fit K_strength_fits K_manner_fits
 have K_weather_numbers := kn_wnum (P := P) (w := w) (base := base) T_weather_numbers B tg_RAIN_KINDS tg_OTHER_KINDS tg_MANNERS
 have K_weather_of := kn_wx (P := P) (w := w) (base := base) T_weather_of B g_NEITHER tg_RAIN_KINDS tg_OTHER_KINDS tg_MANNERS K_strength_of K_weather_fits K_weather_numbers
 have K_changed_weather_of := kn_chwx (P := P) (w := w) (base := base) T_changed_weather_of g_NO_WEATHER_WORD K_weather_of
 have K_layer_follows := kn_follows (P := P) (w := w) (base := base) T_layer_follows B g_MOST_LAYERS g_OVERCAST
 have K_take_layers := kn_layers (P := P) (w := w) (base := base) (C := C) T_take_layers CU M_word M_advance K_layer_of K_layer_follows
 have K_take_sky := kn_sky (P := P) (w := w) (base := base) (C := C) T_take_sky CU B g_LAYERED M_optional K_plain_sky_of K_take_layers
 have K_take_weather := kn_twx (XC := XC) (P := P) (w := w) (base := base) (C := C) T_take_weather CU g_MOST_WORDS M_optional K_weather_of
 have K_may_have_sector := kn_mhs (P := P) (w := w) (base := base) T_may_have_sector g_VARIABLE
 have K_take_wind_and_sector := kn_twind (P := P) (w := w) (base := base) (C := C) T_take_wind_and_sector CU g_NO_SECTOR M_optional M_required K_may_have_sector K_wind_of K_sector_of
 have K_text_of := kn_text (P := P) (w := w) (base := base) T_text_of B EX g_SIGNS
 have K_words_of := kn_words (P := P) (w := w) (base := base) T_words_of EX K_text_of
 have K_take_change := kn_tchange (P := P) (w := w) (base := base) (C := C) T_take_change CU EX OCh MkCh (ok_initChange FICh OCh) bICh g_CAVOK M_optional M_required K_change_manner_of K_from_of K_till_of K_wind_of K_sight_of K_changed_weather_of K_take_sky
 have K_take_trend := kn_ttrend (P := P) (w := w) (base := base) (C := C) T_take_trend g_NO_CHANGE_WORD CU B OTr MkTr (ok_initTrend FITr OTr) bITr g_NOTHING_MORE g_NO_CHANGE g_CHANGES g_MOST_CHANGES M_at_end M_word M_advance K_take_change
 have K_take_report := kn_report (P := P) (w := w) (base := base) (C := C) T_take_report CU EX ORp MkRp (ok_initReport FIRp ORp) bIRp g_CAVOK M_at_end M_required K_station_of K_moment_of K_take_wind_and_sector K_sight_of K_take_weather K_take_sky K_demanded K_degrees_of K_pressure_of K_take_trend
 have A_answer_of := ok_answer (P := P) (w := w) (base := base) (C := C) FG B CU EX g_MOST_BYTES g_OUT_OF_BOUNDS g_NO_REPORT MkC (ok_init FI CU) bI K_words_of K_take_report
 have K_ceiling_of := kn_ceil (P := P) (w := w) (base := base) T_ceiling_of B g_UPRIGHT g_BROKEN g_NO_CEILING
 have K_minutes_behind := kn_mb (P := P) (w := w) (base := base) T_minutes_behind g_MINUTES_OF_A_DAY
 have K_beginning_of := kn_beg (P := P) (w := w) (base := base) T_beginning_of OCh K_minutes_behind
 have K_end_of := kn_end (P := P) (w := w) (base := base) T_end_of OCh g_USUAL_LENGTH K_minutes_behind K_beginning_of
 have K_told_view := kn_tv (TC := TC) (CC := CC) (P := P) (w := w) (base := base) T_told_view ORp g_CAVOK g_CAVOK_METRES K_ceiling_of
 have K_changed_view := kn_cv (P := P) (w := w) (base := base) T_changed_view OCh g_CAVOK g_CAVOK_METRES g_NO_CEILING K_ceiling_of
 have K_views_at := kn_views (P := P) (w := w) (base := base) T_views_at ORp OTr OCh g_AT_TIMES K_told_view K_beginning_of K_end_of K_changed_view
 have K_first_below := kn_first_below (P := P) (w := w) (base := base) T_first_below B g_LAST_MINUTE g_NONE_BELOW K_views_at
 exact ⟨A_answer_of, K_first_below⟩
theorem all_mk {P : Program} {w : World} {K : PySem.W.Frag} {h : Heap} {mg : Str -> Option Value} {fa C XC CC TC RC : Addr} (X : K.In h) (G : h.Ns mainGlobals mg) (hfa : mg "first" = some (.ref fa)) {c Pt : Addr} (ht : PySem.W.tabIn K "first" = some (c, Pt))
  (T_number_within : TopFn K mg "number_within" st_number_within)
  (T_clock_of : TopFn K mg "clock_of" st_clock_of)
  (T_metres_fit : TopFn K mg "metres_fit" st_metres_fit)
  (T_from_of : TopFn K mg "from_of" st_from_of)
  (T_till_of : TopFn K mg "till_of" st_till_of)
  (T_marked_minutes : TopFn K mg "marked_minutes" st_marked_minutes)
  (T_moment_of : TopFn K mg "moment_of" st_moment_of)
  (T_sight_of : TopFn K mg "sight_of" st_sight_of)
  (T_degree_of : TopFn K mg "degree_of" st_degree_of)
  (T_pressure_of : TopFn K mg "pressure_of" st_pressure_of)
  (T_plain_sky_of : TopFn K mg "plain_sky_of" st_plain_sky_of)
  (T_direction_fits : TopFn K mg "direction_fits" st_direction_fits)
  (T_direction_of : TopFn K mg "direction_of" st_direction_of)
  (T_wind_degrees : TopFn K mg "wind_degrees" st_wind_degrees)
  (T_gusts_of : TopFn K mg "gusts_of" st_gusts_of)
  (T_wind_fits : TopFn K mg "wind_fits" st_wind_fits)
  (T_wind_of : TopFn K mg "wind_of" st_wind_of)
  (T_sector_of : TopFn K mg "sector_of" st_sector_of)
  (T_degrees_of : TopFn K mg "degrees_of" st_degrees_of)
  (T_layer_of : TopFn K mg "layer_of" st_layer_of)
  (T_change_manner_of : TopFn K mg "change_manner_of" st_change_manner_of)
  (T_station_of : TopFn K mg "station_of" st_station_of)
  (T_demanded : TopFn K mg "demanded" st_demanded)
  (T_strength_of : TopFn K mg "strength_of" st_strength_of)
  (T_all_rain : TopFn K mg "all_rain" st_all_rain)
  (T_kinds_fit : TopFn K mg "kinds_fit" st_kinds_fit)
  (T_strength_fits : TopFn K mg "strength_fits" st_strength_fits)
  (T_manner_fits : TopFn K mg "manner_fits" st_manner_fits)
  (T_weather_fits : TopFn K mg "weather_fits" st_weather_fits)
  (T_weather_numbers : TopFn K mg "weather_numbers" st_weather_numbers)
  (T_weather_of : TopFn K mg "weather_of" st_weather_of)
  (T_changed_weather_of : TopFn K mg "changed_weather_of" st_changed_weather_of)
  (T_layer_follows : TopFn K mg "layer_follows" st_layer_follows)
  (T_take_layers : TopFn K mg "take_layers" st_take_layers)
  (T_take_sky : TopFn K mg "take_sky" st_take_sky)
  (T_take_weather : TopFn K mg "take_weather" st_take_weather)
  (T_may_have_sector : TopFn K mg "may_have_sector" st_may_have_sector)
  (T_take_wind_and_sector : TopFn K mg "take_wind_and_sector" st_take_wind_and_sector)
  (T_text_of : TopFn K mg "text_of" st_text_of)
  (T_words_of : TopFn K mg "words_of" st_words_of)
  (T_take_change : TopFn K mg "take_change" st_take_change)
  (T_take_trend : TopFn K mg "take_trend" st_take_trend)
  (T_take_report : TopFn K mg "take_report" st_take_report)
  (T_ceiling_of : TopFn K mg "ceiling_of" st_ceiling_of)
  (T_minutes_behind : TopFn K mg "minutes_behind" st_minutes_behind)
  (T_beginning_of : TopFn K mg "beginning_of" st_beginning_of)
  (T_end_of : TopFn K mg "end_of" st_end_of)
  (T_told_view : TopFn K mg "told_view" st_told_view)
  (T_changed_view : TopFn K mg "changed_view" st_changed_view)
  (T_views_at : TopFn K mg "views_at" st_views_at)
  (T_first_below : TopFn K mg "first_below" st_first_below)
  (TM_at_end : TopM K C "at_end" "Cursor.at_end" st_cu_at_end)
  (TM_word : TopM K C "word" "Cursor.word" st_cu_word)
  (TM_advance : TopM K C "advance" "Cursor.advance" st_cu_advance)
  (TM_optional : TopM K C "optional" "Cursor.optional" st_cu_optional)
  (TM_required : TopM K C "required" "Cursor.required" st_cu_required)
  (g_FROM : GV mg "FROM" (.str (Str.ofString "FM")))
  (g_TILL : GV mg "TILL" (.str (Str.ofString "TL")))
  (g_CAVOK_WORD : GV mg "CAVOK_WORD" (.str (Str.ofString "CAVOK")))
  (g_CAVOK : GV mg "CAVOK" (.int 10000))
  (g_MOST_DEGREES : GV mg "MOST_DEGREES" (.int 60))
  (g_LEAST_PRESSURE : GV mg "LEAST_PRESSURE" (.int 850))
  (g_MOST_PRESSURE : GV mg "MOST_PRESSURE" (.int 1100))
  (g_CLEAR_WORD : GV mg "CLEAR_WORD" (.str (Str.ofString "NSC")))
  (g_MOST_UPRIGHT : GV mg "MOST_UPRIGHT" (.int 100))
  (g_CLEAR : GV mg "CLEAR" (.int 0))
  (g_UPRIGHT : GV mg "UPRIGHT" (.int 1))
  (g_VARIABLE : GV mg "VARIABLE" (.int 999))
  (g_MOST_SPEED : GV mg "MOST_SPEED" (.int 99))
  (g_MOST_HUNDREDS : GV mg "MOST_HUNDREDS" (.int 300))
  (g_LETTERS : GV mg "LETTERS" (strV lettersT))
  (g_LIGHT : GV mg "LIGHT" (.int 0))
  (g_NEITHER : GV mg "NEITHER" (.int 1))
  (g_HEAVY : GV mg "HEAVY" (.int 2))
  (g_MOST_KINDS : GV mg "MOST_KINDS" (.int 3))
  (g_NO_WEATHER_WORD : GV mg "NO_WEATHER_WORD" (.str (Str.ofString "NSW")))
  (g_MOST_LAYERS : GV mg "MOST_LAYERS" (.int 4))
  (g_OVERCAST : GV mg "OVERCAST" (.int 4))
  (g_LAYERED : GV mg "LAYERED" (.int 2))
  (g_MOST_WORDS : GV mg "MOST_WORDS" (.int 3))
  (g_NO_SECTOR : GV mg "NO_SECTOR" (.int 999))
  (g_SIGNS : GV mg "SIGNS" (strV SGN))
  (g_NO_CHANGE_WORD : GV mg "NO_CHANGE_WORD" (.str (Str.ofString "NOSIG")))
  (g_NOTHING_MORE : GV mg "NOTHING_MORE" (.int 0))
  (g_NO_CHANGE : GV mg "NO_CHANGE" (.int 1))
  (g_CHANGES : GV mg "CHANGES" (.int 2))
  (g_MOST_CHANGES : GV mg "MOST_CHANGES" (.int 3))
  (g_MOST_BYTES : GV mg "MOST_BYTES" (.int 400))
  (g_OUT_OF_BOUNDS : GV mg "OUT_OF_BOUNDS" (.int (-22)))
  (g_NO_REPORT : GV mg "NO_REPORT" (.int (-71)))
  (g_BROKEN : GV mg "BROKEN" (.int 3))
  (g_NO_CEILING : GV mg "NO_CEILING" (.int 999))
  (g_MINUTES_OF_A_DAY : GV mg "MINUTES_OF_A_DAY" (.int 1440))
  (g_USUAL_LENGTH : GV mg "USUAL_LENGTH" (.int 120))
  (g_CAVOK_METRES : GV mg "CAVOK_METRES" (.int 9999))
  (g_AT_TIMES : GV mg "AT_TIMES" (.int 2))
  (g_LAST_MINUTE : GV mg "LAST_MINUTE" (.int 240))
  (g_NONE_BELOW : GV mg "NONE_BELOW" (.int (-61)))
  (tg_COVERS : TG K mg "COVERS" coversT)
  (tg_CLOUDS : TG K mg "CLOUDS" cloudsT)
  (tg_MANNERS_OF_CHANGE : TG K mg "MANNERS_OF_CHANGE" [Kwc.text "BECMG", Kwc.text "TEMPO"])
  (tg_STRENGTHS : TG K mg "STRENGTHS" [[45], [], [43]])
  (tg_RAIN_KINDS : TG K mg "RAIN_KINDS" RAIN)
  (tg_OTHER_KINDS : TG K mg "OTHER_KINDS" OTHR)
  (tg_MANNERS : TG K mg "MANNERS" MANN)
  (B : Bt mg)
  (CU : CurOk K mg C)
  (EX : ExcC K mg "NotReport" XC)
  (OCh : ChangeOk K mg CC)
  (OTr : TrendOk K mg TC)
  (ORp : ReportOk K mg RC)
  {fi : Addr}
  {fdi : FuncData}
  (MkC : Mk K C fi)
  (FI : Fun K "__init__" "Cursor.__init__" st_cu___init__ fi fdi)
  {fiCh : Addr}
  {fdiCh : FuncData}
  (MkCh : Mk K CC fiCh)
  (FICh : Fun K "__init__" "Change.__init__" st_ch___init__ fiCh fdiCh)
  {fiTr : Addr}
  {fdiTr : FuncData}
  (MkTr : Mk K TC fiTr)
  (FITr : Fun K "__init__" "Trend.__init__" st_tr___init__ fiTr fdiTr)
  {fiRp : Addr}
  {fdiRp : FuncData}
  (MkRp : Mk K RC fiRp)
  (FIRp : Fun K "__init__" "Report.__init__" st_rp___init__ fiRp fdiRp)
  (TR : TopFn K mg "first" st_first) (TA : TopFn K mg "answer_of" st_answer_of) :
  ∃ fd : FuncData, (∀ (s : Shared) (us : List Value), us.length = (["sight", "ceiling", "t"] : List Str).length -> BindsTo s fd ⟨us, []⟩ ((["sight", "ceiling", "t"] : List Str).zip us)) /\ ∀ base : Heap, K.In base -> base.Ns mainGlobals mg -> LamBase mg c Pt base -> FnOk P w K mg base CX0 17 fa fd ["sight", "ceiling", "t"] (spFirst K Pt) := by
 obtain ⟨f, fd, m, FR⟩ := TR.ex
 cases hfa.symm.trans m
 obtain ⟨fg, fdg, mgg, FG⟩ := TA.ex
 have bg := FG.binds (ps := ["t", "teller"]) fun _ _ _ _ _ _ us hl => match us, hl with | [_, _], _ => rfl
 have all := fun b2 : Heap => all_ans (P := P) (w := w) (base := b2) T_number_within T_clock_of T_metres_fit T_from_of T_till_of T_marked_minutes T_moment_of T_sight_of T_degree_of T_pressure_of T_plain_sky_of T_direction_fits T_direction_of T_wind_degrees T_gusts_of T_wind_fits T_wind_of T_sector_of T_degrees_of T_layer_of T_change_manner_of T_station_of T_demanded T_strength_of T_all_rain T_kinds_fit T_strength_fits T_manner_fits T_weather_fits T_weather_numbers T_weather_of T_changed_weather_of T_layer_follows T_take_layers T_take_sky T_take_weather T_may_have_sector T_take_wind_and_sector T_text_of T_words_of T_take_change T_take_trend T_take_report T_ceiling_of T_minutes_behind T_beginning_of T_end_of T_told_view T_changed_view T_views_at T_first_below TM_at_end TM_word TM_advance TM_optional TM_required g_FROM g_TILL g_CAVOK_WORD g_CAVOK g_MOST_DEGREES g_LEAST_PRESSURE g_MOST_PRESSURE g_CLEAR_WORD g_MOST_UPRIGHT g_CLEAR g_UPRIGHT g_VARIABLE g_MOST_SPEED g_MOST_HUNDREDS g_LETTERS g_LIGHT g_NEITHER g_HEAVY g_MOST_KINDS g_NO_WEATHER_WORD g_MOST_LAYERS g_OVERCAST g_LAYERED g_MOST_WORDS g_NO_SECTOR g_SIGNS g_NO_CHANGE_WORD g_NOTHING_MORE g_NO_CHANGE g_CHANGES g_MOST_CHANGES g_MOST_BYTES g_OUT_OF_BOUNDS g_NO_REPORT g_BROKEN g_NO_CEILING g_MINUTES_OF_A_DAY g_USUAL_LENGTH g_CAVOK_METRES g_AT_TIMES g_LAST_MINUTE g_NONE_BELOW tg_COVERS tg_CLOUDS tg_MANNERS_OF_CHANGE tg_STRENGTHS tg_RAIN_KINDS tg_OTHER_KINDS tg_MANNERS B CU EX OCh OTr ORp MkC FI MkCh FICh MkTr FITr MkRp FIRp FG
 have hcd : fd.code = .ref c := by
  obtain ⟨oc, od, kV, doc, pm, an, cdv, ct, osl, rfl, lk, _⟩ := FR.ex
  exact PySem.W.law_code X G ht m (X _ _ lk) rfl
 refine ⟨fd, ?_, fun base _ _ LB => ok_first FR hcd LB  mgg FG.kp bg (fun b2 => (all b2).1) (fun b2 => (all b2).2)⟩
 obtain ⟨oc, od, kV, doc, pm, an, cdv, ct, osl, rfl, lk, hcd⟩ := FR.ex
 exact fun s us hu => match us, hu with | [_, _, _], _ => .of_eq rfl
end My
end
namespace PySem.Challenge.cw_weathercode_s04_first_holds
theorem tw5175417045674882571 : True := trivial
theorem tw5771552876796900140 : True := trivial
theorem tw13575507068776227689 : True := trivial
theorem tw6130583590891531477 : True := trivial
theorem tw12420438314927211552 : True := trivial
theorem tw358795594333533041 : True := trivial
theorem tw6741624416277005946 : True := trivial
theorem tw4566490018319071316 : True := trivial
theorem tw18345583168873413555 : True := trivial
theorem tw10071679849321833299 : True := trivial
theorem tw9906500516842631825 : True := trivial
theorem tw11069820743750813193 : True := trivial
theorem tw3783953604505540028 : True := trivial
theorem tw8677714761078653781 : True := trivial
theorem tw877197589309837225 : True := trivial
theorem tw11400823757500627481 : True := trivial
theorem tw15266205768850228741 : True := trivial
theorem tw12211350979858432485 : True := trivial
theorem tw6030551994871296098 : True := trivial
theorem tw1035950134135630221 : True := trivial
theorem tw15328294105051139794 : True := trivial
theorem tw17377643477066767928 : True := trivial
theorem tw15682018532019258865 : True := trivial
theorem tw13555665951786320142 : True := trivial
theorem tw8637800772255442003 : True := trivial
theorem tw16546637606484341273 : True := trivial
theorem tw15484834066634935416 : True := trivial
theorem tw314535249617613471 : True := trivial
theorem tw11886565927588856063 : True := trivial
theorem tw15872829090030877622 : True := trivial
theorem tw17225182084493809496 : True := trivial
theorem tw1853780182290458817 : True := trivial
theorem tw9089870180267348344 : True := trivial
theorem tw17273398353106385692 : True := trivial
theorem tw3491862073872721991 : True := trivial
theorem tw11678362367889508023 : True := trivial
theorem tw8172036289037417479 : True := trivial
theorem tw7283713185602899868 : True := trivial
theorem tw9272552122651732410 : True := trivial
theorem tw6408831110745097836 : True := trivial
theorem tw17425127621641908056 : True := trivial
theorem tw16222094025182022813 : True := trivial
theorem tw8422344249448733091 : True := trivial
theorem tw7545738618377022311 : True := trivial
theorem tw8613645904908091506 : True := trivial
theorem tw16038602135360187490 : True := trivial
theorem tw5319071725943129853 : True := trivial
theorem tw2883832757171890339 : True := trivial
theorem tw3797851681711126773 : True := trivial
theorem tw16795329203115311722 : True := trivial
theorem tw6738110084817611941 : True := trivial
theorem tw7828057558361208362 : True := trivial
theorem tw15280270200070475949 : True := trivial
theorem tw13087248891404892903 : True := trivial
theorem tw6665228257622070561 : True := trivial
theorem tw12735335036272108302 : True := trivial
theorem tw10170439722056117765 : True := trivial
theorem tw4149389526925655409 : True := trivial
theorem tw3910937131427406204 : True := trivial
theorem tw11477777249726573477 : True := trivial
end PySem.Challenge.cw_weathercode_s04_first_holds
open PySem PySem.W PyProof.Rows
local macro_rules | `(tactic| walk_at "tf") => `(tactic| (refine' My.tf (by assumption) (by assumption) ?a ?l ?c ?k; (case a => k_is); (case l => k_is); (case c => k_is); (case k => k_is)))
local macro_rules | `(tactic| walk_at "tm") => `(tactic| (refine' My.tm ?a ?i ?l ?c ?k; (case a => k_is); (case i => k_is); (case l => k_is); (case c => k_is); (case k => k_is)))
local macro_rules | `(tactic| walk_at "fm") => `(tactic| (refine' L2.fun_mk ?l ?c ?k; (case l => k_is); (case c => k_is); (case k => k_is)))
local macro_rules | `(tactic| walk_at "gi") => `(tactic| (refine' My.gvi (by assumption) (by assumption) ?a; (case a => k_is)))
local macro_rules | `(tactic| walk_at "gs") => `(tactic| (refine' My.gvt (by assumption) (by assumption) ?a ?e; (case a => k_is); (case e => exact rfl)))
local macro_rules | `(tactic| walk_at "tg") => `(tactic| (refine' My.tgv (by assumption) (by assumption) ?a ?l ?z ?v; (case a => k_is); (case l => k_is); (case z => first | decide +kernel | exact Nat.le_of_ble_eq_true rfl); (case v => (repeat' constructor))))
set_option maxRecDepth 100000 in
set_option maxHeartbeats 0 in
theorem PySem.Challenge.cw_weathercode_s04_first_holds : PySem.Challenge.rw_weathercode_s04_first.Holds := by
 w_on; k_headS; (case hw => exact ⟨[.int 0, .int 0, .list []], by decide +kernel, by decide +kernel⟩)
 k_fillS
 refine' L2.walk_specL (r := PySem.Challenge.rw_weathercode_s04_first) (k := 17) (ps := ["sight", "ceiling", "t"]) (sp := fun K => My.spFirst K _) (by decide +kernel) rfl rfl ⟨rfl, by decide, by decide⟩ (fun w h Y => PySem.W.kIn_of Y) ?hRec ?hTab ?hNot ?hCst ?hFun ?hSpc
 case hRec => first | exact rfl | decide +kernel
 case hTab => intro w; first | k_is | exact rfl
 case hNot => intro w; first | exact rfl | decide +kernel
 case hCst => first | decide | decide +kernel
 case hFun =>
  intro w mg fa h Y KX G hmg
  refine' My.all_mk KX G hmg ?ht ?T_number_within ?T_clock_of ?T_metres_fit ?T_from_of ?T_till_of ?T_marked_minutes ?T_moment_of ?T_sight_of ?T_degree_of ?T_pressure_of ?T_plain_sky_of ?T_direction_fits ?T_direction_of ?T_wind_degrees ?T_gusts_of ?T_wind_fits ?T_wind_of ?T_sector_of ?T_degrees_of ?T_layer_of ?T_change_manner_of ?T_station_of ?T_demanded ?T_strength_of ?T_all_rain ?T_kinds_fit ?T_strength_fits ?T_manner_fits ?T_weather_fits ?T_weather_numbers ?T_weather_of ?T_changed_weather_of ?T_layer_follows ?T_take_layers ?T_take_sky ?T_take_weather ?T_may_have_sector ?T_take_wind_and_sector ?T_text_of ?T_words_of ?T_take_change ?T_take_trend ?T_take_report ?T_ceiling_of ?T_minutes_behind ?T_beginning_of ?T_end_of ?T_told_view ?T_changed_view ?T_views_at ?T_first_below ?TM_at_end ?TM_word ?TM_advance ?TM_optional ?TM_required ?g_FROM ?g_TILL ?g_CAVOK_WORD ?g_CAVOK ?g_MOST_DEGREES ?g_LEAST_PRESSURE ?g_MOST_PRESSURE ?g_CLEAR_WORD ?g_MOST_UPRIGHT ?g_CLEAR ?g_UPRIGHT ?g_VARIABLE ?g_MOST_SPEED ?g_MOST_HUNDREDS ?g_LETTERS ?g_LIGHT ?g_NEITHER ?g_HEAVY ?g_MOST_KINDS ?g_NO_WEATHER_WORD ?g_MOST_LAYERS ?g_OVERCAST ?g_LAYERED ?g_MOST_WORDS ?g_NO_SECTOR ?g_SIGNS ?g_NO_CHANGE_WORD ?g_NOTHING_MORE ?g_NO_CHANGE ?g_CHANGES ?g_MOST_CHANGES ?g_MOST_BYTES ?g_OUT_OF_BOUNDS ?g_NO_REPORT ?g_BROKEN ?g_NO_CEILING ?g_MINUTES_OF_A_DAY ?g_USUAL_LENGTH ?g_CAVOK_METRES ?g_AT_TIMES ?g_LAST_MINUTE ?g_NONE_BELOW ?tg_COVERS ?tg_CLOUDS ?tg_MANNERS_OF_CHANGE ?tg_STRENGTHS ?tg_RAIN_KINDS ?tg_OTHER_KINDS ?tg_MANNERS ?B ?CU ?EX ?OCh ?OTr ?ORp ?MkC ?FI ?MkCh ?FICh ?MkTr ?FITr ?MkRp ?FIRp ?TR ?TA
  (case CU => refine' ⟨⟨?_, ?_, ?_, ?_⟩, ?_, ?_, PySem.W.mg_of KX G ?m⟩; (case m => k_is); all_goals first | k_is | (unfold L2.NoAttr; k_is))
  (case OCh => refine' ⟨⟨?_, ?_, ?_, ?_⟩, ?_, ?_, ?_, ?_, ?_, ?_, ?_, PySem.W.mg_of KX G ?m⟩; (case m => k_is); all_goals first | k_is | (unfold L2.NoAttr; k_is))
  (case OTr => refine' ⟨⟨?_, ?_, ?_, ?_⟩, ?_, ?_, PySem.W.mg_of KX G ?m⟩; (case m => k_is); all_goals first | k_is | (unfold L2.NoAttr; k_is))
  (case ORp => refine' ⟨⟨?_, ?_, ?_, ?_⟩, ?_, ?_, ?_, ?_, ?_, ?_, ?_, ?_, ?_, PySem.W.mg_of KX G ?m⟩; (case m => k_is); all_goals first | k_is | (unfold L2.NoAttr; k_is))
  (case EX => refine' ⟨PySem.W.mg_of KX G ?m, ?e⟩; (case m => k_is); (case e => k_exc))
  (case B => refine' ⟨PySem.W.mg_none_of KX G ?_, PySem.W.mg_none_of KX G ?_, PySem.W.mg_none_of KX G ?_, PySem.W.mg_none_of KX G ?_, PySem.W.mg_none_of KX G ?_, PySem.W.mg_none_of KX G ?_, PySem.W.mg_none_of KX G ?_, PySem.W.mg_none_of KX G ?_, PySem.W.mg_none_of KX G ?_⟩ <;> k_is)
  (case MkC => refine' ⟨?_, ?i, ?_, ?_⟩; (case i => k_is); all_goals k_is)
  (case FI => walk_at "fm")
  (case MkCh => refine' ⟨?_, ?i, ?_, ?_⟩; (case i => k_is); all_goals k_is)
  (case FICh => walk_at "fm")
  (case MkTr => refine' ⟨?_, ?i, ?_, ?_⟩; (case i => k_is); all_goals k_is)
  (case FITr => walk_at "fm")
  (case MkRp => refine' ⟨?_, ?i, ?_, ?_⟩; (case i => k_is); all_goals k_is)
  (case FIRp => walk_at "fm")
  (case ht => exact rfl)
  (case T_number_within => walk_at "tf")
  (case T_clock_of => walk_at "tf")
  (case T_metres_fit => walk_at "tf")
  (case T_from_of => walk_at "tf")
  (case T_till_of => walk_at "tf")
  (case T_marked_minutes => walk_at "tf")
  (case T_moment_of => walk_at "tf")
  (case T_sight_of => walk_at "tf")
  (case T_degree_of => walk_at "tf")
  (case T_pressure_of => walk_at "tf")
  (case T_plain_sky_of => walk_at "tf")
  (case T_direction_fits => walk_at "tf")
  (case T_direction_of => walk_at "tf")
  (case T_wind_degrees => walk_at "tf")
  (case T_gusts_of => walk_at "tf")
  (case T_wind_fits => walk_at "tf")
  (case T_wind_of => walk_at "tf")
  (case T_sector_of => walk_at "tf")
  (case T_degrees_of => walk_at "tf")
  (case T_layer_of => walk_at "tf")
  (case T_change_manner_of => walk_at "tf")
  (case T_station_of => walk_at "tf")
  (case T_demanded => walk_at "tf")
  (case T_strength_of => walk_at "tf")
  (case T_all_rain => walk_at "tf")
  (case T_kinds_fit => walk_at "tf")
  (case T_strength_fits => walk_at "tf")
  (case T_manner_fits => walk_at "tf")
  (case T_weather_fits => walk_at "tf")
  (case T_weather_numbers => walk_at "tf")
  (case T_weather_of => walk_at "tf")
  (case T_changed_weather_of => walk_at "tf")
  (case T_layer_follows => walk_at "tf")
  (case T_take_layers => walk_at "tf")
  (case T_take_sky => walk_at "tf")
  (case T_take_weather => walk_at "tf")
  (case T_may_have_sector => walk_at "tf")
  (case T_take_wind_and_sector => walk_at "tf")
  (case T_text_of => walk_at "tf")
  (case T_words_of => walk_at "tf")
  (case T_take_change => walk_at "tf")
  (case T_take_trend => walk_at "tf")
  (case T_take_report => walk_at "tf")
  (case T_ceiling_of => walk_at "tf")
  (case T_minutes_behind => walk_at "tf")
  (case T_beginning_of => walk_at "tf")
  (case T_end_of => walk_at "tf")
  (case T_told_view => walk_at "tf")
  (case T_changed_view => walk_at "tf")
  (case T_views_at => walk_at "tf")
  (case T_first_below => walk_at "tf")
  (case TR => walk_at "tf")
  (case TA => walk_at "tf")
  (case TM_at_end => walk_at "tm")
  (case TM_word => walk_at "tm")
  (case TM_advance => walk_at "tm")
  (case TM_optional => walk_at "tm")
  (case TM_required => walk_at "tm")
  (case g_FROM => walk_at "gs")
  (case g_TILL => walk_at "gs")
  (case g_CAVOK_WORD => walk_at "gs")
  (case g_CAVOK => walk_at "gi")
  (case g_MOST_DEGREES => walk_at "gi")
  (case g_LEAST_PRESSURE => walk_at "gi")
  (case g_MOST_PRESSURE => walk_at "gi")
  (case g_CLEAR_WORD => walk_at "gs")
  (case g_MOST_UPRIGHT => walk_at "gi")
  (case g_CLEAR => walk_at "gi")
  (case g_UPRIGHT => walk_at "gi")
  (case g_VARIABLE => walk_at "gi")
  (case g_MOST_SPEED => walk_at "gi")
  (case g_MOST_HUNDREDS => walk_at "gi")
  (case g_LETTERS => walk_at "gs")
  (case g_LIGHT => walk_at "gi")
  (case g_NEITHER => walk_at "gi")
  (case g_HEAVY => walk_at "gi")
  (case g_MOST_KINDS => walk_at "gi")
  (case g_NO_WEATHER_WORD => walk_at "gs")
  (case g_MOST_LAYERS => walk_at "gi")
  (case g_OVERCAST => walk_at "gi")
  (case g_LAYERED => walk_at "gi")
  (case g_MOST_WORDS => walk_at "gi")
  (case g_NO_SECTOR => walk_at "gi")
  (case g_SIGNS => walk_at "gs")
  (case g_NO_CHANGE_WORD => walk_at "gs")
  (case g_NOTHING_MORE => walk_at "gi")
  (case g_NO_CHANGE => walk_at "gi")
  (case g_CHANGES => walk_at "gi")
  (case g_MOST_CHANGES => walk_at "gi")
  (case g_MOST_BYTES => walk_at "gi")
  (case g_OUT_OF_BOUNDS => walk_at "gi")
  (case g_NO_REPORT => walk_at "gi")
  (case g_BROKEN => walk_at "gi")
  (case g_NO_CEILING => walk_at "gi")
  (case g_MINUTES_OF_A_DAY => walk_at "gi")
  (case g_USUAL_LENGTH => walk_at "gi")
  (case g_CAVOK_METRES => walk_at "gi")
  (case g_AT_TIMES => walk_at "gi")
  (case g_LAST_MINUTE => walk_at "gi")
  (case g_NONE_BELOW => walk_at "gi")
  (case tg_COVERS => walk_at "tg")
  (case tg_CLOUDS => walk_at "tg")
  (case tg_MANNERS_OF_CHANGE => walk_at "tg")
  (case tg_STRENGTHS => walk_at "tg")
  (case tg_RAIN_KINDS => walk_at "tg")
  (case tg_OTHER_KINDS => walk_at "tg")
  (case tg_MANNERS => walk_at "tg")
 case hSpc =>
  intro K H H2 xs a hs2 hP2 hwi hask hx
  cases hx with
  | cons h1 h2 =>
   cases h2 with
   | cons h3 h4 =>
    cases h4 with
    | cons h5 h6 =>
     cases h6
     cases h1
     cases h3
     cases h5 with
     | lst hs ha =>
      have e := L2.ints_dw a.2.2.1 _ ha
      subst e
      have q : (Codec.inInt 0 4294967295 a.1 && (Codec.inInt 0 4294967295 a.2.1 && ((Codec.inLen 0 500 a.2.2.1 && a.2.2.1.all (Codec.inInt 0 255)) && true))) = true := hwi
      rw [Bool.and_eq_true, Bool.and_eq_true, Bool.and_eq_true, Bool.and_eq_true] at q
      refine My.first_req (hs2.seq hs) (Codec.inInt_iff.mp q.1).1 (Codec.inInt_iff.mp q.2.1).1 (fun z hz => ?_) (Codec.inNat_iff.mp q.2.2.1.1).2 hP2 (fun H' p hp => .lst (L2.SqL.of hp) (L2.dw_ints _))
      have := List.all_eq_true.mp q.2.2.1.2 z hz
      exact (Codec.inInt_iff.mp this).1
