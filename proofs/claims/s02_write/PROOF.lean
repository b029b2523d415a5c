import PyProof.Rows.All
import Wide.All
import OpenK.AllK
import Wide.FinOn
import PyProof.EqAt
import PyProof.EqKinds
import PyProof.TupleCall
import KE.BitLaws
import Open.SpecLaws
import KE.OsHead
import KE.OsGo
import KE.SpHead
import KE.OsShapes
import KwcSpec
import PyKwc
import PySem.Challenge.RW_weathercode_s02_write
section
set_option Elab.async false
set_option linter.all false
set_option maxRecDepth 100000
namespace L2
open PySem PySem.Spec PyProof.Rows
abbrev Key := Sum Int Str
def keyIs : Key → Value → Bool
  | .inl k, v => Value.isInt k v
  | .inr x, v => Value.isStrOf x v
def keyH (w : World) : Key → Int
  | .inl k => hashInt k
  | .inr x => hashStr w x
theorem keyIs_shape : ∀ {k : Key} {v : Value}, keyIs k v = true → (∃ i t, k = Sum.inl i ∧ v = Value.int i t) ∨ (∃ x t, k = Sum.inr x ∧ v = Value.str x t)
  | .inl i, v, h => by
    obtain ⟨t, e⟩ := Value.isInt_shape (k := i) (v := v) h
    exact .inl ⟨i, t, rfl, e⟩
  | .inr x, v, h => by
    obtain ⟨t, e⟩ := Value.isStrOf_shape (x := x) (v := v) h
    exact .inr ⟨x, t, rfl, e⟩
theorem key_ll (a b : Int) : decide ((Sum.inl a : Key) = Sum.inl b) = (a == b) := by
  by_cases e : a = b
  · subst e; simp
  · have h : ¬ (Sum.inl a : Key) = Sum.inl b := fun q => e (Sum.inl.inj q)
    rw [decide_eq_false h]
    exact (beq_eq_false_iff_ne.mpr e).symm
theorem key_rr (a b : Str) : decide ((Sum.inr a : Key) = Sum.inr b) = decide (a = b) := by
  by_cases e : a = b
  · subst e; simp
  · have h : ¬ (Sum.inr a : Key) = Sum.inr b := fun q => e (Sum.inr.inj q)
    rw [decide_eq_false h, decide_eq_false e]
theorem key_lr (a : Int) (b : Str) : decide ((Sum.inl a : Key) = Sum.inr b) = false := decide_eq_false (fun q => nomatch q)
theorem key_rl (a : Str) (b : Int) : decide ((Sum.inr a : Key) = Sum.inl b) = false := decide_eq_false (fun q => nomatch q)
def mixKind (prog : Program) (w : World) : PySem.KeyKind prog w Key where
  is := keyIs
  hash := keyH w
  inj := fun v a b ha hb => by
    rcases keyIs_shape ha with ⟨i, t, rfl, rfl⟩ | ⟨x, t, rfl, rfl⟩
    · rcases keyIs_shape hb with ⟨j, u, rfl, e⟩ | ⟨y, u, rfl, e⟩
      · injection e with e1 _; rw [e1]
      · exact nomatch e
    · rcases keyIs_shape hb with ⟨j, u, rfl, e⟩ | ⟨y, u, rfl, e⟩
      · exact nomatch e
      · injection e with e1 _; rw [e1]
  byValue := fun k v h => by
    rcases keyIs_shape h with ⟨i, t, rfl, rfl⟩ | ⟨x, t, rfl, rfl⟩ <;> rfl
  pyHash := fun hv h => by
    rcases keyIs_shape hv with ⟨i, t, rfl, rfl⟩ | ⟨x, t, rfl, rfl⟩
    · exact wpAny_pyHash_int h
    · exact wpAny_pyHash_str h
  eqBool := fun hu hv h => by
    rcases keyIs_shape hu with ⟨i, t, rfl, rfl⟩ | ⟨x, t, rfl, rfl⟩
    · rcases keyIs_shape hv with ⟨j, u, rfl, rfl⟩ | ⟨y, u, rfl, rfl⟩
      · rw [key_ll] at h; exact wpAny_eqBool_int h
      · rw [key_lr] at h; exact SeqAt.EqAt.int_str i t y u _ _ _ _ h
    · rcases keyIs_shape hv with ⟨j, u, rfl, rfl⟩ | ⟨y, u, rfl, rfl⟩
      · rw [key_rl] at h; exact SeqAt.EqAt.str_int x t j u _ _ _ _ h
      · rw [key_rr] at h; exact wpAny_eqBool_str h
  «strs» := fun k x t v h => by
    rcases keyIs_shape h with ⟨i, u, rfl, e⟩ | ⟨y, u, rfl, e⟩
    · exact nomatch e
    · injection e with e1 _
      subst e1
      cases v <;> rfl
end L2
namespace L2
open PySem PySem.Spec PyProof.Rows
inductive V where
  | non | bl (b : Bool) | int (i : Int) | str (x : Str) | byt (b : Array UInt8) | flt (b : UInt64) | ref (a : Addr) | ty (n : String)
  deriving DecidableEq
def RelV : V → Value → Prop
  | .non, u => u = Value.none
  | .bl b, u => u = Value.bool b
  | .int i, u => ∃ t, u = Value.int i t
  | .str x, u => ∃ t, u = Value.str x t
  | .byt b, u => ∃ t, u = Value.bytes b t
  | .flt b, u => ∃ t, u = Value.float b t
  | .ref a, u => u = Value.ref a
  | .ty n, u => u = Value.type n
abbrev Vals : List V → List Value → Prop := Paired RelV
theorem Vals.length {xs : List V} {us : List Value} (r : Vals xs us) : xs.length = us.length := Paired.length r
theorem Vals.get : ∀ {xs : List V} {us : List Value} {i : Nat} {x : V}, Vals xs us → xs[i]? = some x → ∃ u, us[i]? = some u ∧ RelV x u
  | _, _, _, _, .nil, e => by simp at e
  | _, _, 0, _, .cons r _, e => by simp at e; subst e; exact ⟨_, rfl, r⟩
  | _, _, i + 1, x, .cons _ t, e => by
    obtain ⟨u, h1, h2⟩ := Vals.get (i := i) (x := x) t (by simpa using e)
    exact ⟨u, by simpa using h1, h2⟩
theorem Vals.append : ∀ {xs ys : List V} {us ws : List Value}, Vals xs us → Vals ys ws → Vals (xs ++ ys) (us ++ ws)
  | _, _, _, _, .nil, s => s
  | _, _, _, _, .cons r t, s => .cons r (Vals.append t s)
def RelO : Option V → Option Value → Prop
  | some v, some u => RelV v u
  | none, none => True
  | _, _ => False
def KV {κ : Type} : List (κ × V) → List (κ × Value) → Prop := Paired fun (p : κ × V) (q : κ × Value) => p.1 = q.1 ∧ RelV p.2 q.2
def kV : Key → V
  | .inl i => .int i
  | .inr x => .str x
inductive HO where
  /-- a list -/
  | lst (xs : List V)
  /-- a tuple (never changes) -/
  | tup (xs : List V)
  /-- a dict whose keys are ints and texts; one whose keys are tuples of ints and texts (the empty one is both) -/
  | dK (kvs : List (Key × V)) | dT (kvs : List (List Key × V))
  /-- a set of ints: its members, its size -/
  | set (S : Int → Bool) (n : Nat)
  /-- an instance of the class at C, its dict at dx, its attributes -/
  | ins (C dx : Addr) (fs : List (Str × V))
  /-- the dict of the instance at x -/
  | own (x : Addr)
  /-- the dict of an exception -/
  | xd (fs : List (Str × V))
  /-- a bound method, f of x -/
  | met (f x : Addr)
  /-- a range object lo, lo + 1, .. below hi -/
  | rng (lo hi : Int)
  /-- a thing that is known to the object (the script; a dict while a loop walks it): read, never written while it is so -/
  | frz (o : Obj) (u : HO)
  /-- a code object's table -/
  | tbl (ps : Array Value)
  /-- any other thing, by what is true of its one object (a def of one's own: SetO a S n := HO.ext fun h => ..) -/
  | ext (φ : Heap → Prop)
abbrev Hp := Addr → Option HO
def upd (H : Hp) (a : Addr) (o : HO) : Hp := fun b => if b = a then some o else H b
theorem upd_same {H : Hp} {a : Addr} {o : HO} : upd H a o a = some o := by unfold upd; rw [if_pos rfl]
theorem upd_ne {H : Hp} {a b : Addr} {o : HO} (h : b ≠ a) : upd H a o b = H b := by unfold upd; rw [if_neg h]
theorem ne_of_none {H : Hp} {a b : Addr} {o : HO} (h : H a = some o) (h' : H b = none) : a ≠ b := by
  intro e; subst e; rw [h] at h'; cases h'
section
variable (P : Program) (w : World)
def ObjOk (H : Hp) (h : Heap) (a : Addr) : HO → Prop
  | .lst xs => xs.length ≤ sizeLine ∧ ∃ (its : List Value) (n : Nat), Vals xs its ∧ h.get? a = some { cls := .type "list", data := .seq its.toArray n }
  | .tup xs => xs.length ≤ sizeLine ∧ ∃ its : List Value, Vals xs its ∧ IsTup h a its.toArray
  | .dK kvs => kvs.length ≤ sizeLine ∧ (a == sysModules) = false ∧ ∃ vs, KV kvs vs ∧ h.DictOf (mixKind P w) a vs
  | .dT kvs => kvs.length ≤ sizeLine ∧ (a == sysModules) = false ∧ ∃ xs : List (List Key × Addr × Value),
      Paired (fun (p : List Key × V) (q : List Key × Addr × Value) => p.1 = q.1 ∧ H q.2.1 = some (.tup (p.1.map kV)) ∧ RelV p.2 q.2.2) kvs xs ∧
      ∃ o es ep, h.get? a = some o ∧ o.ExactDict ∧ o.data = .dict es ep ∧ es.toList = xs.map (entryOfKey (tupleKind (mixKind P w))) ∧ (xs.map (·.1)).Nodup
  | .set S n => h.SetOf (intKind P w) a S n
  | .ins C dx fs => H dx = some (.own a) ∧ fs.length ≤ 1000 ∧ dx ≠ a ∧ h.get? a = some (PySem.W.instObj C dx) ∧
      ∃ mA, h.Ns1 dx mA ∧ (∀ f, RelO (fs.lookup f) (mA f)) ∧ PySem.Within mA (fs.map (·.1))
  | .own _ => ∃ o, h.get? a = some o
  | .xd fs => ∃ mA, h.Ns1 a mA ∧ ∀ f, RelO (fs.lookup f) (mA f)
  | .rng lo hi => ∃ t u v, h.get? a = some { cls := .type "range", data := .fields #[.int lo t, .int hi u, .int 1 v] }
  | .frz o u => h.get? a = some o ∧ ObjOk H h a u
  | .tbl ps => h.get? a = some { cls := .none, data := .fields ps }
  | .met f x => h.get? a = some (PySem.W.methodObj (.ref f) (.ref x))
  | .ext φ => φ h ∧ (∃ o, h.get? a = some o) ∧ ∀ h1 h2 : Heap, φ h1 → (∀ o, h1.get? a = some o → h2.get? a = some o) → φ h2
def HOk (H : Hp) (h : Heap) : Prop := ∀ a o, H a = some o → ObjOk P w H h a o
end
section
variable {P : Program} {w : World} {H H' : Hp} {h h' : Heap} {a : Addr} {o : HO}
theorem ObjOk.lt (x : ObjOk P w H h a o) : a < h.objs.size := by
  cases o with
  | lst xs => obtain ⟨_, _, _, _, e⟩ := x; exact Heap.lt_size e
  | tup xs => obtain ⟨_, _, _, p⟩ := x; exact p.lt
  | dK kvs => obtain ⟨_, _, _, _, o, _, _, e, _⟩ := x; exact Heap.lt_size e
  | dT kvs => obtain ⟨_, _, _, _, o, _, _, e, _⟩ := x; exact Heap.lt_size e
  | set S n => obtain ⟨o, _, _, _, e, _⟩ := x; exact Heap.lt_size e
  | ins C dx fs => obtain ⟨_, _, _, e, _⟩ := x; exact Heap.lt_size e
  | own y => obtain ⟨_, e⟩ := x; exact Heap.lt_size e
  | xd fs => obtain ⟨_, ⟨_, _, _, e, _⟩, _⟩ := x; exact Heap.lt_size e
  | rng lo hi => obtain ⟨_, _, _, e⟩ := x; exact Heap.lt_size e
  | frz ob u => obtain ⟨e, _⟩ := x; exact Heap.lt_size e
  | tbl ps => exact Heap.lt_size (show h.get? a = some _ from x)
  | met f y => exact Heap.lt_size (show h.get? a = some _ from x)
  | ext φ => obtain ⟨_, ⟨_, e⟩, _⟩ := x; exact Heap.lt_size e
theorem Paired.mapP {α β : Type} {F G : α → β → Prop} : ∀ {l₁ : List α} {l₂ : List β}, Paired F l₁ l₂ → (∀ a b, F a b → G a b) → Paired G l₁ l₂
  | _, _, .nil, _ => .nil
  | _, _, .cons r t, f => .cons (f _ _ r) (Paired.mapP t f)
theorem ObjOk.stay (x : ObjOk P w H h a o) (k : ∀ b u, (b = a ∨ H b = some (.own a)) → h.get? b = some u → h'.get? b = some u)
    (ho : ∀ b, H b = some (.own a) → H' b = some (.own a)) (ht : ∀ b xs, H b = some (.tup xs) → H' b = some (.tup xs)) : ObjOk P w H' h' a o := by
  induction o with
  | lst xs => obtain ⟨z, its, n, r, e⟩ := x; exact ⟨z, its, n, r, k _ _ (.inl rfl) e⟩
  | tup xs => obtain ⟨z, its, r, ob, e, c⟩ := x; exact ⟨z, its, r, ob, k _ _ (.inl rfl) e, c⟩
  | dK kvs => obtain ⟨z, y, vs, r, ob, es, ep, e, c⟩ := x; exact ⟨z, y, vs, r, ob, es, ep, k _ _ (.inl rfl) e, c⟩
  | dT kvs =>
    obtain ⟨z, y, xs, r, ob, es, ep, e, c⟩ := x
    exact ⟨z, y, xs, Paired.mapP r fun p q z => ⟨z.1, ht _ _ z.2.1, z.2.2⟩, ob, es, ep, k _ _ (.inl rfl) e, c⟩
  | set S n => obtain ⟨ob, es, ep, t, e, c⟩ := x; exact ⟨ob, es, ep, t, k _ _ (.inl rfl) e, c⟩
  | ins C dx fs =>
    obtain ⟨d, z, ne, e, mA, ⟨od, es, ep, e2, c⟩, r⟩ := x
    exact ⟨ho _ d, z, ne, k _ _ (.inl rfl) e, mA, ⟨od, es, ep, k _ _ (.inr d) e2, c⟩, r⟩
  | own y => obtain ⟨ob, e⟩ := x; exact ⟨ob, k _ _ (.inl rfl) e⟩
  | xd fs => obtain ⟨mA, ⟨od, es, ep, e, c⟩, r⟩ := x; exact ⟨mA, ⟨od, es, ep, k _ _ (.inl rfl) e, c⟩, r⟩
  | rng lo hi => obtain ⟨t, u, v, e⟩ := x; exact ⟨t, u, v, k _ _ (.inl rfl) e⟩
  | frz ob u ih => obtain ⟨e, q⟩ := x; exact ⟨k _ _ (.inl rfl) e, ih q⟩
  | tbl ps =>
    have e : h.get? a = some { cls := .none, data := .fields ps } := x
    show h'.get? a = some { cls := .none, data := .fields ps }
    exact k a _ (.inl rfl) e
  | met f y =>
    have e : h.get? a = some (PySem.W.methodObj (.ref f) (.ref y)) := x
    show h'.get? a = some (PySem.W.methodObj (.ref f) (.ref y))
    exact k a _ (.inl rfl) e
  | ext φ => obtain ⟨p, ⟨o, e⟩, st⟩ := x; exact ⟨st _ _ p fun o q => k _ _ (.inl rfl) q, ⟨o, k _ _ (.inl rfl) e⟩, st⟩
theorem HOk.lt (x : HOk P w H h) (e : H a = some o) : a < h.objs.size := (x a o e).lt
theorem HOk.fresh (x : HOk P w H h) (e : h.objs.size ≤ a) : H a = none := by
  cases q : H a with
  | none => rfl
  | some u => exact absurd (Nat.lt_of_lt_of_le (x.lt q) e) (Nat.lt_irrefl _)
theorem HOk.kept (x : HOk P w H h) (k : ∀ b u, h.get? b = some u → h'.get? b = some u) : HOk P w H h' := fun a o e =>
  (x a o e).stay (fun b u _ q => k b u q) (fun _ q => q) fun _ _ q => q
theorem HOk.laid (x : HOk P w H h) (k : ∀ b u, h.get? b = some u → h'.get? b = some u) (hp : h.objs.size ≤ a) (new : ObjOk P w (upd H a o) h' a o) : HOk P w (upd H a o) h' := fun b u e => by
  have hn := x.fresh hp
  by_cases hb : b = a
  · subst hb; rw [upd_same] at e; cases e; exact new
  · rw [upd_ne hb] at e
    exact (x b u e).stay (fun c v _ q => k c v q) (fun c q => by rw [upd_ne (ne_of_none q hn)]; exact q) fun c xs q => by rw [upd_ne (ne_of_none q hn)]; exact q
end
def Rd (H : Hp) (a : Addr) (u : HO) : Prop := H a = some u ∨ ∃ o, H a = some (.frz o u)
theorem Rd.ok {P : Program} {w : World} {H : Hp} {h : Heap} {a : Addr} {u : HO} (r : Rd H a u) (x : HOk P w H h) : ObjOk P w H h a u := by
  rcases r with r | ⟨o, r⟩
  · exact x a u r
  · obtain ⟨_, q⟩ := x a _ r
    exact q
def Mut : Option HO → Prop
  | some (.lst _) => True
  | some (.dK _) => True
  | some (.dT _) => True
  | some (.set _ _) => True
  | some (.ins _ _ _) => True
  | some (.ext _) => True
  | _ => False
section
variable {P : Program} {w : World} {H : Hp} {h h' : Heap} {x e : Addr} {o' : HO}
theorem HOk.write (ok : HOk P w H h) (mu : Mut (H x)) (he : e = x ∨ H e = some (.own x)) (k : ∀ b u, b ≠ e → h.get? b = some u → h'.get? b = some u) (heo : ∃ u, h'.get? e = some u)
    (new : ObjOk P w (upd H x o') h' x o') : HOk P w (upd H x o') h' := fun b u q => by
  have nown : ∀ c y, H c = some (.own y) → c ≠ x := fun c y r z => by subst z; rw [r] at mu; exact mu
  have ntup : ∀ c xs, H c = some (.tup xs) → c ≠ x := fun c xs r z => by subst z; rw [r] at mu; exact mu
  by_cases hb : b = x
  · subst hb; rw [upd_same] at q; cases q; exact new
  · rw [upd_ne hb] at q
    by_cases hbe : b = e
    · have q' : H b = some (.own x) := by
        rcases he with z | z
        · exact absurd (hbe.trans z) hb
        · rw [hbe]; exact z
      rw [q] at q'; cases q'
      obtain ⟨v, hv⟩ := heo
      exact ⟨v, by rw [hbe]; exact hv⟩
    · refine (ok b u q).stay (fun c v hc r => k c v ?_ r) (fun c r => by rw [upd_ne (nown c b r)]; exact r) fun c xs r => by rw [upd_ne (ntup c xs r)]; exact r
      rcases hc with rfl | hc
      · exact hbe
      · rintro rfl
        rcases he with z | z
        · exact nown c b hc z
        · rw [hc] at z; cases z; exact hb rfl
end
structure Un (fs ex : List Addr) (H H' : Hp) (h h' : Heap) : Prop where
  keep : ∀ b o, h.get? b = some o → H b = none → b ∉ fs → b ∉ ex → h'.get? b = some o
  slot : ∀ b o, h.get? b = some o → H b = none → b ∈ fs → b ∉ ex → ∃ sl, h'.get? b = some { o with slots := sl }
  free : ∀ b o, h.get? b = some o → H b = none → b ∉ ex → H' b = none
  there : ∀ b o, h.get? b = some o → b ∉ ex → ∃ o', h'.get? b = some o'
  tups : ∀ b xs, H b = some (.tup xs) → H' b = some (.tup xs)
  frzs : ∀ b o u, H b = some (.frz o u) → H' b = some (.frz o u)
  tbls : ∀ b ps, H b = some (.tbl ps) → ∃ more, H' b = some (.tbl (ps ++ more))
section
variable {fs fs' ex ex' : List Addr} {H H1 H2 : Hp} {h h1 h2 h' : Heap} {a x e : Addr} {o : HO}
theorem Un.any (u : Un fs ex H H1 h h1) {b : Addr} {ob : Obj} (q : h.get? b = some ob) (n : H b = none) (hx : b ∉ ex) : ∃ sl, h1.get? b = some { ob with slots := sl } := by
  by_cases hb : b ∈ fs
  · exact u.slot b ob q n hb hx
  · exact ⟨ob.slots, u.keep b ob q n hb hx⟩
theorem Un.kept (k : ∀ b u, h.get? b = some u → h'.get? b = some u) : Un fs ex H H h h' :=
  ⟨fun b ob q _ _ _ => k b ob q, fun b ob q _ _ _ => ⟨ob.slots, k b ob q⟩, fun _ _ _ n _ => n, fun b ob q _ => ⟨ob, k b ob q⟩, fun _ _ q => q, fun _ _ _ q => q, fun _ ps q => ⟨#[], by rw [q]; simp⟩⟩
theorem Un.refl : Un fs ex H H h h := Un.kept fun _ _ q => q
theorem Un.laid (k : ∀ b u, h.get? b = some u → h'.get? b = some u) (hp : h.objs.size ≤ a) (hn : H a = none) : Un fs ex H (upd H a o) h h' where
  keep := fun b u q _ _ _ => k b u q
  slot := fun b u q _ _ _ => ⟨u.slots, k b u q⟩
  free := fun b u q n _ => by rw [upd_ne (Nat.ne_of_lt (Nat.lt_of_lt_of_le (Heap.lt_size q) hp))]; exact n
  there := fun b u q _ => ⟨u, k b u q⟩
  tups := fun b xs q => by rw [upd_ne (ne_of_none q hn)]; exact q
  frzs := fun b u xs q => by rw [upd_ne (ne_of_none q hn)]; exact q
  tbls := fun b ps q => ⟨#[], by rw [upd_ne (ne_of_none q hn), q]; simp⟩
theorem Un.write (mu : Mut (H x)) (he : e = x ∨ H e = some (.own x)) (k : ∀ b u, b ≠ e → h.get? b = some u → h'.get? b = some u) (heo : ∃ u, h'.get? e = some u) : Un fs ex H (upd H x o) h h' := by
  have hx : ∀ b, H b = none → b ≠ x := fun b n z => by subst z; rw [n] at mu; exact mu
  have hb : ∀ b, H b = none → b ≠ e := fun b n z => by
    subst z
    rcases he with r | r
    · exact hx b n r
    · rw [n] at r; cases r
  have hm : ∀ b u, H b = some u → ¬ Mut (some u) → b ≠ x := fun b u q nm z => by subst z; rw [q] at mu; exact nm mu
  refine ⟨fun b u q n _ _ => k b u (hb b n) q, fun b u q n _ _ => ⟨u.slots, k b u (hb b n) q⟩, fun b u q n _ => by rw [upd_ne (hx b n)]; exact n, fun b u q _ => ?_,
    fun b xs q => by rw [upd_ne (hm b _ q fun z => z)]; exact q, fun b u xs q => by rw [upd_ne (hm b _ q fun z => z)]; exact q, fun b ps q => ⟨#[], by rw [upd_ne (hm b _ q fun z => z), q]; simp⟩⟩
  by_cases hbe : b = e
  · subst hbe; exact heo
  · exact ⟨u, k b u hbe q⟩
end
def trk (h : Heap) (H : Hp) : List Addr := (List.range h.objs.size).filter fun a => (H a).isSome
def hidT (h : Heap) (H : Hp) : Heap := PySem.W.hideAll h (trk h H)
theorem hidT_size (h : Heap) (H : Hp) : (hidT h H).objs.size = h.objs.size := PySem.W.hideAll_size _ _
theorem hidT_get {h : Heap} {H : Hp} {b : Addr} {o : Obj} (e : h.get? b = some o) (n : H b = none) : (hidT h H).get? b = some o :=
  PySem.W.hideAll_get _ e fun hm => by
    have q : (H b).isSome = true := (List.mem_filter.mp hm).2
    rw [n] at q; simp at q
theorem of_hidT {h : Heap} {H : Hp} {b : Addr} {o : Obj} (e : (hidT h H).get? b = some o) : h.get? b = some o ∧ H b = none := by
  have e' : h.get? b = some o := PySem.W.of_hideAll (trk h H) e
  refine ⟨e', ?_⟩
  cases q : H b with
  | none => rfl
  | some x =>
    have hm : b ∈ trk h H := List.mem_filter.mpr ⟨List.mem_range.mpr (Heap.lt_size e'), by simp [q]⟩
    have z : (hidT h H).get? b = none := PySem.W.hideAll_none (trk h H) hm
    rw [z] at e; cases e
end L2
namespace L2
open PySem PySem.Spec PyProof.Rows
structure Mod (K : PySem.W.Frag) (mg : Str → Option Value) (base : Heap) : Prop where
  kin : K.In base
  glob : base.Ns mainGlobals mg
  blt : ∃ mb, base.Ns builtinsNs mb ∧ ∀ x : Str, x ≠ "__name__" → mb x = bootBuiltins x
  nolimit : base.NoLimit
structure Cx where
  prog : Program
  w : World
  K : PySem.W.Frag
  mg : Str → Option Value
  base : Heap
  A : Around
  N : List Str
  s_0 : Shared
  H_0 : Hp
  env : Env
  outer : List Env
  stack : List Env
  ex : List Addr
  fn : Str → Bool
  calm : Bool
  pn : List (Addr × Obj)
  xe : Value → Shared → Prop
def frs (l : List Env) : List Addr := l.filterMap (·.frame)
abbrev Cx.fs (X : Cx) : List Addr := frs X.outer
def Vis (sc : Scope) (x : Str) : Prop := sc.names.lookup x = some .local ∨ sc.names.lookup x = some .cell ∨ sc.names.lookup x = some .free
def Loc (sc : Scope) (x : Str) : Prop := sc.names.lookup x = some .local ∨ sc.names.lookup x = some .cell
def Look (env : Env) (h : Heap) (m : Str → Option Value) (x : Str) (u : Value) : Prop :=
  (env.kindOf x = some .local ∧ m x = some u) ∨ ((env.kindOf x = some .cell ∨ env.kindOf x = some .free) ∧ ∃ c, env.cells.lookup x = some c ∧ h.IsCell c (some u))
structure Cx.Ok (X : Cx) : Prop where
  mod : Mod X.K X.mg X.base
  kind : X.env.scope.kind = .function
  glob : X.env.globals = mainGlobals
  blt : X.env.builtins = builtinsNs
  above : X.s_0.heap.objs.size ≤ X.env.locals
  inj : ∀ x y c, X.env.cells.lookup x = some c → X.env.cells.lookup y = some c → x = y
  has : ∀ x, (X.env.kindOf x = some .cell ∨ X.env.kindOf x = some .free) → ∃ c, X.env.cells.lookup x = some c
  cab : ∀ x c, X.fn x = true → X.env.cells.lookup x = some c → X.s_0.heap.objs.size ≤ c
  hd : X.calm = true → X.A.handled = none
  frames : X.A.frames = some X.stack
  stk : X.stack = X.outer ∨ (X.stack = X.env :: X.outer ∧ X.env.frame = some X.env.locals)
  exf : ∀ b ∈ X.ex, b ≠ X.env.locals ∧ ∀ x c, X.env.cells.lookup x = some c → c ≠ b
  bs : ∀ b o, X.base.get? b = some o → X.s_0.heap.get? b = some o ∧ X.H_0 b = none
  bsz : X.base.objs.size ≤ X.s_0.heap.objs.size
  noex : ∀ b o, X.base.get? b = some o → b ∉ X.ex
  exfs : ∀ b ∈ X.ex, b ∉ X.fs
  funs : X.s_0.heap.FunFrames X.base X.outer
  frf : ∀ b ∈ X.fs, X.H_0 b = none
structure Inv (X : Cx) (pins : List (Addr × Obj)) (σ : List (Option V)) (H : Hp) (s : Shared) : Prop where
  ok : X.Ok
  os : s.os = X.s_0.os
  bare : AllBare s.gens
  base : Un X.fs X.ex X.H_0 H X.s_0.heap s.heap
  loc : ∃ m, s.heap.Ns X.env.locals m ∧ ∀ (i : Nat) (x : Str) (v : V), X.N[i]? = some x → σ[i]? = some (some v) → Vis X.env.scope x → ∃ u, RelV v u ∧ Look X.env s.heap m x u
  cell : ∀ x c, X.env.cells.lookup x = some c → ∃ v, s.heap.IsCell c v
  free : H X.env.locals = none
  freeC : ∀ x c, X.env.cells.lookup x = some c → H c = none
  pin : ∀ p ∈ X.pn ++ pins, s.heap.get? p.1 = some p.2 ∧ H p.1 = none ∧ p.1 ≠ X.env.locals ∧ p.1 ∉ X.fs ∧ ∀ v, p.2.data ≠ .cell v
  hok : HOk X.prog X.w H s.heap
  len : σ.length = X.N.length
section
variable {X : Cx} {pins : List (Addr × Obj)} {σ : List (Option V)} {H H' : Hp} {s : Shared} {h' : Heap}
theorem Cx.Ok.nofr (ok : X.Ok) {b : Addr} {o : Obj} (e : X.base.get? b = some o) : b ∉ X.fs := fun hb => by
  have := (ok.funs.mem hb).1
  rw [e] at this; cases this
theorem Inv.bs (I : Inv X pins σ H s) : ∀ b o, X.base.get? b = some o → s.heap.get? b = some o ∧ H b = none := fun b o e =>
  ⟨I.base.keep b o (I.ok.bs b o e).1 (I.ok.bs b o e).2 (I.ok.nofr e) (I.ok.noex b o e), I.base.free b o (I.ok.bs b o e).1 (I.ok.bs b o e).2 (I.ok.noex b o e)⟩
theorem Inv.bk (I : Inv X pins σ H s) : ∀ b o, X.base.get? b = some o → s.heap.get? b = some o := fun b o e => (I.bs b o e).1
theorem Inv.mod (I : Inv X pins σ H s) : Mod X.K X.mg X.base := I.ok.mod
theorem Inv.kIn (I : Inv X pins σ H s) : X.K.In s.heap := I.ok.mod.kin.keeps I.bk
theorem Inv.lt (I : Inv X pins σ H s) : X.env.locals < s.heap.objs.size := let ⟨_, hn, _⟩ := I.loc; hn.lt
theorem Inv.sz (I : Inv X pins σ H s) : X.s_0.heap.objs.size ≤ s.heap.objs.size := Nat.le_trans I.ok.above (Nat.le_of_lt I.lt)
theorem Inv.nofs (I : Inv X pins σ H s) {a : Addr} (h : s.heap.objs.size ≤ a) : a ∉ X.fs := fun hb => by
  obtain ⟨_, o, ho, _⟩ := I.ok.funs.mem hb
  exact absurd (Nat.lt_of_lt_of_le (Heap.lt_size ho) (Nat.le_trans I.sz h)) (Nat.lt_irrefl _)
theorem Inv.cne (I : Inv X pins σ H s) : ∀ x c, X.env.cells.lookup x = some c → c ≠ X.env.locals := fun x c e z => by
  obtain ⟨v, o, ho, hd⟩ := I.cell x c e
  obtain ⟨m, ⟨o', es, ep, ho', hd', _⟩, _⟩ := I.loc
  rw [z, ho'] at ho; cases ho; rw [hd'] at hd; cases hd
theorem Inv.funs (I : Inv X pins σ H s) : s.heap.FunFrames X.base X.outer := by
  have all : ∀ (l : List Env), (∀ b ∈ frs l, b ∈ X.fs) → X.s_0.heap.FunFrames X.base l → s.heap.FunFrames X.base l := by
    intro l
    induction l with
    | nil => intro _ _; trivial
    | cons env r ih =>
      intro hs hl
      obtain ⟨hk, ⟨L, o, hf, hn, ho, hd⟩, hr⟩ := hl
      have hL : L ∈ X.fs := hs L (by unfold frs; rw [List.filterMap_cons, hf]; exact List.mem_cons_self)
      obtain ⟨sl, e⟩ := I.base.slot L o ho (I.ok.frf L hL) hL fun z => I.ok.exfs L z hL
      exact ⟨hk, ⟨L, _, hf, hn, e, hd⟩, ih (fun b hb => hs b (by unfold frs; rw [List.filterMap_cons, hf]; exact List.mem_cons_of_mem _ hb)) hr⟩
  exact all X.outer (fun _ hb => hb) I.ok.funs
theorem Inv.stack (I : Inv X pins σ H s) : s.heap.FunFrames X.base X.stack := by
  rcases I.ok.stk with e | ⟨e, hf⟩
  · rw [e]; exact I.funs
  · rw [e]
    obtain ⟨m, hn, _⟩ := I.loc
    refine .cons (by rw [I.ok.kind]; decide) hf hn ?_ I.funs
    exact Heap.get?_none_of_le (Nat.le_trans I.ok.bsz I.ok.above)
theorem Inv.stkSub (I : Inv X pins σ H s) : ∀ b ∈ frs X.stack, b ∈ X.env.locals :: X.fs := fun b hb => by
  rcases I.ok.stk with e | ⟨e, hf⟩
  · rw [e] at hb; exact List.mem_cons_of_mem _ hb
  · rw [e] at hb
    unfold frs at hb
    rw [List.filterMap_cons, hf] at hb
    exact hb
theorem Inv.stkFree (I : Inv X pins σ H s) : ∀ b ∈ frs X.stack, H b = none := fun b hb => by
  rcases List.mem_cons.mp (I.stkSub b hb) with e | hb
  · rw [e]; exact I.free
  · obtain ⟨_, o, ho, _⟩ := I.ok.funs.mem hb
    exact I.base.free b o ho (I.ok.frf b hb) fun z => I.ok.exfs b z hb
theorem Inv.step {g' : Array GenState} {t' : Nat} {d' : Drawn} {ch : List Addr} (I : Inv X pins σ H s)
    (hch : ∀ b ∈ ch, (b ∈ X.ex ∨ X.s_0.heap.objs.size ≤ b) ∧ b ≠ X.env.locals ∧ (∀ x c, X.env.cells.lookup x = some c → c ≠ b) ∧ ∀ p ∈ X.pn ++ pins, p.1 ≠ b)
    (keep : ∀ b o, b ≠ X.env.locals → b ∉ X.fs → b ∉ ch → s.heap.get? b = some o → H b = none → h'.get? b = some o)
    (slot : ∀ b o, b ≠ X.env.locals → b ∈ X.fs → b ∉ ch → s.heap.get? b = some o → H b = none → ∃ sl, h'.get? b = some { o with slots := sl }) (free : ∀ b o, b ∉ ch → s.heap.get? b = some o → H b = none → H' b = none)
    (there : ∀ b o, b ∉ ch → s.heap.get? b = some o → ∃ o', h'.get? b = some o')
    (tups : ∀ b xs, H b = some (.tup xs) → H' b = some (.tup xs)) (frzs : ∀ b o u, H b = some (.frz o u) → H' b = some (.frz o u)) (tbls : ∀ b ps, H b = some (.tbl ps) → ∃ more, H' b = some (.tbl (ps ++ more)))
    (ns : ∀ m, s.heap.Ns X.env.locals m → h'.Ns X.env.locals m) (hok : HOk X.prog X.w H' h') (hg : AllBare g') :
    Inv X pins σ H' { s with heap := h', gens := g', drawn := d', toks := t' } := by
  have neL : ∀ b o, X.s_0.heap.get? b = some o → b ≠ X.env.locals := fun b o e => Nat.ne_of_lt (Nat.lt_of_lt_of_le (Heap.lt_size e) I.ok.above)
  have neC : ∀ b o, X.s_0.heap.get? b = some o → b ∉ X.ex → b ∉ ch := fun b o e hx hb => by
    rcases (hch b hb).1 with z | z
    · exact hx z
    · exact absurd (Nat.lt_of_lt_of_le (Heap.lt_size e) z) (Nat.lt_irrefl _)
  have cellK : ∀ x c, X.env.cells.lookup x = some c → ∀ v, s.heap.IsCell c v → h'.IsCell c v := fun x c e v ⟨o, ho, hd⟩ => by
    have nch : c ∉ ch := fun z => (hch c z).2.2.1 x c e rfl
    by_cases hc : c ∈ X.fs
    · obtain ⟨sl, q⟩ := slot c o (I.cne x c e) hc nch ho (I.freeC x c e)
      exact ⟨_, q, hd⟩
    · exact ⟨o, keep c o (I.cne x c e) hc nch ho (I.freeC x c e), hd⟩
  refine ⟨I.ok, I.os, hg, ⟨fun b o e n hb hx => ?_, fun b o e n hb hx => ?_, fun b o e n hx => ?_, fun b o e hx => ?_, fun b xs e => tups b xs (I.base.tups b xs e), fun b o xs e => frzs b o xs (I.base.frzs b o xs e), fun b ps e => ?_⟩, ?_, fun x c e => ?_, ?_, fun x c e => ?_, fun p hp => ?_, hok, I.len⟩
  · exact keep b o (neL b o e) hb (neC b o e hx) (I.base.keep b o e n hb hx) (I.base.free b o e n hx)
  · obtain ⟨sl, e1⟩ := I.base.slot b o e n hb hx
    obtain ⟨sl', e2⟩ := slot b _ (neL b o e) hb (neC b o e hx) e1 (I.base.free b o e n hx)
    exact ⟨sl', e2⟩
  · obtain ⟨o', e1⟩ := I.base.there b o e hx
    exact free b o' (neC b o e hx) e1 (I.base.free b o e n hx)
  · obtain ⟨o', e1⟩ := I.base.there b o e hx
    exact there b o' (neC b o e hx) e1
  · obtain ⟨m1, e1⟩ := I.base.tbls b ps e
    obtain ⟨m2, e2⟩ := tbls b _ e1
    exact ⟨m1 ++ m2, by rw [e2, Array.append_assoc]⟩
  · obtain ⟨m, hn, hl⟩ := I.loc
    refine ⟨m, ns m hn, fun i x v e1 e2 e3 => ?_⟩
    obtain ⟨u, r, l⟩ := hl i x v e1 e2 e3
    refine ⟨u, r, ?_⟩
    rcases l with l | ⟨k, c, e, z⟩
    · exact .inl l
    · exact .inr ⟨k, c, e, cellK x c e _ z⟩
  · obtain ⟨v, z⟩ := I.cell x c e
    exact ⟨v, cellK x c e v z⟩
  · obtain ⟨m, ⟨o, _, _, ho, _⟩, _⟩ := I.loc
    exact free _ o (fun z => (hch _ z).2.1 rfl) ho I.free
  · obtain ⟨v, o, ho, hd⟩ := I.cell x c e
    exact free c o (fun z => (hch c z).2.2.1 x c e rfl) ho (I.freeC x c e)
  · obtain ⟨e, n, ne, nf, d⟩ := I.pin p hp
    have nch : p.1 ∉ ch := fun z => (hch p.1 z).2.2.2 p hp rfl
    exact ⟨keep p.1 p.2 ne nf nch e n, free p.1 p.2 nch e n, ne, nf, d⟩
theorem Inv.un {t' : Nat} (I : Inv X pins σ H s) (u : Un X.fs [] H H' s.heap h') (hok : HOk X.prog X.w H' h') : Inv X pins σ H' { s with heap := h', toks := t' } := by
  obtain ⟨m, ⟨o, es, ep, ho, r⟩, _⟩ := id I.loc
  obtain ⟨sl, hL⟩ := u.any ho I.free (by simp)
  exact I.step (g' := s.gens) (d' := s.drawn) (ch := []) (fun _ z => nomatch z) (fun b o _ hb _ e n => u.keep b o e n hb (by simp)) (fun b o _ hb _ e n => u.slot b o e n hb (by simp)) (fun b o _ e n => u.free b o e n (by simp)) (fun b o _ e => u.there b o e (by simp)) u.tups u.frzs u.tbls (fun m' hm => by
    obtain ⟨o', es', ep', ho', r'⟩ := hm
    rw [ho] at ho'; cases ho'
    exact ⟨_, es', ep', hL, r'⟩) hok I.bare
theorem Inv.call {g' : Array GenState} {t' : Nat} {d' : Drawn} {ch : List Addr} (I : Inv X pins σ H s) (u : Un (frs X.stack) ch H H' s.heap h') (hok : HOk X.prog X.w H' h') (hg : AllBare g')
    (hch : ∀ b ∈ ch, (b ∈ X.ex ∨ X.s_0.heap.objs.size ≤ b) ∧ b ≠ X.env.locals ∧ (∀ x c, X.env.cells.lookup x = some c → c ≠ b) ∧ ∀ p ∈ X.pn ++ pins, p.1 ≠ b) :
    Inv X pins σ H' { s with heap := h', gens := g', drawn := d', toks := t' } := by
  obtain ⟨m, ⟨o, es, ep, ho, r⟩, _⟩ := id I.loc
  obtain ⟨sl, hL⟩ := u.any ho I.free fun z => (hch _ z).2.1 rfl
  exact I.step (ch := ch) hch (fun b o hL hb hc e n => u.keep b o e n (fun z => (List.mem_cons.mp (I.stkSub b z)).elim hL hb) hc) (fun b o _ _ hc e n => u.any e n hc) (fun b o hc e n => u.free b o e n hc) (fun b o hc e => u.there b o e hc) u.tups u.frzs u.tbls (fun m' hm => by
    obtain ⟨o', es', ep', ho', r'⟩ := hm
    rw [ho] at ho'; cases ho'
    exact ⟨_, es', ep', hL, r'⟩) hok hg
theorem Inv.turned {t' : Nat} {it : Addr} (I : Inv X pins σ H s) (k : ∀ b o, b ≠ it → s.heap.get? b = some o → h'.get? b = some o) (hn : H it = none) (hL : it ≠ X.env.locals)
    (h1 : it ∈ X.ex ∨ X.s_0.heap.objs.size ≤ it) (h2 : ∀ x c, X.env.cells.lookup x = some c → c ≠ it) (h3 : ∀ p ∈ X.pn ++ pins, p.1 ≠ it) : Inv X pins σ H { s with heap := h', toks := t' } := by
  have nit : ∀ b u, H b = some u → b ≠ it := fun b u e z => by rw [z, hn] at e; cases e
  refine I.step (g' := s.gens) (d' := s.drawn) (ch := [it]) (fun b hb => ?_) (fun b o _ _ hc e _ => k b o (fun z => hc (by simp [z])) e) (fun b o _ _ hc e _ => ⟨o.slots, k b o (fun z => hc (by simp [z])) e⟩) (fun _ _ _ _ n => n)
    (fun b o hc e => ⟨o, k b o (fun z => hc (by simp [z])) e⟩) (fun _ _ e => e) (fun _ _ _ e => e) (fun b ps e => ⟨#[], by rw [e]; simp⟩) (fun m hm => ?_) (fun b u e => ?_) I.bare
  · have e : b = it := by simpa using hb
    subst e
    exact ⟨h1, hL, h2, h3⟩
  · obtain ⟨o, es, ep, ho, r⟩ := hm
    exact ⟨o, es, ep, k _ o (Ne.symm hL) ho, r⟩
  · refine (I.hok b u e).stay (fun c v hc q => k c v ?_ q) (fun _ q => q) fun _ _ q => q
    rcases hc with z | z
    · rw [z]; exact nit b u e
    · exact nit c _ z
theorem Inv.tok (I : Inv X pins σ H s) (t : Nat) : Inv X pins σ H { s with toks := t } := I.un (h' := s.heap) (t' := t) Un.refl I.hok
theorem Inv.kept {t' : Nat} (I : Inv X pins σ H s) (k : ∀ b u, s.heap.get? b = some u → h'.get? b = some u) : Inv X pins σ H { s with heap := h', toks := t' } := I.un (Un.kept k) (I.hok.kept k)
theorem Inv.laid {a : Addr} {o : HO} {t' : Nat} (I : Inv X pins σ H s) (k : ∀ b u, s.heap.get? b = some u → h'.get? b = some u) (hp : s.heap.objs.size ≤ a) (new : ObjOk X.prog X.w (upd H a o) h' a o) :
    Inv X pins σ (upd H a o) { s with heap := h', toks := t' } := I.un (Un.laid k hp (I.hok.fresh hp)) (I.hok.laid k hp new)
theorem Inv.write {x e : Addr} {o : HO} {t' : Nat} (I : Inv X pins σ H s) (mu : Mut (H x)) (he : e = x ∨ H e = some (.own x)) (k : ∀ b u, b ≠ e → s.heap.get? b = some u → h'.get? b = some u) (heo : ∃ u, h'.get? e = some u)
    (new : ObjOk X.prog X.w (upd H x o) h' x o) : Inv X pins σ (upd H x o) { s with heap := h', toks := t' } := I.un (Un.write mu he k heo) (I.hok.write mu he k heo new)
theorem Inv.weak {σ' : List (Option V)} (I : Inv X pins σ H s) (hl : σ'.length = σ.length) (w : ∀ (i : Nat) v, σ'[i]? = some (some v) → σ[i]? = some (some v)) : Inv X pins σ' H s :=
  ⟨I.ok, I.os, I.bare, I.base, let ⟨m, hn, hl'⟩ := I.loc; ⟨m, hn, fun i x v e1 e2 e3 => hl' i x v e1 (w i v e2) e3⟩, I.cell, I.free, I.freeC, I.pin, I.hok, hl.trans I.len⟩
theorem Inv.pins_of {pins' : List (Addr × Obj)} (I : Inv X pins σ H s) (h : ∀ p ∈ pins', s.heap.get? p.1 = some p.2 ∧ H p.1 = none ∧ p.1 ≠ X.env.locals ∧ p.1 ∉ X.fs ∧ ∀ v, p.2.data ≠ .cell v) : Inv X pins' σ H s :=
  ⟨I.ok, I.os, I.bare, I.base, I.loc, I.cell, I.free, I.freeC, fun p hp => (List.mem_append.mp hp).elim (fun z => I.pin p (List.mem_append_left _ z)) (h p), I.hok, I.len⟩
theorem nodup_ix {N : List Str} (hN : N.Nodup) {i j : Nat} {x : Str} (a : N[i]? = some x) (b : N[j]? = some x) : i = j := by
  obtain ⟨h1, e1⟩ := List.getElem?_eq_some_iff.mp a
  obtain ⟨h2, e2⟩ := List.getElem?_eq_some_iff.mp b
  exact (List.getElem_inj hN).mp (e1.trans e2.symm)
theorem store_ok2 {M : Model} {A : Around} {E : Value → Shared → Prop} {i : Nat} {x : Str} {v : V} {u : Value} {Q : Unit → Shared → Prop} (I : Inv X pins σ H s) (hN : X.N.Nodup) (hi : X.N[i]? = some x) (hx : Loc X.env.scope x) (r : RelV v u)
    (h : ∀ s', Inv X pins (σ.set i (some v)) H s' → (∃ a, Heap.SameBut a s.heap s'.heap ∧ (a = X.env.locals ∨ X.env.cells.lookup x = some a)) → Q () s') (hf : X.fn x = true ∨ X.env.scope.names.lookup x = some .local := by first | exact .inl rfl | exact .inr rfl | assumption) : wpAny M A (storeName X.env x u) Q E s := by
  obtain ⟨m, hn, hl⟩ := id I.loc
  have hcls : (X.env.scope.kind == .class || (X.env.scope.kind == .module && X.env.locals != X.env.globals)) = false := by rw [I.ok.kind]; rfl
  have hiσ : i < σ.length := by rw [I.len]; exact (List.getElem?_eq_some_iff.mp hi).1
  have cne := I.cne
  have tracked : ∀ {a : Addr} {h' : Heap}, (∃ o, s.heap.get? a = some o ∧ H a = none) → Heap.SameBut a s.heap h' → HOk X.prog X.w H h' := fun {a h'} ha hs b ob e => by
    obtain ⟨_, _, hfree⟩ := ha
    refine (I.hok b ob e).stay (fun c w' hc q => (hs.2 c ?_).trans q) (fun _ q => q) fun _ _ q => q
    rintro rfl
    rcases hc with rfl | hc
    · rw [hfree] at e; cases e
    · rw [hfree] at hc; cases hc
  rcases hx with hk | hk
  · refine wpAny_storeName_local hk hn (fun h' hn' hs => ?_) hcls
    obtain ⟨oL, _, _, hoL, _⟩ := id hn
    refine h _ ⟨I.ok, I.os, I.bare, ⟨fun b o e n hb hx => ?_, fun b o e n hb hx => ?_, I.base.free, fun b o e hx => ?_, I.base.tups, I.base.frzs, I.base.tbls⟩, ⟨_, hn', fun j y v' e1 e2 e3 => ?_⟩, fun y c e => ?_, I.free, I.freeC, fun p hp => ?_, tracked ⟨oL, hoL, I.free⟩ hs, by simpa using I.len⟩ ⟨_, hs, .inl rfl⟩
    · exact (hs.2 b (Nat.ne_of_lt (Nat.lt_of_lt_of_le (Heap.lt_size e) I.ok.above))).trans (I.base.keep b o e n hb hx)
    · obtain ⟨sl, e1⟩ := I.base.slot b o e n hb hx
      exact ⟨sl, (hs.2 b (Nat.ne_of_lt (Nat.lt_of_lt_of_le (Heap.lt_size e) I.ok.above))).trans e1⟩
    · obtain ⟨o', e1⟩ := I.base.there b o e hx
      exact ⟨o', (hs.2 b (Nat.ne_of_lt (Nat.lt_of_lt_of_le (Heap.lt_size e) I.ok.above))).trans e1⟩
    · by_cases hj : j = i
      · subst hj
        rw [hi] at e1; cases e1
        rw [List.getElem?_set_self hiσ] at e2
        cases e2
        exact ⟨u, r, .inl ⟨hk, by simp⟩⟩
      · rw [List.getElem?_set_ne (Ne.symm hj)] at e2
        obtain ⟨u', r', q⟩ := hl j y v' e1 e2 e3
        refine ⟨u', r', ?_⟩
        rcases q with ⟨k, e⟩ | ⟨k, c, e, z⟩
        · refine .inl ⟨k, ?_⟩
          have : y ≠ x := fun e => hj (nodup_ix hN e1 (e ▸ hi))
          simp [this, e]
        · exact .inr ⟨k, c, e, z.sameBut hs (cne y c e)⟩
    · obtain ⟨w', z⟩ := I.cell y c e
      exact ⟨w', z.sameBut hs (cne y c e)⟩
    · obtain ⟨e, n, ne, nf, d⟩ := I.pin p hp
      exact ⟨(hs.2 p.1 ne).trans e, n, ne, nf, d⟩
  · have hfn : X.fn x = true := by
      rcases hf with z | z
      · exact z
      · rw [z] at hk; cases hk
    obtain ⟨c, hc⟩ := I.ok.has x (.inl hk)
    obtain ⟨w', z⟩ := I.cell x c hc
    refine wpAny_storeName_cell I.ok.kind hk hc z (fun h' hc' hs => ?_)
    obtain ⟨oc, hoc, hocd⟩ := id z
    refine h { s with heap := h' } ⟨I.ok, I.os, I.bare, ⟨fun b o e n hb hx => ?_, fun b o e n hb hx => ?_, I.base.free, fun b o e hx => ?_, I.base.tups, I.base.frzs, I.base.tbls⟩, ⟨m, hn.sameBut hs (Ne.symm (cne x c hc)), fun j y v' e1 e2 e3 => ?_⟩, fun y c' e => ?_, I.free, I.freeC, fun p hp => ?_, tracked ⟨oc, hoc, I.freeC x c hc⟩ hs, by simpa using I.len⟩ ⟨c, hs, .inr hc⟩
    · exact (hs.2 b (Nat.ne_of_lt (Nat.lt_of_lt_of_le (Heap.lt_size e) (I.ok.cab x c hfn hc)))).trans (I.base.keep b o e n hb hx)
    · obtain ⟨sl, e1⟩ := I.base.slot b o e n hb hx
      exact ⟨sl, (hs.2 b (Nat.ne_of_lt (Nat.lt_of_lt_of_le (Heap.lt_size e) (I.ok.cab x c hfn hc)))).trans e1⟩
    · obtain ⟨o', e1⟩ := I.base.there b o e hx
      exact ⟨o', (hs.2 b (Nat.ne_of_lt (Nat.lt_of_lt_of_le (Heap.lt_size e) (I.ok.cab x c hfn hc)))).trans e1⟩
    · by_cases hj : j = i
      · subst hj
        rw [hi] at e1; cases e1
        rw [List.getElem?_set_self hiσ] at e2
        cases e2
        exact ⟨u, r, .inr ⟨.inl hk, c, hc, hc'⟩⟩
      · rw [List.getElem?_set_ne (Ne.symm hj)] at e2
        obtain ⟨u', r', q⟩ := hl j y v' e1 e2 e3
        refine ⟨u', r', ?_⟩
        rcases q with q | ⟨k, c', e, z'⟩
        · exact .inl q
        · refine .inr ⟨k, c', e, z'.sameBut hs ?_⟩
          rintro rfl
          exact hj (nodup_ix hN e1 (I.ok.inj _ _ _ e hc ▸ hi))
    · by_cases hcc : c' = c
      · subst hcc; exact ⟨_, hc'⟩
      · obtain ⟨w2, z2⟩ := I.cell y c' e
        exact ⟨w2, z2.sameBut hs hcc⟩
    · obtain ⟨e, n, ne, nf, d⟩ := I.pin p hp
      refine ⟨(hs.2 p.1 ?_).trans e, n, ne, nf, d⟩
      intro q
      rw [q, hoc] at e
      have q' : oc = p.2 := Option.some.inj e
      exact d w' (by rw [← q']; exact hocd)
theorem store_ok {M : Model} {A : Around} {E : Value → Shared → Prop} {i : Nat} {x : Str} {v : V} {u : Value} {Q : Unit → Shared → Prop} (I : Inv X pins σ H s) (hN : X.N.Nodup) (hi : X.N[i]? = some x) (hx : Loc X.env.scope x) (r : RelV v u)
    (h : ∀ s', Inv X pins (σ.set i (some v)) H s' → Q () s') (hf : X.fn x = true ∨ X.env.scope.names.lookup x = some .local := by first | exact .inl rfl | exact .inr rfl | assumption) : wpAny M A (storeName X.env x u) Q E s :=
  store_ok2 I hN hi hx r (fun s' I' _ => h s' I') hf
theorem Inv.call' {s' : Shared} {ch : List Addr} (I : Inv X pins σ H s) (ho : s'.os = s.os) (u : Un (frs X.stack) ch H H' s.heap s'.heap) (hok : HOk X.prog X.w H' s'.heap) (hg : AllBare s'.gens)
    (hch : ∀ b ∈ ch, (b ∈ X.ex ∨ X.s_0.heap.objs.size ≤ b) ∧ b ≠ X.env.locals ∧ (∀ x c, X.env.cells.lookup x = some c → c ≠ b) ∧ ∀ p ∈ X.pn ++ pins, p.1 ≠ b) : Inv X pins σ H' s' := by
  obtain ⟨h', g', d', t', o'⟩ := s'
  have e : o' = s.os := ho
  subst e
  exact I.call (g' := g') (t' := t') (d' := d') u hok hg hch
end
abbrev XK := Value → Option Addr → Hp → Prop
abbrev St := List (Option V)
abbrev VK := V → Hp → Prop
abbrev TE := St → Hp → VK → Prop
abbrev TT := St → Hp → (Bool → Hp → Prop) → Prop
abbrev TA := St → Hp → (List V → Hp → Prop) → Prop
structure Ends where
  nx : St → Hp → Prop
  rt : VK
  bk : St → Hp → Prop := fun _ _ => False
  ct : St → Hp → Prop := fun _ _ => False
abbrev TS := Ends → St → Hp → Prop
def EP (X : Cx) (pins : List (Addr × Obj)) (σ : St) (Q : VK) (u : Value) (s' : Shared) : Prop := ∃ v H', Inv X pins σ H' s' ∧ RelV v u ∧ Q v H'
def TP (X : Cx) (pins : List (Addr × Obj)) (σ : St) (Q : Bool → Hp → Prop) (b : Bool) (s' : Shared) : Prop := ∃ H', Inv X pins σ H' s' ∧ Q b H'
def AP (X : Cx) (pins : List (Addr × Obj)) (σ : St) (Q : List V → Hp → Prop) (us : List Value) (s' : Shared) : Prop := ∃ vs H', Inv X pins σ H' s' ∧ Vals vs us ∧ Q vs H'
def SP (X : Cx) (pins : List (Addr × Obj)) (D : Ends) (f : Flow) (s' : Shared) : Prop :=
  match f with
  | .next => ∃ σ' H', Inv X pins σ' H' s' ∧ D.nx σ' H'
  | .brk => ∃ σ' H', Inv X pins σ' H' s' ∧ D.bk σ' H'
  | .cont => ∃ σ' H', Inv X pins σ' H' s' ∧ D.ct σ' H'
  | .ret u => ∃ v σ' H', Inv X pins σ' H' s' ∧ RelV v u ∧ D.rt v H'
def PE (X : Cx) (e : Expr) (t : TE) : Prop :=
  ∀ (pins : List (Addr × Obj)) (s : Shared) (σ : St) (H : Hp) (Q : VK), Inv X pins σ H s → t σ H Q → wpAny (model X.prog X.w) X.A (eval e X.env) (EP X pins σ Q) X.xe s
def PT (X : Cx) (e : Expr) (t : TT) : Prop :=
  ∀ (pins : List (Addr × Obj)) (s : Shared) (σ : St) (H : Hp) (Q : Bool → Hp → Prop), Inv X pins σ H s → t σ H Q → wpAny (model X.prog X.w) X.A (isTrue e X.env (eval e X.env)) (TP X pins σ Q) X.xe s
def PW (X : Cx) (e : Expr) (t : TT) : Prop :=
  ∀ (whole : Sem Value) (pins : List (Addr × Obj)) (s : Shared) (σ : St) (H : Hp) (Q : Bool → Hp → Prop), Inv X pins σ H s → t σ H Q → wpAny (model X.prog X.w) X.A (isTrue e X.env whole) (TP X pins σ Q) X.xe s
theorem PW.pt {X : Cx} {e : Expr} {t : TT} (h : PW X e t) : PT X e t := h _
def PA (X : Cx) (es : List Expr) (t : TA) : Prop :=
  ∀ (pos : Pos) (pins : List (Addr × Obj)) (s : Shared) (σ : St) (H : Hp) (Q : List V → Hp → Prop), Inv X pins σ H s → t σ H Q → wpAny (model X.prog X.w) X.A (spliced (backTo pos (starEach es X.env))) (AP X pins σ Q) X.xe s
def PS (X : Cx) (st : Stmt) (t : TS) : Prop :=
  ∀ (pins : List (Addr × Obj)) (s : Shared) (σ : St) (H : Hp) (D : Ends), Inv X pins σ H s → t D σ H → wpAny (model X.prog X.w) X.A (exec st X.env) (SP X pins D) X.xe s
def PSs (X : Cx) (st : List Stmt) (t : TS) : Prop :=
  ∀ (pins : List (Addr × Obj)) (s : Shared) (σ : St) (H : Hp) (D : Ends), Inv X pins σ H s → t D σ H → wpAny (model X.prog X.w) X.A (execs st X.env) (SP X pins D) X.xe s
theorem thn {α : Type} {t : Sem α} {Q Q' : α → Shared → Prop} {M : Model} {A : Around} {E : Value → Shared → Prop} {s : Shared} (h : wpAny M A t Q E s) (hQ : ∀ a s, Q a s → Q' a s) : wpAny M A t Q' E s := wpAny_mono h hQ fun _ _ x => x
end L2
namespace L2
open PySem PySem.Spec PyProof.Rows
section
variable {X : Cx}
def tVar (i : Nat) : TE := fun σ H Q => ∃ v, σ[i]? = some (some v) ∧ Q v H
def tC (v : V) : TE := fun _ H Q => Q v H
theorem pe_var {i : Nat} {x : Str} {pos : Pos} (hN : X.N[i]? = some x) (hv : Vis X.env.scope x) (hd : (x == ("__debug__" : Str)) = false := by decide) (hcd : (x == ("__classdict__" : Str)) = false := by decide) : PE X (.Name x pos) (tVar i) := by
  intro pins s σ H Q I h
  obtain ⟨v, e, h⟩ := h
  obtain ⟨m, hn, hl⟩ := I.loc
  obtain ⟨u, r, l⟩ := hl i x v hN e hv
  have fin : EP X pins σ Q u s := ⟨v, H, I, r, h⟩
  rcases l with ⟨hk, hm⟩ | ⟨hk, c, hc, hcell⟩
  · exact wpAny_Name (wpAny_loadName_local I.ok.kind hk hn hm fin) hd
  · rcases hk with hk | hk
    · exact wpAny_Name (wpAny_loadName_cell I.ok.kind hk hc hcell fin) hd
    · exact wpAny_Name (wpAny_loadName_free I.ok.kind hk hc hcell fin hcd) hd
theorem pe_int {i j pos} : PE X (.Constant (.int i) j pos) (tC (.int i)) := fun _ _ _ H _ I h => wpAny_Constant_int ⟨.int i, H, I.tok _, ⟨_, rfl⟩, h⟩
theorem pe_bl {b j pos} : PE X (.Constant (.bool b) j pos) (tC (.bl b)) := fun _ _ _ H _ I h => Constant_bool ⟨.bl b, H, I, rfl, h⟩
theorem pe_str {x j pos} : PE X (.Constant (.str x) j pos) (tC (.str x)) := fun _ _ _ H _ I h => Calls.Constant_str ⟨.str x, H, I.tok _, ⟨_, rfl⟩, h⟩
def Gl (X : Cx) (x : Str) : Prop := X.env.kindOf x = some .globalImplicit
theorem ld_glob {E : Value → Shared → Prop} {pins : List (Addr × Obj)} {s : Shared} {σ : St} {H : Hp} {x : Str} {u : Value} {pos : Pos} {Q : Value → Shared → Prop} (I : Inv X pins σ H s) (hg : Gl X x) (hm : X.mg x = some u) (h : Q u s)
    (hd : (x == ("__debug__" : Str)) = false := by decide) : wpAny (model X.prog X.w) X.A (eval (.Name x pos) X.env) Q E s :=
  Calls.Name_function_global I.ok.kind hg (Calls.loadGlobal_global (by rw [I.ok.glob]; exact I.mod.glob.keeps I.bk) hm h) hd
theorem ld_blt {E : Value → Shared → Prop} {pins : List (Addr × Obj)} {s : Shared} {σ : St} {H : Hp} {x : Str} {u : Value} {pos : Pos} {Q : Value → Shared → Prop} (I : Inv X pins σ H s) (hg : Gl X x) (hm : X.mg x = none) (hv : bootBuiltins x = some u) (h : Q u s)
    (hn : x ≠ "__name__" := by decide) (hd : (x == ("__debug__" : Str)) = false := by decide) : wpAny (model X.prog X.w) X.A (eval (.Name x pos) X.env) Q E s := by
  obtain ⟨mb, h1, h2⟩ := I.mod.blt
  exact Calls.Name_function_global I.ok.kind hg (Calls.loadGlobal_builtin (by rw [I.ok.glob]; exact I.mod.glob.keeps I.bk) hm (by rw [I.ok.blt]; exact h1.keeps I.bk) ((h2 x hn).trans hv) h) hd
theorem pe_glob {x : Str} {v : V} {u : Value} {pos : Pos} (hg : Gl X x) (hm : X.mg x = some u) (r : RelV v u) (hd : (x == ("__debug__" : Str)) = false := by decide) : PE X (.Name x pos) (tC v) :=
  fun _ _ _ H _ I h => ld_glob I hg hm ⟨v, H, I, r, h⟩ hd
variable {a b : Expr} {ta tb : TE} {pos : Pos}
def tB (t : TE) : TT := fun σ H Q => t σ H fun x H1 => ∃ c, x = .bl c ∧ Q c H1
theorem pt_val {e : Expr} {t : TE} (h : PE X e t) (he : ∀ whole, isTrue e X.env whole = (do let v ← whole; standAt e.pos; holding [v] (truthy v)) := by intro _; rfl) : PT X e (tB t) := by
  intro pins s σ H Q I hw
  refine isTrue_plain (thn (h pins s σ H _ I hw) fun v s1 ⟨x, H1, I1, r1, q1⟩ => ?_) (he _)
  obtain ⟨d, rfl, q⟩ := q1
  cases r1
  exact wpAny_truthy_bool ⟨H1, I1, q⟩
variable {tA tB' : TT} {rest : List Expr}
def tAnd (t u : TT) : TT := fun σ H Q => t σ H fun c H1 => if c = true then u σ H1 Q else Q false H1
def tOr (t u : TT) : TT := fun σ H Q => t σ H fun c H1 => if c = true then Q true H1 else u σ H1 Q
def tNot (t : TT) : TT := fun σ H Q => t σ H fun c H1 => Q (!c) H1
theorem pw_and1 (ha : PT X a tA) : PW X (.BoolOp .And [a] pos) tA := by
  intro wh pins s σ H Q I h
  refine isTrue_and (thn (ha pins s σ H Q I h) fun c s1 e => ?_)
  cases c with
  | true => exact isTrue_and_nil e
  | false => exact e
theorem pw_or1 (ha : PT X a tA) : PW X (.BoolOp .Or [a] pos) tA := by
  intro wh pins s σ H Q I h
  refine isTrue_or (thn (ha pins s σ H Q I h) fun c s1 e => ?_)
  cases c with
  | false => exact isTrue_or_nil e
  | true => exact e
theorem pw_and (ha : PT X a tA) (hb : PW X (.BoolOp .And (b :: rest) pos) tB') : PW X (.BoolOp .And (a :: b :: rest) pos) (tAnd tA tB') := by
  intro wh pins s σ H Q I h
  refine isTrue_and (thn (ha pins s σ H _ I h) fun c s1 ⟨H1, I1, q1⟩ => ?_)
  cases c with
  | true => exact hb wh pins s1 σ H1 Q I1 q1
  | false => exact ⟨H1, I1, q1⟩
theorem pw_or (ha : PT X a tA) (hb : PW X (.BoolOp .Or (b :: rest) pos) tB') : PW X (.BoolOp .Or (a :: b :: rest) pos) (tOr tA tB') := by
  intro wh pins s σ H Q I h
  refine isTrue_or (thn (ha pins s σ H _ I h) fun c s1 ⟨H1, I1, q1⟩ => ?_)
  cases c with
  | true => exact ⟨H1, I1, q1⟩
  | false => exact hb wh pins s1 σ H1 Q I1 q1
theorem pt_not (ha : PT X a tA) : PT X (.UnaryOp .Not a pos) (tNot tA) := by
  intro pins s σ H Q I h
  exact isTrue_not (ha pins s σ H (fun c H1 => Q (!c) H1) I h)
def tAndV (ta tb : TE) : TE := fun σ H Q => ta σ H fun x H1 => ∃ c, x = .bl c ∧ if c = true then tb σ H1 Q else Q (.bl false) H1
def tOrV (ta tb : TE) : TE := fun σ H Q => ta σ H fun x H1 => ∃ c, x = .bl c ∧ if c = true then Q (.bl true) H1 else tb σ H1 Q
def tNotV (ta : TE) : TE := fun σ H Q => ta σ H fun x H1 => ∃ c, x = .bl c ∧ Q (.bl (!c)) H1
theorem pe_one {op} {t : TE} (h : PE X a t) : PE X (.BoolOp op [a] pos) t := fun pins s σ H Q I hw => BoolOp_one (h pins s σ H Q I hw)
theorem pe_and (ha : PE X a ta) (hb : PE X (.BoolOp .And (b :: rest) pos) tb) : PE X (.BoolOp .And (a :: b :: rest) pos) (tAndV ta tb) := by
  intro pins s σ H Q I h
  refine BoolOp_and (thn (ha pins s σ H _ I h) fun v s1 ⟨x, H1, I1, r1, q1⟩ => ?_)
  obtain ⟨c, rfl, q1⟩ := q1
  cases r1
  refine wpAny_truthy_bool ?_
  cases c with
  | true => exact hb pins s1 σ H1 Q I1 q1
  | false => exact ⟨.bl false, H1, I1, rfl, q1⟩
theorem pe_or (ha : PE X a ta) (hb : PE X (.BoolOp .Or (b :: rest) pos) tb) : PE X (.BoolOp .Or (a :: b :: rest) pos) (tOrV ta tb) := by
  intro pins s σ H Q I h
  refine BoolOp_or (thn (ha pins s σ H _ I h) fun v s1 ⟨x, H1, I1, r1, q1⟩ => ?_)
  obtain ⟨c, rfl, q1⟩ := q1
  cases r1
  refine wpAny_truthy_bool ?_
  cases c with
  | false => exact hb pins s1 σ H1 Q I1 q1
  | true => exact ⟨.bl true, H1, I1, rfl, q1⟩
theorem pe_not (ha : PE X a ta) : PE X (.UnaryOp .Not a pos) (tNotV ta) := by
  intro pins s σ H Q I h
  refine UnaryOp_ (thn (ha pins s σ H _ I h) fun v s1 ⟨x, H1, I1, r1, q1⟩ => ?_)
  obtain ⟨c, rfl, q1⟩ := q1
  cases r1
  exact not_of (wpAny_truthy_bool ⟨.bl (!c), H1, I1, rfl, q1⟩)
def tIf (t : TT) (ta tb : TE) : TE := fun σ H Q => t σ H fun c H1 => if c = true then ta σ H1 Q else tb σ H1 Q
theorem pe_ifExp {c : Expr} (hc : PT X c tA) (ha : PE X a ta) (hb : PE X b tb) : PE X (.IfExp c a b pos) (tIf tA ta tb) := by
  intro pins s σ H Q I h
  refine wpAny_IfExp (thn (hc pins s σ H _ I h) fun d s1 ⟨H1, I1, q1⟩ => ?_)
  cases d with
  | true => exact ha pins s1 σ H1 Q I1 q1
  | false => exact hb pins s1 σ H1 Q I1 q1
end
end L2
namespace L2
open PySem PySem.Spec PyProof.Rows
def SqL (K : PySem.W.Frag) (H : Hp) (a : Addr) (xs : List V) : Prop :=
  Rd H a (.lst xs) ∨
    ∃ (o : Obj) (its : Array Value) (n : Nat), K.lookup a = some o ∧ o.cls = .type "list" ∧ o.dict = none ∧ o.data = .seq its n ∧ its.size ≤ sizeLine ∧ Vals xs its.toList
def SqT (K : PySem.W.Frag) (H : Hp) (a : Addr) (xs : List V) : Prop :=
  Rd H a (.tup xs) ∨
    ∃ (o : Obj) (its : Array Value) (n : Nat), K.lookup a = some o ∧ o.cls = .type "tuple" ∧ o.data = .seq its n ∧ its.size ≤ sizeLine ∧ Vals xs its.toList
def absV : Value → Option V
  | .none => some .non
  | .bool b => some (.bl b)
  | .int i _ => some (.int i)
  | .str x _ => some (.str x)
  | .bytes b _ => some (.byt b)
  | .float b _ => some (.flt b)
  | .ref a => some (.ref a)
  | .type n => some (.ty n)
  | _ => none
theorem RelV.abs {x : V} {u : Value} (r : RelV x u) : absV u = some x := by
  cases x with
  | non => cases r; rfl
  | bl _ => cases r; rfl
  | int _ => obtain ⟨t, rfl⟩ := r; rfl
  | str _ => obtain ⟨t, rfl⟩ := r; rfl
  | byt _ => obtain ⟨t, rfl⟩ := r; rfl
  | flt _ => obtain ⟨t, rfl⟩ := r; rfl
  | ref _ => cases r; rfl
  | ty _ => cases r; rfl
theorem RelV.inj {x y : V} {u : Value} (r : RelV x u) (q : RelV y u) : x = y := Option.some.inj (r.abs.symm.trans q.abs)
theorem Vals.inj : ∀ {xs ys : List V} {us : List Value}, Vals xs us → Vals ys us → xs = ys
  | _, _, _, .nil, .nil => rfl
  | _, _, _, .cons r t, .cons r' t' => by rw [r.inj r', Vals.inj t t']
section
variable {X : Cx} {pins : List (Addr × Obj)} {σ : St} {H : Hp} {s : Shared} {a : Addr} {xs ys : List V}
theorem SqL.of {K : PySem.W.Frag} (h : H a = some (.lst xs)) : SqL K H a xs := .inl (.inl h)
theorem SqT.of {K : PySem.W.Frag} (h : H a = some (.tup xs)) : SqT K H a xs := .inl (.inl h)
theorem Inv.list (I : Inv X pins σ H s) (h : SqL X.K H a xs) : ∃ its : List Value, Vals xs its ∧ PlainL s.heap a its.toArray ∧ xs.length ≤ sizeLine := by
  rcases h with h | ⟨o, its, n, hk, hc, hd, hs, hz, r⟩
  · obtain ⟨z, its, n, r, e⟩ := h.ok I.hok
    exact ⟨its, r, ⟨_, n, e, rfl, rfl, rfl⟩, z⟩
  · refine ⟨its.toList, r, ⟨o, n, I.kIn a o hk, hc, hd, by simpa using hs⟩, ?_⟩
    have e := r.length
    simp only [Array.length_toList] at e
    omega
theorem Inv.tuple (I : Inv X pins σ H s) (h : SqT X.K H a xs) : ∃ its : List Value, Vals xs its ∧ IsTup s.heap a its.toArray ∧ xs.length ≤ sizeLine := by
  rcases h with h | ⟨o, its, n, hk, hc, hs, hz, r⟩
  · obtain ⟨z, its, r, p⟩ := h.ok I.hok
    exact ⟨its, r, p, z⟩
  · refine ⟨its.toList, r, ⟨o, I.kIn a o hk, hc, n, by simpa using hs⟩, ?_⟩
    have e := r.length
    simp only [Array.length_toList] at e
    omega
theorem Inv.list_inj (I : Inv X pins σ H s) (h : SqL X.K H a xs) (h' : SqL X.K H a ys) : xs = ys := by
  obtain ⟨its, r, ⟨o, n, e, _, _, d⟩, _⟩ := I.list h
  obtain ⟨its', r', ⟨o', n', e', _, _, d'⟩, _⟩ := I.list h'
  rw [e] at e'; cases e'
  rw [d] at d'
  injection d' with d1 _
  have : its = its' := by simpa using congrArg Array.toList d1
  subst this
  exact r.inj r'
end
abbrev Cx.wish (X : Cx) (E : Value → Shared → Prop) : Cx := { X with xe := E }
abbrev Cx.nox (X : Cx) : Cx := X.wish fun _ _ => False
theorem Cx.Ok.wish {X : Cx} (ok : X.Ok) (E : Value → Shared → Prop) : (X.wish E).Ok :=
  ⟨ok.mod, ok.kind, ok.glob, ok.blt, ok.above, ok.inj, ok.has, ok.cab, ok.hd, ok.frames, ok.stk, ok.exf, ok.bs, ok.bsz, ok.noex, ok.exfs, ok.funs, ok.frf⟩
theorem Cx.Ok.unwish {X : Cx} {E : Value → Shared → Prop} (ok : (X.wish E).Ok) : X.Ok :=
  ⟨ok.mod, ok.kind, ok.glob, ok.blt, ok.above, ok.inj, ok.has, ok.cab, ok.hd, ok.frames, ok.stk, ok.exf, ok.bs, ok.bsz, ok.noex, ok.exfs, ok.funs, ok.frf⟩
section
variable {X : Cx} {pins : List (Addr × Obj)} {σ : St} {H : Hp} {s : Shared} {E : Value → Shared → Prop}
theorem Inv.wish (I : Inv X pins σ H s) (E : Value → Shared → Prop) : Inv (X.wish E) pins σ H s := ⟨I.ok.wish E, I.os, I.bare, I.base, I.loc, I.cell, I.free, I.freeC, I.pin, I.hok, I.len⟩
theorem Inv.unwish (I : Inv (X.wish E) pins σ H s) : Inv X pins σ H s := ⟨I.ok.unwish, I.os, I.bare, I.base, I.loc, I.cell, I.free, I.freeC, I.pin, I.hok, I.len⟩
theorem SP.unwish {D : Ends} {f : Flow} {s' : Shared} (h : SP (X.wish E) pins D f s') : SP X pins D f s' := by
  cases f with
  | next => obtain ⟨σ', H', I, q⟩ := h; exact ⟨σ', H', I.unwish, q⟩
  | brk => obtain ⟨σ', H', I, q⟩ := h; exact ⟨σ', H', I.unwish, q⟩
  | cont => obtain ⟨σ', H', I, q⟩ := h; exact ⟨σ', H', I.unwish, q⟩
  | ret u => obtain ⟨v, σ', H', I, r, q⟩ := h; exact ⟨v, σ', H', I.unwish, r, q⟩
theorem PSs.nox {st : List Stmt} {t : TS} (h : PSs X.nox st t) : PSs X st t := fun pins s σ H D I hw =>
  wpAny_mono (h pins s σ H D (I.wish _) hw) (fun _ _ q => q.unwish) fun _ _ z => False.elim z
end
section
variable {X : Cx} {st : Stmt} {rest : List Stmt} {t u : TS} {e : Expr} {te : TE} {pos : Pos}
def tNext : TS := fun D σ H => D.nx σ H
def tSeq (t u : TS) : TS := fun D σ H => t { D with nx := u D } σ H
theorem pss_nil : PSs X [] tNext := fun _ _ σ H _ I h => wpAny_execs_nil ⟨σ, H, I, h⟩
theorem pss_cons (h1 : PS X st t) (h2 : PSs X rest u) : PSs X (st :: rest) (tSeq t u) := by
  intro pins s σ H D I h
  refine wpAny_execs_cons (thn (h1 pins s σ H { D with nx := u D } I h) fun f s1 q => ?_)
  cases f with
  | next =>
    obtain ⟨σ', H', I', q⟩ := q
    exact h2 pins s1 σ' H' D I' q
  | ret v => exact q
  | brk => exact q
  | cont => exact q
theorem pss_one (h1 : PS X st t) : PSs X [st] t := by
  intro pins s σ H D I h
  refine wpAny_execs_cons (thn (h1 pins s σ H D I h) fun f s1 q => ?_)
  cases f with
  | next => exact wpAny_execs_nil q
  | ret v => exact q
  | brk => exact q
  | cont => exact q
theorem Inv.quiet {pins : List (Addr × Obj)} {σ : St} {H : Hp} {s : Shared} (I : Inv X pins σ H s) : interactive X.env = false := by simp [interactive, I.ok.kind]
def tDrop (te : TE) : TS := fun D σ H => te σ H fun _ H1 => D.nx σ H1
theorem ps_expr (he : PE X e te) (hs : swapsWith e none pos.line X.env = pure false := by rfl) : PS X (.Expr e pos) (tDrop te) := by
  intro pins s σ H D I h
  exact wpAny_Expr_any (thn (he pins s σ H _ I h) fun v s1 ⟨x, H1, I1, r1, q1⟩ => ⟨σ, H1, I1, q1⟩) I.quiet hs
def tRet (te : TE) : TS := fun D σ H => te σ H D.rt
theorem ps_ret (he : PE X e te) : PS X (.Return (some e) pos) (tRet te) := by
  intro pins s σ H D I h
  exact wpAny_Return_some (thn (he pins s σ H _ I h) fun v s1 ⟨x, H1, I1, r1, q1⟩ => ⟨x, σ, H1, I1, r1, q1⟩)
def tIfS (c : TT) (t u : TS) : TS := fun D σ H => c σ H fun b H1 => if b = true then t D σ H1 else u D σ H1
theorem ps_if {c : Expr} {a b : List Stmt} {tc : TT} (hc : PT X c tc) (ha : PSs X a t) (hb : PSs X b u) : PS X (.If c a b pos) (tIfS tc t u) := by
  intro pins s σ H D I h
  refine wpAny_If (thn (hc pins s σ H _ I h) fun d s1 ⟨H1, I1, q1⟩ => ?_)
  cases d with
  | true => exact ha pins s1 σ H1 D I1 q1
  | false => exact hb pins s1 σ H1 D I1 q1
end
abbrev TG := V → St → Hp → (St → Hp → Prop) → Prop
def PG (X : Cx) (target : Expr) (t : TG) : Prop :=
  ∀ (pins : List (Addr × Obj)) (s : Shared) (σ : St) (H : Hp) (v : V) (u : Value) (Q : St → Hp → Prop), Inv X pins σ H s → RelV v u → t v σ H Q →
    wpAny (model X.prog X.w) X.A (assign target X.env u) (fun _ s' => ∃ σ' H', Inv X pins σ' H' s' ∧ Q σ' H') X.xe s
section
variable {X : Cx} {pos : Pos}
def gName (i : Nat) : TG := fun v σ H Q => Q (σ.set i (some v)) H
theorem pg_name {i : Nat} {x : Str} (hN : X.N.Nodup) (hi : X.N[i]? = some x) (hx : Loc X.env.scope x) (hf : X.fn x = true ∨ X.env.scope.names.lookup x = some .local := by first | exact .inl rfl | exact .inr rfl | assumption) : PG X (.Name x pos) (gName i) := by
  intro pins s σ H v u Q I r h
  exact wpAny_assign_Name (store_ok I hN hi hx r (fun s' I' => ⟨_, H, I', h⟩) hf)
def tAsg (te : TE) (g : TG) : TS := fun D σ H => te σ H fun x H1 => g x σ H1 D.nx
theorem ps_set {i : Nat} {x : Str} {e : Expr} {te : TE} {pos' : Pos} (hN : X.N.Nodup) (hi : X.N[i]? = some x) (hx : Loc X.env.scope x) (he : PE X e te) (hs : swapsWith e (some (.Name x pos')) pos.line X.env = pure false := by rfl) (hf : X.fn x = true ∨ X.env.scope.names.lookup x = some .local := by first | exact .inl rfl | exact .inr rfl | assumption) :
    PS X (.Assign [.Name x pos'] e pos) (tAsg te (gName i)) := by
  intro pins s σ H D I h
  refine wpAny_Assign_Name (thn (he pins s σ H _ I h) fun v s1 ⟨y, H1, I1, r1, q1⟩ => ?_) hs
  exact store_ok I1 hN hi hx r1 (fun s2 I2 => ⟨_, H1, I2, q1⟩) hf
end
structure It where
  go : Nat → Hp → Prop
  yld : Nat → Hp → V → Hp → Prop
  stop : Nat → Hp → Prop
def FpOk (X : Cx) (pins : List (Addr × Obj)) (H : Hp) (b : Addr) : Prop :=
  H b = none ∧ b ≠ X.env.locals ∧ b ∉ X.fs ∧ (b ∈ X.ex ∨ X.s_0.heap.objs.size ≤ b) ∧ (∀ x c, X.env.cells.lookup x = some c → c ≠ b) ∧ ∀ p ∈ X.pn ++ pins, p.1 ≠ b
theorem Inv.fpOk {X : Cx} {pins : List (Addr × Obj)} {σ : St} {H H' : Hp} {s : Shared} {b : Addr} (I : Inv X pins σ H s) (hb : s.heap.objs.size ≤ b) (hn : H' b = none) : FpOk X pins H' b := by
  refine ⟨hn, Nat.ne_of_gt (Nat.lt_of_lt_of_le I.lt hb), I.nofs hb, .inr (Nat.le_trans I.sz hb), fun x c e z => ?_, fun p hp z => ?_⟩
  · obtain ⟨v, q⟩ := I.cell x c e
    exact absurd (Nat.lt_of_lt_of_le q.lt (by rw [z]; exact hb)) (Nat.lt_irrefl _)
  · exact absurd (Nat.lt_of_lt_of_le (Heap.lt_size (I.pin p hp).1) (by rw [z]; exact hb)) (Nat.lt_irrefl _)
structure Turn (P : Program) (w : World) (K : PySem.W.Frag) (tg : Expr) (J : It) (fp : List Addr) (it : Addr) (tn : Nat → Heap → Prop) : Prop where
  mem : it ∈ fp
  obj : ∀ i h, tn i h → ∀ b ∈ fp, ∃ o, h.get? b = some o ∧ ∀ v, o.data ≠ .cell v
  keep : ∀ i h h', tn i h → (∀ b ∈ fp, ∀ o, h.get? b = some o → h'.get? b = some o) → tn i h'
  item : ∀ (X : Cx), X.prog = P → X.w = w → X.K = K → X.calm = true → ∀ (i : Nat) (pins : List (Addr × Obj)) (s : Shared) (σ : St) (H : Hp) (E : Value → Shared → Prop), Inv X pins σ H s → (∀ b ∈ fp, FpOk X pins H b) → tn i s.heap → J.go i H →
    wpAny (model P w) X.A (pyNext (.ref it)) (fun r s1 => ∃ u, r = some u ∧
      wpAny (model P w) X.A (letOwnedTupleGo tg (.ref it) u) (fun _ s2 => ∃ x H', Inv X pins σ H' s2 ∧ RelV x u ∧ J.yld i H x H' ∧ tn (i + 1) s2.heap ∧ ∀ b ∈ fp, H' b = none) E s1) E s
  done : ∀ (X : Cx), X.prog = P → X.w = w → X.K = K → X.calm = true → ∀ (i : Nat) (pins : List (Addr × Obj)) (s : Shared) (σ : St) (H : Hp) (E : Value → Shared → Prop), Inv X pins σ H s → (∀ b ∈ fp, FpOk X pins H b) → tn i s.heap → J.stop i H →
    wpAny (model P w) X.A (pyNext (.ref it)) (fun r s1 => r = none ∧ Inv X pins σ H s1) E s
  self : ∀ (A : Around) (i : Nat) (s : Shared) (Q : Value → Shared → Prop) (E : Value → Shared → Prop), tn i s.heap → Q (.ref it) s → wpAny (model P w) A (pyIter (.ref it)) Q E s
abbrev TI := St → Hp → (It → Hp → Prop) → Prop
def PIE (X : Cx) (pins : List (Addr × Obj)) (σ : St) (tg : Expr) (R : It → Hp → Prop) (itv : Value) (s2 : Shared) : Prop :=
  ∃ (it : Addr) (fp : List Addr) (tn : Nat → Heap → Prop) (J : It) (H' : Hp), itv = .ref it ∧ Inv X pins σ H' s2 ∧ Turn X.prog X.w X.K tg J fp it tn ∧ tn 0 s2.heap ∧ (∀ b ∈ fp, FpOk X pins H' b) ∧ R J H'
def PI (X : Cx) (tg iter : Expr) (wi : TI) : Prop :=
  ∀ (pins : List (Addr × Obj)) (s : Shared) (σ : St) (H : Hp) (R : It → Hp → Prop), Inv X pins σ H s → wi σ H R →
    wpAny (model X.prog X.w) X.A (eval iter X.env) (fun v s1 => wpAny (model X.prog X.w) X.A (pyIter v) (PIE X pins σ tg R) X.xe s1) X.xe s
theorem go_of {M : Model} {A : Around} {E : Value → Shared → Prop} {s : Shared} {tg : Expr} {it : Addr} {u : Value} {o : Obj} {n : String} {vs : Array Value} {Q : Unit → Shared → Prop} (ho : s.heap.get? it = some o) (hc : o.cls = .type n) (hd : o.data = .fields vs)
    (hn : ["enumerate", "zip", "dict_itemiterator", "dict_reverseitemiterator", "odict_iterator", "itertools.zip_longest", "itertools.pairwise"].contains n = false) (hQ : Q () s) : wpAny M A (letOwnedTupleGo tg (.ref it) u) Q E s := by
  unfold letOwnedTupleGo
  cases tg <;> first
    | exact wpAny_pure hQ
    | (cases u <;> first
        | exact wpAny_pure hQ
        | (refine wpAny_bind (wpAny_load ho ?_)
           rw [hc, hd]
           show wpAny M A (if (["enumerate", "zip", "dict_itemiterator", "dict_reverseitemiterator", "odict_iterator", "itertools.zip_longest", "itertools.pairwise"].contains n && vs[0]? == some (rawInt _)) = true then _ else _) Q E s
           rw [if_neg (by intro h; rw [hn, Bool.false_and] at h; cases h)]
           exact wpAny_pure hQ))
def Itl (K : PySem.W.Frag) (a : Addr) : It :=
  ⟨fun i H => ∃ xs x, SqL K H a xs ∧ xs[i]? = some x, fun i H x H' => H' = H ∧ ∀ xs, SqL K H a xs → xs[i]? = some x, fun i H => ∃ xs, SqL K H a xs ∧ xs.length ≤ i⟩
def Itr (lo : Int) (n : Nat) : It := ⟨fun i _ => i < n, fun i H x H' => H' = H ∧ x = .int (lo + i), fun i _ => n ≤ i⟩
theorem turn_list {P : Program} {w : World} {K : PySem.W.Frag} {tg : Expr} (a it : Addr) : Turn P w K tg (Itl K a) [it] it (fun i h => h.IsListIter it a i) where
  mem := by simp
  obj := fun i h st b hb => by
    have e : b = it := by simpa using hb
    subst e
    obtain ⟨o, e, c, d⟩ := st
    exact ⟨o, e, fun v z => by rw [d] at z; cases z⟩
  keep := fun i h h' st k => st.at fun o e => k it (by simp) o e
  item := by
    intro X hP hw hK hc i pins s σ H E I hf st hg
    subst hP hw hK
    obtain ⟨xs, x, hq, hx⟩ := hg
    obtain ⟨its, rv, p, hz⟩ := I.list hq
    obtain ⟨u, hu, ru⟩ := rv.get hx
    obtain ⟨f0, f1, f2, f3, f4, f5⟩ := hf it (by simp)
    refine wpAny_pyNext_list_item st p.isList (x := u) (by simpa using hu) fun h' st' sb => ?_
    have I1 : Inv X pins σ H { s with heap := h' } := I.turned (t' := s.toks) (fun b o hb e => (sb.2 b hb).trans e) f0 f1 f3 f4 f5
    obtain ⟨o, e, c, d⟩ := id st'
    exact ⟨u, rfl, go_of (s := { s with heap := h' }) e c d (by decide) ⟨x, H, I1, ru, ⟨rfl, fun ys hy => by rw [I.list_inj hy hq]; exact hx⟩, st', fun b hb => (hf b hb).1⟩⟩
  done := by
    intro X hP hw hK hc i pins s σ H E I hf st hg
    subst hP hw hK
    obtain ⟨xs, hq, hx⟩ := hg
    obtain ⟨its, rv, p, hz⟩ := I.list hq
    obtain ⟨f0, f1, f2, f3, f4, f5⟩ := hf it (by simp)
    have hl := rv.length
    exact wpAny_pyNext_list_end (I.ok.hd hc) st p.isList (by simp; omega) fun h' eb => ⟨rfl, I.turned (t' := s.toks) (fun b o hb e => eb b o hb e) f0 f1 f3 f4 f5⟩
  self := fun _ _ _ _ _ st h => wpAny_pyIter_listiter st h
theorem turn_range {P : Program} {w : World} {K : PySem.W.Frag} {tg : Expr} (it : Addr) (lo : Int) (n : Nat) : Turn P w K tg (Itr lo n) [it] it (fun i h => IsRangeIter h it (lo + (i : Nat) * 1) ((n : Int) - (i : Nat)) 1) where
  mem := by simp
  obj := fun i h st b hb => by
    have e : b = it := by simpa using hb
    subst e
    exact ⟨_, st, fun v z => by
      have z' : Data.fields _ = Data.cell v := z
      cases z'⟩
  keep := fun i h h' st k => k it (by simp) _ st
  item := by
    intro X hP hw hK hc i pins s σ H E I hf st hg
    subst hP hw hK
    obtain ⟨f0, f1, f2, f3, f4, f5⟩ := hf it (by simp)
    have W := Walks.range (prog := X.prog) (w := X.w) (I.ok.hd hc) it lo 1 n
    refine W.item i s _ _ hg st fun v h' tk hv st' kk => ?_
    obtain ⟨t, rfl⟩ := hv
    have I1 : Inv X pins σ H { s with heap := h', toks := tk } := I.turned (fun b o hb e => kk b o (by simpa using hb) e) f0 f1 f3 f4 f5
    refine ⟨_, rfl, go_of (s := { s with heap := h', toks := tk }) (n := "range_iterator") st' rfl rfl (by decide) ⟨.int (lo + i), H, I1, ⟨t, ?_⟩, ⟨rfl, rfl⟩, st', fun b hb => (hf b hb).1⟩⟩
    rw [Int.mul_one]
  done := by
    intro X hP hw hK hc i pins s σ H E I hf st hg
    subst hP hw hK
    obtain ⟨f0, f1, f2, f3, f4, f5⟩ := hf it (by simp)
    exact wpAny_pyNext_range_end (I.ok.hd hc) st (by have : n ≤ i := hg; omega) fun h' eb => ⟨rfl, I.turned (t' := s.toks) (fun b o hb e => eb b o hb e) f0 f1 f3 f4 f5⟩
  self := fun _ _ _ _ _ st h => wpAny_pyIter_rangeiter st h
end L2
namespace L2
open PySem PySem.Spec PyProof.Rows
section
variable {X : Cx} {tg : Expr}
def iList (K : PySem.W.Frag) (tl : TE) : TI := fun σ H R => tl σ H fun x H1 => ∃ a, x = .ref a ∧ (∃ xs, SqL K H1 a xs) ∧ R (Itl K a) H1
theorem pi_list {l : Expr} {tl : TE} (hl : PE X l tl) : PI X tg l (iList X.K tl) := by
  intro pins s σ H R I h
  refine thn (hl pins s σ H _ I h) fun v s1 ⟨x, H1, I1, r1, q1⟩ => ?_
  obtain ⟨a, e, ⟨xs, hq⟩, q⟩ := q1
  subst e
  cases r1
  obtain ⟨its, rv, p, hz⟩ := I1.list hq
  refine wpAny_pyIter_list p.isList ?_
  refine ⟨s1.heap.objs.size, [s1.heap.objs.size], _, _, H1, rfl, I1.kept (t' := s1.toks) fun b o e => Heap.get?_push_of_some _ e, turn_list a _, ⟨_, Heap.get?_push_size _ rfl, rfl, rfl⟩, fun b hb => ?_, q⟩
  have e : b = s1.heap.objs.size := by simpa using hb
  subst e
  exact I1.fpOk (Nat.le_refl _) (I1.hok.fresh (Nat.le_refl _))
theorem range_it {pins : List (Addr × Obj)} {σ : St} {H : Hp} {s : Shared} {R : It → Hp → Prop} {E : Value → Shared → Prop} {lo hi : Int} {t u v : Tok} {tk : Nat} (I : Inv X pins σ H s) (h1 : -(2 ^ 62) ≤ lo) (h2 : lo < 2 ^ 62) (h3 : -(2 ^ 62) ≤ hi) (h4 : hi < 2 ^ 62)
    (q : R (Itr lo (hi - lo).toNat) H) : wpAny (model X.prog X.w) X.A (pyIter (.ref s.heap.objs.size)) (PIE X pins σ tg R) E { s with heap := s.heap.push { cls := .type "range", data := .fields #[.int lo t, .int hi u, .int 1 v] }, toks := tk } := by
  refine wpAny_pyIter_range (IsRange.new ..) (small_one h1 h2 h3 h4) ?_
  have I1 : Inv X pins σ H { s with heap := s.heap.push { cls := .type "range", data := .fields #[.int lo t, .int hi u, .int 1 v] }, toks := tk } := I.kept fun b o e => Heap.get?_push_of_some _ e
  refine ⟨(s.heap.push { cls := .type "range", data := .fields #[.int lo t, .int hi u, .int 1 v] }).objs.size, [(s.heap.push { cls := .type "range", data := .fields #[.int lo t, .int hi u, .int 1 v] }).objs.size], _, _, H, rfl,
    I1.kept (t' := tk) fun b o e => Heap.get?_push_of_some _ e, turn_range _ lo (hi - lo).toNat, ?_, fun b hb => ?_, q⟩
  · have e1 : lo + ((0 : Nat) : Int) * 1 = lo := by simp
    have e2 : (((hi - lo).toNat : Nat) : Int) - ((0 : Nat) : Int) = Builtin.Range.rangeSize lo hi 1 := by rw [rangeSize_one]; split <;> omega
    show IsRangeIter _ _ (lo + ((0 : Nat) : Int) * 1) ((((hi - lo).toNat : Nat) : Int) - ((0 : Nat) : Int)) 1
    rw [e1, e2]
    exact Heap.get?_push_size _ rfl
  · have e : b = (s.heap.push { cls := .type "range", data := .fields #[.int lo t, .int hi u, .int 1 v] }).objs.size := by simpa using hb
    subst e
    exact I1.fpOk (Nat.le_refl _) (I1.hok.fresh (Nat.le_refl _))
def iRng1 (ta : TA) : TI := fun σ H R => ta σ H fun vs H1 => ∃ j : Int, vs = [.int j] ∧ -(2 ^ 62) ≤ j ∧ j < 2 ^ 62 ∧ R (Itr 0 j.toNat) H1
theorem pi_range1 {a : Expr} {ta : TA} {p pos : Pos} (hg : Gl X "range") (hm : X.mg "range" = none) (ha : PA X [a] ta) (hs : starEach [a] X.env = [(false, eval a X.env)] := by rfl) : PI X tg (.Call (.Name "range" p) [a] [] pos) (iRng1 ta) := by
  intro pins s σ H R I h
  refine Call_ (ld_blt I hg hm boot_range (PyProof.Rows.callWith_type1 (thn (ha pos pins s σ H _ I h) fun us s1 ⟨vs, H1, I1, r1, q1⟩ => ?_) hs rfl))
  obtain ⟨j, e, q1, q2, q⟩ := q1
  subst e
  cases r1 with
  | cons r rr =>
    cases rr
    obtain ⟨t, rfl⟩ := r
    exact call_range_1 (range_it I1 (by omega) (by omega) q1 q2 (by simpa using q))
def tFor (wi : TI) (g : TG) (tb : TS) : TS := fun D σ H => wi σ H fun J H1 => ∃ W : Nat → Nat → St → Hp → Prop, (∃ m, W 0 m σ H1) ∧ ∀ i m σ H, W i m σ H →
  (J.stop i H ∧ D.nx σ H) ∨ (J.go i H ∧ ∃ N : St → Hp → Prop, (∀ σ' H', N σ' H' → ∃ m', m' < m ∧ W (i + 1) m' σ' H') ∧ ∀ x H', J.yld i H x H' → g x σ H' fun σ2 H2 => tb { D with nx := N, ct := N, bk := D.nx } σ2 H2)
def pinsAt (fp : List Addr) (h : Heap) : List (Addr × Obj) := fp.filterMap fun b => (h.get? b).map fun o => (b, o)
theorem mem_pinsAt {fp : List Addr} {h : Heap} {b : Addr} {o : Obj} (hb : b ∈ fp) (e : h.get? b = some o) : (b, o) ∈ pinsAt fp h := List.mem_filterMap.mpr ⟨b, hb, by rw [e]; rfl⟩
theorem of_pinsAt {fp : List Addr} {h : Heap} {p : Addr × Obj} (hp : p ∈ pinsAt fp h) : p.1 ∈ fp ∧ h.get? p.1 = some p.2 := by
  obtain ⟨b, hb, e⟩ := List.mem_filterMap.mp hp
  cases q : h.get? b with
  | none => rw [q] at e; cases e
  | some o =>
    rw [q] at e
    have e' : (b, o) = p := Option.some.inj e
    subst e'
    exact ⟨hb, q⟩
theorem Inv.pinned {pins : List (Addr × Obj)} {σ : St} {H : Hp} {s : Shared} {fp : List Addr} (I : Inv X pins σ H s) (hf : ∀ b ∈ fp, FpOk X pins H b) (ho : ∀ b ∈ fp, ∃ o, s.heap.get? b = some o ∧ ∀ v, o.data ≠ .cell v) : Inv X (pins ++ pinsAt fp s.heap) σ H s :=
  I.pins_of fun p hp => (List.mem_append.mp hp).elim (fun z => I.pin p (List.mem_append_right _ z)) fun z => by
    obtain ⟨hb, e⟩ := of_pinsAt z
    obtain ⟨f0, f1, f2, _⟩ := hf p.1 hb
    obtain ⟨o, e', d⟩ := ho p.1 hb
    rw [e] at e'; cases e'
    exact ⟨e, f0, f1, f2, d⟩
theorem Inv.unpinned {pins pl : List (Addr × Obj)} {σ : St} {H : Hp} {s : Shared} (I : Inv X (pins ++ pl) σ H s) : Inv X pins σ H s := I.pins_of fun p hp => I.pin p (List.mem_append_right _ (List.mem_append_left _ hp))
theorem ps_for {iter : Expr} {body : List Stmt} {wi : TI} {g : TG} {tb : TS} {pos : Pos} (hp : PassesOwn (model X.prog X.w) X.A X.env X.xe) (hc : X.calm = true) (hi : PI X tg iter wi) (hg : PG X tg g) (hb : PSs X body tb)
    (hs : ∀ x, foldedSetIterable iter X.env x = pure x := by intro _; rfl) : PS X (.For tg iter body [] pos) (tFor wi g tb) := by
  intro pins s σ H D I h
  refine wpAny_For (thn (hi pins s σ H _ I h) fun v s1 h1 => thn h1 fun itv s2 h2 => ?_) hs
  obtain ⟨it, fp, tn, J, H2, e, I2, T, st2, f2, W, ⟨m0, w0⟩, turn⟩ := h2
  subst e
  have stat : ∀ {H' : Hp}, (∀ b ∈ fp, H' b = none) → ∀ b ∈ fp, FpOk X pins H' b := fun hn b hb => ⟨hn b hb, (f2 b hb).2⟩
  refine codeAny_forLoop_any (fun n s' => ∃ i σ' H', Inv X pins σ' H' s' ∧ tn i s'.heap ∧ (∀ b ∈ fp, H' b = none) ∧ W i n σ' H') ?_ m0 ⟨0, σ, H2, I2, st2, fun b hb => (f2 b hb).1, w0⟩
  rintro n s3 ⟨i, σ3, H3, I3, st3, fr3, w3⟩
  rcases turn i n σ3 H3 w3 with ⟨stop, qn⟩ | ⟨go, N, hN, step⟩
  · refine wpAny_passesOwn hp (thn (T.done X rfl rfl rfl hc i pins s3 σ3 H3 X.xe I3 (stat fr3) st3 stop) fun r s4 ⟨hr, I4⟩ => ?_)
    subst hr
    exact wpAny_execs_nil ⟨σ3, H3, I4, qn⟩
  · refine wpAny_passesOwn hp (thn (T.item X rfl rfl rfl hc i pins s3 σ3 H3 X.xe I3 (stat fr3) st3 go) fun r s4 ⟨u, hr, h4⟩ => ?_)
    subst hr
    refine wpAny_passesOwn hp (thn h4 fun _ s5 ⟨x, H5, I5, r5, y5, st5, fr5⟩ => ?_)
    have I5' := I5.pinned (stat fr5) (T.obj _ _ st5)
    refine wpAny_passesOwn hp (thn (hg _ s5 σ3 H5 x u _ I5' r5 (step x H5 y5)) fun _ s6 ⟨σ6, H6, I6, q6⟩ => ?_)
    refine wpAny_passesOwn hp (thn (hb _ s6 σ6 H6 _ I6 q6) fun f s7 q7 => ?_)
    have again : ∀ {σ7 : St} {H7 : Hp}, Inv X (pins ++ pinsAt fp s5.heap) σ7 H7 s7 → N σ7 H7 → ∃ m, m < n ∧ ∃ i σ' H', Inv X pins σ' H' s7 ∧ tn i s7.heap ∧ (∀ b ∈ fp, H' b = none) ∧ W i m σ' H' := fun {σ7 H7} I7 n7 => by
      obtain ⟨m', hm, w7⟩ := hN σ7 H7 n7
      refine ⟨m', hm, i + 1, σ7, H7, I7.unpinned, T.keep _ _ _ st5 fun b hb o e => (I7.pin (b, o) (List.mem_append_right _ (List.mem_append_right _ (mem_pinsAt hb e)))).1, fun b hb => ?_, w7⟩
      obtain ⟨o, e, d⟩ := T.obj _ _ st5 b hb
      exact (I7.pin (b, o) (List.mem_append_right _ (List.mem_append_right _ (mem_pinsAt hb e)))).2.1
    cases f with
    | next => obtain ⟨σ7, H7, I7, n7⟩ := q7; exact again I7 n7
    | cont => obtain ⟨σ7, H7, I7, n7⟩ := q7; exact again I7 n7
    | brk => obtain ⟨σ7, H7, I7, q7⟩ := q7; exact ⟨σ7, H7, I7.unpinned, q7⟩
    | ret v => obtain ⟨x7, σ7, H7, I7, r7, q7⟩ := q7; exact ⟨x7, σ7, H7, I7.unpinned, r7, q7⟩
end
theorem for_range {lo : Int} {n : Nat} {g : TG} {tb : TS} {D : Ends} {σ : St} {H : Hp} (Pv : Nat → St → Hp → Prop) (h0 : Pv 0 σ H)
    (hs : ∀ i σ H, i < n → Pv i σ H → g (.int (lo + i)) σ H fun σ2 H2 => tb { D with nx := Pv (i + 1), ct := Pv (i + 1), bk := D.nx } σ2 H2) (hd : ∀ σ H, Pv n σ H → D.nx σ H) :
    ∃ W : Nat → Nat → St → Hp → Prop, (∃ m, W 0 m σ H) ∧ ∀ i m σ H, W i m σ H →
      ((Itr lo n).stop i H ∧ D.nx σ H) ∨ ((Itr lo n).go i H ∧ ∃ N : St → Hp → Prop, (∀ σ' H', N σ' H' → ∃ m', m' < m ∧ W (i + 1) m' σ' H') ∧ ∀ x H', (Itr lo n).yld i H x H' → g x σ H' fun σ2 H2 => tb { D with nx := N, ct := N, bk := D.nx } σ2 H2) := by
  refine ⟨fun i m σ H => m = n - i ∧ i ≤ n ∧ Pv i σ H, ⟨n, by simp, Nat.zero_le _, h0⟩, ?_⟩
  rintro i m σ H ⟨rfl, hi, p⟩
  by_cases hlt : i < n
  · refine .inr ⟨hlt, Pv (i + 1), fun σ' H' p' => ⟨n - (i + 1), by omega, rfl, hlt, p'⟩, fun x H' y => ?_⟩
    obtain ⟨e, y⟩ := y
    subst e y
    exact hs i σ _ hlt p
  · have e : i = n := by omega
    subst e
    exact .inl ⟨Nat.le_refl _, hd σ H p⟩
end L2
namespace L2
open PySem PySem.Spec PyProof.Rows
abbrev R2 := V → V → Hp → VK → Prop
def OpR (X : Cx) (f : Value → Value → Sem Value) (r : R2) : Prop :=
  ∀ (pins : List (Addr × Obj)) (s : Shared) (σ : St) (H : Hp) (x y : V) (v u : Value) (Q : VK), Inv X pins σ H s → RelV x v → RelV y u → r x y H Q →
    wpAny (model X.prog X.w) X.A (f v u) (EP X pins σ Q) X.xe s
def UnR (X : Cx) (f : Value → Sem Value) (r : V → Hp → VK → Prop) : Prop :=
  ∀ (pins : List (Addr × Obj)) (s : Shared) (σ : St) (H : Hp) (x : V) (v : Value) (Q : VK), Inv X pins σ H s → RelV x v → r x H Q →
    wpAny (model X.prog X.w) X.A (f v) (EP X pins σ Q) X.xe s
def CallR (X : Cx) (f : Value) (r : List V → Hp → VK → Prop) : Prop :=
  ∀ (pins : List (Addr × Obj)) (s : Shared) (σ : St) (H : Hp) (xs : List V) (us : List Value) (Q : VK), Inv X pins σ H s → Vals xs us → r xs H Q →
    wpAny (model X.prog X.w) X.A (call f us) (EP X pins σ Q) X.xe s
def tOp (r : R2) (ta tb : TE) : TE := fun σ H Q => ta σ H fun x H1 => tb σ H1 fun y H2 => r x y H2 Q
def tUn (r : V → Hp → VK → Prop) (ta : TE) : TE := fun σ H Q => ta σ H fun x H1 => r x H1 Q
def rI (C : Int → Int → Prop) (g : Int → Int → V) : R2 := fun x y H Q => ∃ i j, x = .int i ∧ y = .int j ∧ C i j ∧ Q (g i j) H
def rI0 (g : Int → Int → V) : R2 := fun x y H Q => ∃ i j, x = .int i ∧ y = .int j ∧ Q (g i j) H
def rU (g : Int → V) : V → Hp → VK → Prop := fun x H Q => ∃ i, x = .int i ∧ Q (g i) H
section
variable {X : Cx} {a b c : Expr} {ta tb tc : TE} {pos : Pos}
theorem binT (ha : PE X a ta) (hb : PE X b tb) {pins : List (Addr × Obj)} {s : Shared} {σ : St} {H : Hp} {R : V → V → Hp → Prop} (I : Inv X pins σ H s)
    (h : ta σ H fun x H1 => tb σ H1 fun y H2 => R x y H2) {Q : Value → Shared → Prop} {f : Value → Value → Sem Value}
    (hf : ∀ v u s2 x y H2, Inv X pins σ H2 s2 → RelV x v → RelV y u → R x y H2 → wpAny (model X.prog X.w) X.A (f v u) Q X.xe s2) :
    wpAny (model X.prog X.w) X.A (eval a X.env) (fun v s₁ => wpAny (model X.prog X.w) X.A (eval b X.env) (fun u s₂ => wpAny (model X.prog X.w) X.A (f v u) Q X.xe s₂) X.xe s₁) X.xe s := by
  refine thn (ha pins s σ H _ I h) fun v s1 ⟨x, H1, I1, r1, q1⟩ => ?_
  refine thn (hb pins s1 σ H1 _ I1 q1) fun u s2 ⟨y, H2, I2, r2, q2⟩ => ?_
  exact hf v u s2 x y H2 I2 r1 r2 q2
theorem pe_op {op : Operator} {r : R2} (ho : OpR X (binaryOp op) r) (ha : PE X a ta) (hb : PE X b tb) : PE X (.BinOp a op b pos) (tOp r ta tb) := by
  intro pins s σ H Q I h
  exact wpAny_BinOp (binT ha hb I h fun v u s2 x y H2 I2 rx ry q => ho pins s2 σ H2 x y v u Q I2 rx ry q)
theorem pe_un {op : UnaryOp} {r : V → Hp → VK → Prop} (ho : UnR X (unaryOp op) r) (ha : PE X a ta) : PE X (.UnaryOp op a pos) (tUn r ta) := by
  intro pins s σ H Q I h
  exact UnaryOp_ (thn (ha pins s σ H _ I h) fun v s1 ⟨x, H1, I1, r1, q1⟩ => ho pins s1 σ H1 x v Q I1 r1 q1)
theorem opI {f : Value → Value → Sem Value} {C : Int → Int → Prop} {g : Int → Int → Int}
    (rule : ∀ (i j : Int) (t u : Tok) (s : Shared) (Q : Value → Shared → Prop) (E : Value → Shared → Prop), C i j → Q (.int (g i j) s.toks) { s with toks := s.toks + 1 } → wpAny (model X.prog X.w) X.A (f (.int i t) (.int j u)) Q E s) :
    OpR X f (rI C fun i j => .int (g i j)) := by
  intro pins s σ H x y v u Q I rx ry h
  obtain ⟨i, j, rfl, rfl, hc, q⟩ := h
  obtain ⟨t, rfl⟩ := rx
  obtain ⟨t', rfl⟩ := ry
  exact rule i j t t' s _ _ hc ⟨.int (g i j), H, I.tok _, ⟨_, rfl⟩, q⟩
theorem opI0 {f : Value → Value → Sem Value} {g : Int → Int → Int}
    (rule : ∀ (i j : Int) (t u : Tok) (s : Shared) (Q : Value → Shared → Prop) (E : Value → Shared → Prop), Q (.int (g i j) s.toks) { s with toks := s.toks + 1 } → wpAny (model X.prog X.w) X.A (f (.int i t) (.int j u)) Q E s) :
    OpR X f (rI0 fun i j => .int (g i j)) := by
  intro pins s σ H x y v u Q I rx ry h
  obtain ⟨i, j, rfl, rfl, q⟩ := h
  obtain ⟨t, rfl⟩ := rx
  obtain ⟨t', rfl⟩ := ry
  exact rule i j t t' s _ _ ⟨.int (g i j), H, I.tok _, ⟨_, rfl⟩, q⟩
theorem opB0 {f : Value → Value → Sem Value} {g : Int → Int → Bool}
    (rule : ∀ (i j : Int) (t u : Tok) (s : Shared) (Q : Value → Shared → Prop) (E : Value → Shared → Prop), Q (.bool (g i j)) s → wpAny (model X.prog X.w) X.A (f (.int i t) (.int j u)) Q E s) :
    OpR X f (rI0 fun i j => .bl (g i j)) := by
  intro pins s σ H x y v u Q I rx ry h
  obtain ⟨i, j, rfl, rfl, q⟩ := h
  obtain ⟨t, rfl⟩ := rx
  obtain ⟨t', rfl⟩ := ry
  exact rule i j t t' s _ _ ⟨.bl (g i j), H, I, rfl, q⟩
def CDiv (i j : Int) : Prop := 0 < j ∧ j < 1073741824
def CMul (i j : Int) : Prop := (-(2 ^ 64) < i ∧ i < 2 ^ 64) ∨ (-(2 ^ 64) < j ∧ j < 2 ^ 64)
theorem CMul.ok {i j : Int} (h : CMul i j) : IntMulOk i j := by
  rcases h with ⟨h1, h2⟩ | ⟨h1, h2⟩
  · exact .of_left (intBits_le_64 h1 h2)
  · exact .of_right (intBits_le_64 h1 h2)
theorem op_sub : OpR X (binaryOp .Sub) (rI0 fun i j => .int (i - j)) := opI0 fun _ _ _ _ _ _ _ q => sub_int q
theorem op_mul : OpR X (binaryOp .Mult) (rI CMul fun i j => .int (i * j)) := opI fun _ _ _ _ _ _ _ hc q => mul_int q hc.ok
theorem op_fdiv : OpR X (binaryOp .FloorDiv) (rI CDiv fun i j => .int (i / j)) := opI fun i j _ _ _ _ _ hc q => by
  have h1 : (0 : Int) < j := hc.1
  have h2 : j < 1073741824 := hc.2
  exact floordiv_int (by omega) (by rw [Int.fdiv_eq_ediv_of_nonneg i (by omega)]; exact q) (.inl (PyProof.noPylong_small (by omega)))
theorem op_mod : OpR X (binaryOp .Mod) (rI (fun _ j => 0 < j) fun i j => .int (i % j)) := opI fun i j _ _ _ _ _ hc q => by
  have h1 : (0 : Int) < j := hc
  exact mod_int' (by omega) (by rw [Int.fmod_eq_emod_of_nonneg i (by omega)]; exact q)
theorem unI {f : Value → Sem Value} {g : Int → Int}
    (rule : ∀ (i : Int) (t : Tok) (s : Shared) (Q : Value → Shared → Prop) (E : Value → Shared → Prop), Q (.int (g i) s.toks) { s with toks := s.toks + 1 } → wpAny (model X.prog X.w) X.A (f (.int i t)) Q E s) :
    UnR X f (rU fun i => .int (g i)) := by
  intro pins s σ H x v Q I rx h
  obtain ⟨i, rfl, q⟩ := h
  obtain ⟨t, rfl⟩ := rx
  exact rule i t s _ _ ⟨.int (g i), H, I.tok _, ⟨_, rfl⟩, q⟩
theorem un_neg : UnR X (unaryOp .USub) (rU fun i => .int (-i)) := unI fun _ _ _ _ _ q => neg_int q
end
def scal : V → V → Bool
  | .non, .non => true | .non, .int _ => true | .int _, .non => true | .non, .bl _ => true | .bl _, .non => true | .non, .str _ => true | .str _, .non => true
  | .int _, .int _ => true | .bl _, .bl _ => true | .str _, .str _ => true | .byt _, .byt _ => true
  | .int _, .str _ => true | .str _, .int _ => true | .bl _, .str _ => true | .str _, .bl _ => true
  | _, _ => false
def rEq : R2 := fun x y H Q => scal x y = true ∧ Q (.bl (decide (x = y))) H
def rNe : R2 := fun x y H Q => scal x y = true ∧ Q (.bl (!decide (x = y))) H
theorem dec_int {i j : Int} : decide (V.int i = V.int j) = (i == j) := by
  rw [Bool.eq_iff_iff]
  simp
theorem dec_bl {i j : Bool} : decide (V.bl i = V.bl j) = (i == j) := by
  rw [Bool.eq_iff_iff]
  simp
theorem dec_str {i j : Str} : decide (V.str i = V.str j) = (i == j) := by
  rw [Bool.eq_iff_iff]
  simp
theorem dec_byt {i j : Array UInt8} : decide (V.byt i = V.byt j) = (i.toList == j.toList) := by
  rw [Bool.eq_iff_iff]
  cases i
  cases j
  simp
section
variable {X : Cx} {a b c : Expr} {ta tb tc : TE} {pos : Pos}
theorem fin_bl {pins : List (Addr × Obj)} {σ : St} {H : Hp} {s : Shared} {Q : VK} {k k' : Bool} (I : Inv X pins σ H s) (q : Q (.bl k) H) (e : k = k') : EP X pins σ Q (.bool k') s := by
  subst e
  exact ⟨.bl k, H, I, rfl, q⟩
theorem op_eq : OpR X (compareOp .Eq) rEq := by
  intro pins s σ H x y v u Q I rx ry h
  obtain ⟨hs, q⟩ := h
  cases x with
  | non =>
    cases rx
    cases y with
    | non => cases ry; exact PySem.EqNone.eq_none_none (fin_bl I q (by simp))
    | bl j => cases ry; exact PySem.EqNone.eq_none_bool (fin_bl I q (by simp))
    | int j => obtain ⟨t', rfl⟩ := ry; exact PySem.EqNone.eq_none_int (fin_bl I q (by simp))
    | str j => obtain ⟨t', rfl⟩ := ry; exact PySem.EqNone.eq_none_str (fin_bl I q (by simp))
    | _ => exact absurd (show false = true from hs) Bool.false_ne_true
  | bl i =>
    cases rx
    cases y with
    | non => cases ry; exact PySem.EqNone.eq_bool_none (fin_bl I q (by simp))
    | bl j => cases ry; exact eq_bool (fin_bl I q dec_bl)
    | str j => obtain ⟨t', rfl⟩ := ry; exact PySem.EqMixed.eq_bool_str (fin_bl I q (by simp))
    | _ => exact absurd (show false = true from hs) Bool.false_ne_true
  | int i =>
    obtain ⟨t, rfl⟩ := rx
    cases y with
    | non => cases ry; exact PySem.EqNone.eq_int_none (fin_bl I q (by simp))
    | int j => obtain ⟨t', rfl⟩ := ry; exact eq_int (fin_bl I q dec_int)
    | str j => obtain ⟨t', rfl⟩ := ry; exact PySem.EqMixed.eq_int_str (fin_bl I q (by simp))
    | _ => exact absurd (show false = true from hs) Bool.false_ne_true
  | str i =>
    obtain ⟨t, rfl⟩ := rx
    cases y with
    | non => cases ry; exact PySem.EqNone.eq_str_none (fin_bl I q (by simp))
    | bl j => cases ry; exact PySem.EqMixed.eq_str_bool (fin_bl I q (by simp))
    | int j => obtain ⟨t', rfl⟩ := ry; exact PySem.EqMixed.eq_str_int (fin_bl I q (by simp))
    | str j => obtain ⟨t', rfl⟩ := ry; exact eq_str (fin_bl I q dec_str)
    | _ => exact absurd (show false = true from hs) Bool.false_ne_true
  | byt i =>
    obtain ⟨t, rfl⟩ := rx
    cases y with
    | byt j => obtain ⟨t', rfl⟩ := ry; exact PySem.W.eq_bytes (fin_bl I q dec_byt)
    | _ => exact absurd (show false = true from hs) Bool.false_ne_true
  | _ => cases y <;> exact absurd (show false = true from hs) Bool.false_ne_true
theorem op_ne : OpR X (compareOp .NotEq) rNe := by
  intro pins s σ H x y v u Q I rx ry h
  obtain ⟨hs, q⟩ := h
  cases x with
  | non =>
    cases rx
    cases y with
    | non => cases ry; exact PySem.EqNone.ne_none_none (fin_bl I q (by simp))
    | bl j => cases ry; exact PySem.EqNone.ne_none_bool (fin_bl I q (by simp))
    | int j => obtain ⟨t', rfl⟩ := ry; exact PySem.EqNone.ne_none_int (fin_bl I q (by simp))
    | str j => obtain ⟨t', rfl⟩ := ry; exact PySem.EqNone.ne_none_str (fin_bl I q (by simp))
    | _ => exact absurd (show false = true from hs) Bool.false_ne_true
  | bl i =>
    cases rx
    cases y with
    | non => cases ry; exact PySem.EqNone.ne_bool_none (fin_bl I q (by simp))
    | bl j => cases ry; exact ne_bool (fin_bl I q (congrArg not dec_bl))
    | str j => obtain ⟨t', rfl⟩ := ry; exact PySem.EqMixed.ne_bool_str (fin_bl I q (by simp))
    | _ => exact absurd (show false = true from hs) Bool.false_ne_true
  | int i =>
    obtain ⟨t, rfl⟩ := rx
    cases y with
    | non => cases ry; exact PySem.EqNone.ne_int_none (fin_bl I q (by simp))
    | int j => obtain ⟨t', rfl⟩ := ry; exact ne_int (fin_bl I q (congrArg not dec_int))
    | str j => obtain ⟨t', rfl⟩ := ry; exact PySem.EqMixed.ne_int_str (fin_bl I q (by simp))
    | _ => exact absurd (show false = true from hs) Bool.false_ne_true
  | str i =>
    obtain ⟨t, rfl⟩ := rx
    cases y with
    | non => cases ry; exact PySem.EqNone.ne_str_none (fin_bl I q (by simp))
    | bl j => cases ry; exact PySem.EqMixed.ne_str_bool (fin_bl I q (by simp))
    | int j => obtain ⟨t', rfl⟩ := ry; exact PySem.EqMixed.ne_str_int (fin_bl I q (by simp))
    | str j => obtain ⟨t', rfl⟩ := ry; exact ne_str (fin_bl I q (congrArg not dec_str))
    | _ => exact absurd (show false = true from hs) Bool.false_ne_true
  | byt i =>
    obtain ⟨t, rfl⟩ := rx
    cases y with
    | byt j => obtain ⟨t', rfl⟩ := ry; exact PySem.W.ne_bytes (fin_bl I q (congrArg not dec_byt))
    | _ => exact absurd (show false = true from hs) Bool.false_ne_true
  | _ => cases y <;> exact absurd (show false = true from hs) Bool.false_ne_true
theorem op_lt : OpR X (compareOp .Lt) (rI0 fun i j => .bl (decide (i < j))) := opB0 fun _ _ _ _ _ _ _ q => lt_int q
theorem op_le : OpR X (compareOp .LtE) (rI0 fun i j => .bl (decide (i ≤ j))) := opB0 fun _ _ _ _ _ _ _ q => le_int q
theorem op_gt : OpR X (compareOp .Gt) (rI0 fun i j => .bl (decide (j < i))) := opB0 fun _ _ _ _ _ _ _ q => gt_int q
theorem op_ge : OpR X (compareOp .GtE) (rI0 fun i j => .bl (decide (j ≤ i))) := opB0 fun _ _ _ _ _ _ _ q => ge_int q
theorem nomark (b : Expr) {op : CmpOp} (h : op ≠ .In := by decide) (h2 : op ≠ .NotIn := by decide) : behindInMarks op b = false := by
  have e1 : (op == CmpOp.In) = false := by cases op <;> first | rfl | exact absurd rfl h
  have e2 : (op == CmpOp.NotIn) = false := by cases op <;> first | rfl | exact absurd rfl h2
  cases b <;> simp [behindInMarks, e1, e2]
theorem pe_cmpR {op : CmpOp} {r : R2} (ho : OpR X (compareOp op) r) (ha : PE X a ta) (hb : PE X b tb) (hm : behindInMarks op b = false) : PE X (.Compare a [op] [b] pos) (tOp r ta tb) := by
  intro pins s σ H Q I h
  exact wpAny_Compare1 (binT ha hb I h fun v u s2 x y H2 I2 rx ry q => ho pins s2 σ H2 x y v u Q I2 rx ry q) hm
def tTest (t : TE) : TT := fun σ H Q => t σ H fun x H' => ∃ k, x = .bl k ∧ Q k H'
theorem pt_cmpR {op : CmpOp} {r : R2} (ho : OpR X (compareOp op) r) (ha : PE X a ta) (hb : PE X b tb) (hm : behindInMarks op b = false) : PT X (.Compare a [op] [b] pos) (tTest (tOp r ta tb)) := by
  intro pins s σ H Q I h
  refine wpAny_isTrue_Compare1 (thn (ha pins s σ H _ I h) fun v s1 ⟨x, H1, I1, r1, q1⟩ => thn (hb pins s1 σ H1 _ I1 q1) fun u s2 ⟨y, H2, I2, r2, q2⟩ =>
    thn (ho pins s2 σ H2 x y v u _ I2 r1 r2 q2) fun c s3 ⟨z, H3, I3, r3, k, e, q3⟩ => ?_) hm
  subst e
  cases r3
  exact wpAny_truthy_bool ⟨H3, I3, q3⟩
def tChain (r r' : R2) (ta tb tc : TE) : TE := fun σ H Q => ta σ H fun x H1 => tb σ H1 fun y H2 => r x y H2 fun z H3 => ∃ k, z = .bl k ∧
  (if k = true then tc σ H3 fun w' H4 => r' y w' H4 Q else Q (.bl false) H3)
theorem pe_chain {op op' : CmpOp} {r r' : R2} (ho : OpR X (compareOp op) r) (ho' : OpR X (compareOp op') r') (ha : PE X a ta) (hb : PE X b tb) (hc : PE X c tc)
    (hm : lastMarks [op, op'] [b, c] = false := by with_unfolding_all rfl) : PE X (.Compare a [op, op'] [b, c] pos) (tChain r r' ta tb tc) := by
  intro pins s σ H Q I h
  refine Compare_chain (thn (ha pins s σ H _ I h) fun v s1 ⟨x, H1, I1, r1, q1⟩ => chain_link (thn (hb pins s1 σ H1 _ I1 q1) fun u s2 ⟨y, H2, I2, r2, q2⟩ =>
    thn (ho pins s2 σ H2 x y v u _ I2 r1 r2 q2) fun d s3 ⟨z, H3, I3, r3, k, e, q3⟩ => ?_)) hm
  subst e
  cases r3
  refine wpAny_truthy_bool ?_
  cases k with
  | false => exact ite_ff ⟨.bl false, H3, I3, rfl, q3⟩
  | true => exact ite_tt (chain_last (thn (hc pins s3 σ H3 _ I3 q3) fun w' s4 ⟨z', H4, I4, r4, q4⟩ => ho' pins s4 σ H4 y z' u w' Q I4 r2 r4 q4))
theorem line63 : (sizeLine : Nat) < 2 ^ 63 := by rw [sizeLine_eq]; decide
theorem op_add_str : OpR X (binaryOp .Add) (fun x y H Q => ∃ i j, x = .str i ∧ y = .str j ∧ i.length + j.length ≤ sizeLine ∧ Q (.str (i ++ j)) H) := by
  intro pins s σ H x y v u Q I rx ry h
  obtain ⟨i, j, rfl, rfl, hz, q⟩ := h
  obtain ⟨t, rfl⟩ := rx
  obtain ⟨t', rfl⟩ := ry
  exact add_str (fun t' tk => ⟨.str (i ++ j), H, I.tok _, ⟨_, rfl⟩, q⟩) hz
theorem vals1 {x : V} {us : List Value} (r : Vals [x] us) : ∃ u, us = [u] ∧ RelV x u := by
  cases r with
  | cons r1 r2 => cases r2; exact ⟨_, rfl, r1⟩
theorem call_str_int : CallR X (.type "str") (fun xs H Q => ∃ i, xs = [.int i] ∧ i.natAbs.log2 < 1920 ∧ Q (.str (toString i)) H) := by
  intro pins s σ H xs us Q I r h
  obtain ⟨i, rfl, hz, q⟩ := h
  obtain ⟨u, rfl, t, rfl⟩ := vals1 r
  exact PySem.P.str_of_int hz ⟨.str _, H, I.tok _, ⟨_, rfl⟩, q⟩
theorem call_ord : CallR X (.builtin "ord") (fun xs H Q => ∃ x, xs = [.str x] ∧ x.length = 1 ∧ Q (.int (x.cps.getD 0 0 : Nat)) H) := by
  intro pins s σ H xs us Q I r h
  obtain ⟨x, rfl, hz, q⟩ := h
  obtain ⟨u, rfl, t, rfl⟩ := vals1 r
  exact ord_of_one hz ⟨.int _, H, I.tok _, ⟨_, rfl⟩, q⟩
end
end L2
namespace L2
open PySem PySem.Spec PyProof.Rows
structure ObjM (h : Heap) (x dx C : Addr) (mA : Str → Option Value) : Prop where
  obj : h.get? x = some (PySem.W.instObj C dx)
  ns : h.Ns1 dx mA
  ne : dx ≠ x
theorem lookIn_ns {h : Heap} {dx : Addr} {mA : Str → Option Value} (n : h.Ns1 dx mA) : ∃ od, h.get? dx = some od ∧ ∀ name, PySem.W.lookIn name od = some (mA name) := by
  obtain ⟨o, es, ep, ho, hd, hk, _, hm⟩ := n
  refine ⟨o, ho, fun name => ?_⟩
  have e := hm name
  unfold nsFind findBy at e
  rw [← Array.find?_toList] at e
  unfold PySem.W.lookIn
  rw [hd]
  dsimp only
  split
  · rename_i y q
    rw [q] at e
    exact congrArg some e
  · rename_i q
    rw [q] at e
    have a : es.toList.any (·.refKey) = false := by
      rw [List.any_eq_false]
      intro y hy
      obtain ⟨z, t, hkey⟩ := hk y (Array.mem_toList_iff.mp hy)
      simp [DictEntry.refKey, hkey]
    have a' : ¬ es.toList.any (·.refKey) = true := by rw [a]; exact Bool.false_ne_true
    rw [if_neg a']
    exact congrArg some e
theorem ObjM.look {h : Heap} {x dx C : Addr} {mA : Str → Option Value} (I : ObjM h x dx C mA) : ∃ od, PySem.W.InstAt h x (PySem.W.instObj C dx) C (some od) ∧ ∀ name, PySem.W.lookIn name od = some (mA name) :=
  let ⟨od, ho, hl⟩ := lookIn_ns I.ns
  ⟨od, ⟨I.obj, rfl, rfl, ho⟩, hl⟩
section
variable {prog : Program} {w : World} {A : Around} {E : Value → Shared → Prop} {s : Shared} {K : PySem.W.Frag} {x dx C f : Addr} {mA : Str → Option Value} {name : Str} {v : Value}
theorem get_map {expr : Bool} {Q : Value → Shared → Prop} (X : K.In s.heap) (I : ObjM s.heap x dx C mA) (hg : PySem.W.plainGet K C name = true) (hh : PySem.W.hasDictIn K C = true)
    (ha : PySem.W.findIn K (.ref C) name = some none) (hv : mA name = some v) (hv' : PySem.W.handedIn v = true) (h : Q v { s with toks := s.toks + 1 }) :
    wpAny (model prog w) A (getAttr (.ref x) name expr) Q E s := by
  obtain ⟨od, J, hl⟩ := I.look
  exact PySem.W.get_value X J (PySem.W.plainGet_of hg).1 (PySem.W.findObj_own hh ha rfl (by rw [hl, hv])) hv' h
theorem get_meth {pl : Sem Bool} {Q : Value × List Value → Shared → Prop} (X : K.In s.heap) (I : ObjM s.heap x dx C mA) (hg : PySem.W.plainGet K C name = true)
    (hf : PySem.W.findIn K (.ref C) name = some (some (.ref f))) (ht : PySem.W.isFn K (.ref f) = true) (hv : mA name = none) (h : Q (.ref f, [.ref x]) s) :
    wpAny (model prog w) A (getMethod (.ref x) name pl) Q E s := by
  obtain ⟨od, J, hl⟩ := I.look
  exact PySem.W.method_fn X J (PySem.W.plainGet_of hg).1 (PySem.W.plainGet_of hg).2 hf (beq_iff_eq.mp ht) (by show (PySem.W.lookIn name od).map (·.isSome) = some false; rw [hl, hv]; rfl) h
theorem set_map {ns : List Str} {Q : Unit → Shared → Prop} (X : K.In s.heap) (I : ObjM s.heap x dx C mA)
    (hs : PySem.W.findIn K (.ref C) "__setattr__" = some (some (.builtin "object.__setattr__"))) (hp : PySem.W.plainOver K C = true) (ht : PySem.W.takerIn K C name = some none) (hh : PySem.W.hasDictIn K C = true)
    (hw : PySem.Within mA ns) (hsz : ns.length ≤ sizeLine)
    (h : ∀ h', ObjM h' x dx C (fun y => if y = name then some v else mA y) → Heap.SameBut dx s.heap h' → Q () { s with heap := h', toks := s.toks + 2 }) :
    wpAny (model prog w) A (setAttr (.ref x) name v) Q E s := by
  obtain ⟨od, J, hl⟩ := I.look
  refine PySem.W.set_plain X J hs (PySem.W.osa_open (s := { s with toks := s.toks + 1 }) (r := none) X J hp ht fun b => ?_)
  obtain ⟨cd, hc, hd'⟩ := PySem.W.any_some hh
  have hx : s.heap.get? x = some ⟨.ref C, some dx, .plain, #[]⟩ := I.obj
  refine wpAny_bind (wpAny_pure (wpAny_bind (wpAny_bind (wpAny_loadPart hx (wpAny_bind (PySem.W.Looks.here (s := { s with toks := s.toks + 1 }) (PySem.W.looks_clsIn X hc) ?_))))))
  rw [hd']
  refine wpAny_pure (a := some dx) (wpAny_bind (wpAny_pure (wpAny_bind ?_)))
  refine wpAny_nsSet1 (s := { s with toks := s.toks + 1 }) I.ns fun h' hn2 hs2 => ?_
  obtain ⟨oD, esD, epD, hoD, hdD, hcD⟩ := hn2.count (PySem.Within.cons name v hw)
  refine wpAny_bind (wpAny_lookBehind hoD (by rw [hdD]; exact pastItsLine_dict (Nat.le_trans hcD (by rw [List.length_cons]; omega))) ?_)
  exact wpAny_pure (h _ ⟨(hs2.2 _ (Ne.symm I.ne)).trans I.obj, hn2, I.ne⟩ hs2)
theorem make_map {R : Result → Shared → Prop} {vs : List Value} {kw : List (Str × Value)} (X : K.In s.heap) (hm : PySem.W.makesIn K C = true)
    (hi : PySem.W.findIn K (.ref C) "__init__" = some (some (.ref f))) (hf : PySem.W.typeIn K (.ref f) = some (.type "function"))
    (h : codeAny (model prog w) (A.under (.builtin "type.__call__" ⟨.ref C :: vs, kw⟩)) (.call (.ref f) ⟨.ref (s.heap.objs.size + 1) :: vs, kw⟩) (PySem.W.InitBack (s.heap.objs.size + 1) R)
      { s with heap := (s.heap.push PySem.W.emptyDict).push (PySem.W.instObj C s.heap.objs.size) }) :
    codeAny (model prog w) A (.call (.ref C) ⟨vs, kw⟩) R s := by
  obtain ⟨hh, g, d, t, os⟩ := s
  exact PySem.W.make_core (PySem.W.makes_of X hm) (PySem.W.looks_findIn X hi) (fun self => PySem.W.bind_fn X self hf) (.inl rfl) h
end
def putF (f : Str) (v : V) : List (Str × V) → List (Str × V)
  | [] => [(f, v)]
  | (g, x) :: r => if g = f then (g, v) :: r else (g, x) :: putF f v r
theorem lookup_putF (f g : Str) (v : V) : ∀ fs : List (Str × V), (putF f v fs).lookup g = if g = f then some v else fs.lookup g
  | [] => by
    show List.lookup g [(f, v)] = _
    by_cases h : g = f
    · have hb : (g == f) = true := beq_iff_eq.mpr h
      simp only [List.lookup, hb, if_pos h]
    · have hb : (g == f) = false := beq_eq_false_iff_ne.mpr h
      simp only [List.lookup, hb, if_neg h]
  | (k, x) :: r => by
    have ih := lookup_putF f g v r
    rw [show putF f v ((k, x) :: r) = (if k = f then (k, v) :: r else (k, x) :: putF f v r) from rfl]
    by_cases hk : k = f
    · rw [if_pos hk]
      by_cases h : g = k
      · have hb : (g == k) = true := beq_iff_eq.mpr h
        simp only [List.lookup, hb, if_pos (h.trans hk)]
      · have hb : (g == k) = false := beq_eq_false_iff_ne.mpr h
        simp only [List.lookup, hb, if_neg (fun e : g = f => h (e.trans hk.symm))]
    · rw [if_neg hk]
      by_cases h : g = k
      · have hb : (g == k) = true := beq_iff_eq.mpr h
        simp only [List.lookup, hb, if_neg (fun e : g = f => hk (h.symm.trans e))]
      · have hb : (g == k) = false := beq_eq_false_iff_ne.mpr h
        simp only [List.lookup, hb]
        exact ih
theorem keys_putF (f : Str) (v : V) : ∀ fs : List (Str × V), f ∈ (putF f v fs).map (·.1) ∧ ∀ g, g ∈ fs.map (·.1) → g ∈ (putF f v fs).map (·.1)
  | [] => ⟨by simp [putF], fun g h => by simp at h⟩
  | (k, x) :: r => by
    obtain ⟨i1, i2⟩ := keys_putF f v r
    rw [show putF f v ((k, x) :: r) = (if k = f then (k, v) :: r else (k, x) :: putF f v r) from rfl]
    by_cases hk : k = f
    · rw [if_pos hk]
      subst hk
      exact ⟨by simp, fun g h => by simpa using h⟩
    · rw [if_neg hk]
      refine ⟨?_, fun g h => ?_⟩
      · rw [List.map_cons]
        exact List.mem_cons_of_mem _ i1
      · rw [List.map_cons] at h ⊢
        rcases List.mem_cons.mp h with e | e
        · exact List.mem_cons.mpr (.inl e)
        · exact List.mem_cons_of_mem _ (i2 g e)
theorem length_putF (f : Str) (v : V) : ∀ fs : List (Str × V), (putF f v fs).length ≤ fs.length + 1
  | [] => by simp [putF]
  | (k, x) :: r => by
    have ih := length_putF f v r
    rw [show putF f v ((k, x) :: r) = (if k = f then (k, v) :: r else (k, x) :: putF f v r) from rfl]
    by_cases hk : k = f
    · rw [if_pos hk, List.length_cons, List.length_cons]; omega
    · rw [if_neg hk, List.length_cons, List.length_cons]; omega
theorem RelO.some_of {v : V} {o : Option Value} (r : RelO (some v) o) : ∃ u, o = some u ∧ RelV v u := by
  cases o with
  | none => exact (show False from r).elim
  | some u => exact ⟨u, rfl, r⟩
theorem RelO.none_of {o : Option Value} (r : RelO none o) : o = none := by
  cases o with
  | none => rfl
  | some u => exact (show False from r).elim
theorem handed_of {v : V} {u : Value} (r : RelV v u) : PySem.W.handedIn u = true := by
  cases v with
  | non => cases (show u = Value.none from r); rfl
  | bl b => cases (show u = Value.bool b from r); rfl
  | int i => obtain ⟨t, e⟩ := (show ∃ t, u = Value.int i t from r); cases e; rfl
  | str x => obtain ⟨t, e⟩ := (show ∃ t, u = Value.str x t from r); cases e; rfl
  | byt b => obtain ⟨t, e⟩ := (show ∃ t, u = Value.bytes b t from r); cases e; rfl
  | flt b => obtain ⟨t, e⟩ := (show ∃ t, u = Value.float b t from r); cases e; rfl
  | ref a => cases (show u = Value.ref a from r); rfl
  | ty n => cases (show u = Value.type n from r); rfl
section
variable {P : Program} {w : World} {H H' : Hp} {h h' : Heap} {a C dx : Addr} {fs fs' : List (Str × V)}
theorem ins_get (hok : HOk P w H h) (e : H a = some (.ins C dx fs)) : ∃ mA, ObjM h a dx C mA ∧ (∀ f, RelO (fs.lookup f) (mA f)) ∧ PySem.Within mA (fs.map (·.1)) ∧ fs.length ≤ 1000 ∧ H dx = some (.own a) := by
  obtain ⟨d, z, ne, ob, mA, n, r, q⟩ := (show ObjOk P w H h a (.ins C dx fs) from hok a _ e)
  exact ⟨mA, ⟨ob, n, ne⟩, r, q, z, d⟩
end
structure Cls (K : PySem.W.Frag) (C : Addr) : Prop where
  pg : PySem.W.plainGet K C Str.empty = true
  hd : PySem.W.hasDictIn K C = true
  po : PySem.W.plainOver K C = true
  sa : PySem.W.findIn K (.ref C) "__setattr__" = some (some (.builtin "object.__setattr__"))
theorem Cls.get {K : PySem.W.Frag} {C : Addr} (c : Cls K C) (f : Str) : PySem.W.plainGet K C f = true := c.pg
def NoAttr (K : PySem.W.Frag) (C : Addr) (f : Str) : Prop := PySem.W.findIn K (.ref C) f = some none
theorem NoAttr.taker {K : PySem.W.Frag} {C : Addr} {f : Str} (n : NoAttr K C f) : PySem.W.takerIn K C f = some none := by
  unfold PySem.W.takerIn
  rw [show PySem.W.findIn K (.ref C) f = some none from n]
  rfl
structure Meth (K : PySem.W.Frag) (C : Addr) (m : Str) (f : Addr) : Prop where
  at_ : PySem.W.findIn K (.ref C) m = some (some (.ref f))
  fn : PySem.W.isFn K (.ref f) = true
  kp : PySem.W.keepIn K (.ref f) = true
section
variable {X : Cx} {pins : List (Addr × Obj)} {σ : St} {H : Hp} {s : Shared} {a C dx : Addr} {fs : List (Str × V)} {f : Str} {v : V} {A : Around} {E : Value → Shared → Prop}
theorem getattr_ok {b : Bool} {Q : Value → Shared → Prop} (I : Inv X pins σ H s) (e : H a = some (.ins C dx fs)) (c : Cls X.K C) (n : NoAttr X.K C f) (l : fs.lookup f = some v)
    (h : ∀ u s', Inv X pins σ H s' → RelV v u → Q u s') : wpAny (model X.prog X.w) A (getAttr (.ref a) f b) Q E s := by
  obtain ⟨mA, O, r, _, _, _⟩ := ins_get I.hok e
  obtain ⟨u, hu, ru⟩ := RelO.some_of (v := v) (o := mA f) (by rw [← l]; exact r f)
  exact get_map I.kIn O (c.get f) c.hd n hu (handed_of ru) (h u _ (I.tok _) ru)
theorem getmeth_ok {m : Str} {g : Addr} {pl : Sem Bool} {Q : Value × List Value → Shared → Prop} (I : Inv X pins σ H s) (e : H a = some (.ins C dx fs)) (c : Cls X.K C) (k : Meth X.K C m g) (l : fs.lookup m = none)
    (h : Q (.ref g, [.ref a]) s) : wpAny (model X.prog X.w) A (getMethod (.ref a) m pl) Q E s := by
  obtain ⟨mA, O, r, _, _, _⟩ := ins_get I.hok e
  have hn : mA m = none := RelO.none_of (by rw [← l]; exact r m)
  exact get_meth I.kIn O (c.get m) k.at_ k.fn hn h
theorem setattr_ok {y : V} {u : Value} {Q : Unit → Shared → Prop} (I : Inv X pins σ H s) (e : H a = some (.ins C dx fs)) (c : Cls X.K C) (n : NoAttr X.K C f) (hl : fs.length < 1000) (ry : RelV y u)
    (h : ∀ s', Inv X pins σ (upd H a (.ins C dx (putF f y fs))) s' → Q () s') : wpAny (model X.prog X.w) A (setAttr (.ref a) f u) Q E s := by
  obtain ⟨mA, O, r, wi, _, ho⟩ := ins_get I.hok e
  have hz : (fs.map (·.1)).length ≤ sizeLine := by rw [List.length_map, sizeLine_eq]; omega
  refine set_map I.kIn O c.sa c.po n.taker c.hd wi hz fun h' O' sb => h _ ?_
  have hd : ∃ o, h'.get? dx = some o := let ⟨o, _, _, e', _⟩ := O'.ns; ⟨o, e'⟩
  refine I.write (x := a) (e := dx) (by rw [e]; exact True.intro) (.inr ho) (fun b q hb z => (sb.2 b hb).trans z) hd ?_
  refine ⟨by rw [upd_ne O.ne]; exact ho, ?_, O.ne, O'.obj, _, O'.ns, fun g => ?_, fun g hg => ?_⟩
  · have := length_putF f y fs; omega
  · show RelO ((putF f y fs).lookup g) (if g = f then some u else mA g)
    rw [lookup_putF]
    by_cases q : g = f
    · rw [if_pos q, if_pos q]; exact ry
    · rw [if_neg q, if_neg q]; exact r g
  · by_cases q : g = f
    · rw [q]; exact (keys_putF f y fs).1
    · refine (keys_putF f y fs).2 g (wi g fun z => hg ?_)
      show (if g = f then some u else mA g) = none
      rw [if_neg q]; exact z
theorem Inv.made (I : Inv X pins σ H s) : Inv X pins σ (upd (upd H s.heap.objs.size (.own (s.heap.objs.size + 1))) (s.heap.objs.size + 1) (.ins C s.heap.objs.size []))
    { s with heap := (s.heap.push PySem.W.emptyDict).push (PySem.W.instObj C s.heap.objs.size) } := by
  have e1 : (s.heap.push PySem.W.emptyDict).get? s.heap.objs.size = some PySem.W.emptyDict := Heap.get?_push_size s.heap rfl
  have e2 : ((s.heap.push PySem.W.emptyDict).push (PySem.W.instObj C s.heap.objs.size)).get? (s.heap.objs.size + 1) = some (PySem.W.instObj C s.heap.objs.size) := by
    have := Heap.get?_push_size (s.heap.push PySem.W.emptyDict) (o := PySem.W.instObj C s.heap.objs.size) rfl
    rwa [Heap.size_push] at this
  have e3 : (s.heap.push PySem.W.emptyDict).Ns s.heap.objs.size (fun _ => none) := ⟨PySem.W.emptyDict, #[], _, e1, rfl, (fun e he => absurd he (by simp)), fun _ => rfl⟩
  have I1 := I.laid (a := s.heap.objs.size) (o := .own (s.heap.objs.size + 1)) (h' := s.heap.push PySem.W.emptyDict) (t' := s.toks) (fun b u q => Heap.get?_push_of_some _ q) (Nat.le_refl _) ⟨_, e1⟩
  refine I1.laid (a := s.heap.objs.size + 1) (o := .ins C s.heap.objs.size []) (t' := s.toks) (fun b u q => Heap.get?_push_of_some _ q) (Nat.le_of_eq (Heap.size_push _ _)) ?_
  have ne : s.heap.objs.size ≠ s.heap.objs.size + 1 := Nat.ne_of_lt (Nat.lt_succ_self _)
  refine ⟨by rw [upd_ne ne, upd_same], Nat.zero_le _, ne, e2, fun _ => none, (Heap.Ns1.of_empty e3).at fun o q => Heap.get?_push_of_some _ q, fun _ => True.intro, fun y hy => absurd rfl hy⟩
theorem attr_of {prog : Program} {w : World} {env : Env} {e : Expr} {f : Str} {pos : Pos} {s : Shared} {Q : Value → Shared → Prop} (hb : attributeBase e f env (eval e env) = eval e env)
    (h : wpAny (model prog w) A (eval e env) (fun o s₁ => wpAny (model prog w) A (getAttr o f true) Q E s₁) E s) : wpAny (model prog w) A (eval (.Attribute e f pos) env) Q E s :=
  Attribute_any_ h (by rw [arm_eval_Attribute, hb])
end
def tFld (K : PySem.W.Frag) (ta : TE) (f : Str) : TE := fun σ H Q => ta σ H fun x H1 => ∃ a C dx fs v, x = .ref a ∧ H1 a = some (.ins C dx fs) ∧ Cls K C ∧ NoAttr K C f ∧ fs.lookup f = some v ∧ Q v H1
def sFld (K : PySem.W.Frag) (ta tv : TE) (f : Str) : TS := fun D σ H => tv σ H fun y H1 => ta σ H1 fun x H2 => ∃ a C dx fs, x = .ref a ∧ H2 a = some (.ins C dx fs) ∧ Cls K C ∧ NoAttr K C f ∧ fs.length < 1000 ∧
  D.nx σ (upd H2 a (.ins C dx (putF f y fs)))
def InOp (X : Cx) (op : Operator) (rd : V → V → Hp → VK → Prop) : Prop :=
  ∀ (pins : List (Addr × Obj)) (s : Shared) (σ : St) (H : Hp) (x y : V) (u v : Value) (Q : VK), Inv X pins σ H s → RelV x u → RelV y v → rd x y H Q → wpAny (model X.prog X.w) X.A (inplaceOp op u v) (EP X pins σ Q) X.xe s
def sFldAug (K : PySem.W.Frag) (ta tv : TE) (rd : V → V → Hp → VK → Prop) (f : Str) : TS := fun D σ H => ta σ H fun x H1 => ∃ a C dx fs v, x = .ref a ∧ H1 a = some (.ins C dx fs) ∧ Cls K C ∧ NoAttr K C f ∧ fs.lookup f = some v ∧
  tv σ H1 fun y H2 => rd v y H2 fun z H3 => ∃ dx' fs', H3 a = some (.ins C dx' fs') ∧ fs'.length < 1000 ∧ D.nx σ (upd H3 a (.ins C dx' (putF f z fs')))
section
variable {X : Cx} {o e value : Expr} {f : Str} {pos pos' tpos : Pos} {ta tv : TE}
theorem pe_fld (he : PE X e ta) (hb : attributeBase e f X.env (eval e X.env) = eval e X.env) : PE X (.Attribute e f pos) (tFld X.K ta f) := by
  intro pins s σ H Q I h
  refine attr_of hb (thn (he pins s σ H _ I h) fun u s1 ⟨x, H1, I1, rx, a, C, dx, fs, v, ex, ea, c, n, l, q⟩ => ?_)
  subst ex
  obtain rfl : u = Value.ref a := rx
  exact getattr_ok I1 ea c n l fun u' s2 I2 ru => ⟨v, H1, I2, ru, q⟩
theorem ps_fld (ha : PE X o ta) (hv : PE X value tv) (hs : swapsWith value (some (.Attribute o f pos')) pos.line X.env = pure false) : PS X (.Assign [.Attribute o f pos'] value pos) (sFld X.K ta tv f) := by
  intro pins s σ H D I h
  refine plainObj_wpAny_Assign_Attribute (thn (hv pins s σ H _ I h) fun u s1 ⟨y, H1, I1, ry, q⟩ => thn (ha pins s1 σ H1 _ I1 q) fun ov s2 ⟨x, H2, I2, rx, a, C, dx, fs, ex, ea, c, n, l, q2⟩ => ?_) hs
  subst ex
  obtain rfl : ov = Value.ref a := rx
  exact setattr_ok I2 ea c n l ry fun s3 I3 => ⟨σ, _, I3, q2⟩
theorem ps_fldaug {op : Operator} {rd : V → V → Hp → VK → Prop} (ha : PE X o ta) (hv : PE X value tv) (hop : InOp X op rd) : PS X (.AugAssign (.Attribute o f tpos) op value pos) (sFldAug X.K ta tv rd f) := by
  intro pins s σ H D I h
  refine wpAny_AugAssign_AttributeAny (thn (ha pins s σ H _ I h) fun ov s1 ⟨x, H1, I1, rx, a, C, dx, fs, v, ex, ea, c, n, l, q⟩ => ?_)
  subst ex
  obtain rfl : ov = Value.ref a := rx
  refine getattr_ok I1 ea c n l fun u s2 I2 ru => thn (hv pins s2 σ H1 _ I2 q) fun w3 s3 ⟨y, H2, I3, ry, q3⟩ => thn (hop pins s3 σ H2 v y u w3 _ I3 ru ry q3) fun w4 s4 ⟨z, H3, I4, rz, dx', fs', ea', l', q4⟩ => ?_
  exact setattr_ok I4 ea' c n l' rz fun s5 I5 => ⟨σ, _, I5, q4⟩
def rAdd : V → V → Hp → VK → Prop := fun x y H Q => ∃ i j, x = .int i ∧ y = .int j ∧ Q (.int (i + j)) H
theorem in_add : InOp X .Add rAdd := by
  rintro pins s σ H x y u v Q I rx ry ⟨i, j, rfl, rfl, q⟩
  obtain ⟨t, rfl⟩ := (show ∃ t, u = Value.int i t from rx)
  obtain ⟨t', rfl⟩ := (show ∃ t', v = Value.int j t' from ry)
  exact PyProof.Rows.iadd_int ⟨.int (i + j), H, I.tok _, ⟨_, rfl⟩, q⟩
end
end L2
namespace L2
open PySem PySem.Spec PyProof.Rows
structure Room (k : Nat) (A : Around) : Prop where
  hd : A.handled = none
  dp : A.depth + 3 * k + 5 < recursionLimit
  un : A.units + 16 * k + 200 < cLine
theorem Room.mono {j k : Nat} {A : Around} (r : Room k A) (h : j ≤ k) : Room j A := ⟨r.hd, by have := r.dp; omega, by have := r.un; omega⟩
theorem Room.deeper {k : Nat} {A : Around} (r : Room (k + 1) A) (env : Env) : Room k (A.deeper env) :=
  ⟨r.hd, by have := r.dp; show A.depth + 1 + 3 * k + 5 < _; omega, by have := r.un; show A.units + 3 + 16 * k + 200 < _; omega⟩
theorem make_depth {A : Around} {C : Addr} {us : List Value} {kw : List (Str × Value)} : (A.under (.builtin "type.__call__" ⟨.ref C :: us, kw⟩)).depth = A.depth + 1 := by
  first | rfl | simp [Around.under, Code.weight, Code.isCreation, Code.isGuard, Code.isCaller, Code.frames, Code.isFrame, guardIds]
theorem make_units {A : Around} {C : Addr} {us : List Value} {kw : List (Str × Value)} : (A.under (.builtin "type.__call__" ⟨.ref C :: us, kw⟩)).units = A.units + 1 := by
  first | rfl | simp [Around.under, Code.cUnits, Code.frames, Code.isFrame]
theorem Room.make {k : Nat} {A : Around} (r : Room (k + 1) A) (C : Addr) (us : List Value) (kw : List (Str × Value)) : Room k (A.under (.builtin "type.__call__" ⟨.ref C :: us, kw⟩)) :=
  ⟨r.hd, by have := r.dp; rw [make_depth]; omega, by have := r.un; rw [make_units]; omega⟩
theorem Room.depth {k : Nat} {A : Around} (r : Room k A) : A.depth < recursionLimit := by have := r.dp; omega
theorem Room.units {k : Nat} {A : Around} (r : Room k A) : A.units + 64 < cLine := by have := r.un; omega
def tNil : TA := fun _ H Q => Q [] H
def tCons (ta : TE) (tr : TA) : TA := fun σ H Q => ta σ H fun x H1 => tr σ H1 fun xs H2 => Q (x :: xs) H2
section
variable {X : Cx} {e : Expr} {es : List Expr} {te : TE} {t : TA} {pos : Pos}
theorem pa_nil : PA X [] tNil := fun _ _ _ _ H Q I h => Calls.spliced_nil ⟨[], H, I, .nil, h⟩
theorem pa_cons (ha : PE X e te) (hr : PA X es t) (hs : starEach (e :: es) X.env = (false, eval e X.env) :: starEach es X.env := by rfl) : PA X (e :: es) (tCons te t) := by
  intro pos pins s σ H Q I h
  rw [hs]
  show wpAny _ _ (spliced ((false, eval e X.env) :: backTo pos (starEach es X.env))) _ _ s
  refine Calls.spliced_cons (thn (ha pins s σ H _ I h) fun u s1 ⟨x, H1, I1, r1, q1⟩ => ?_)
  exact thn (hr pos pins s1 σ H1 _ I1 q1) fun us s2 ⟨xs, H2, I2, r2, q2⟩ => ⟨x :: xs, H2, I2, .cons r1 r2, q2⟩
def tTup (t : TA) : TE := fun σ H Q => t σ H fun xs H1 => xs.length ≤ sizeLine ∧ ∀ p, H1 p = none → Q (.ref p) (upd H1 p (.tup xs))
def tLst (t : TA) : TE := fun σ H Q => t σ H fun xs H1 => xs.length ≤ sizeLine ∧ ∀ p, H1 p = none → Q (.ref p) (upd H1 p (.lst xs))
theorem pe_tup {x1} (h : PA X es t) : PE X (.Tuple es x1 pos) (tTup t) := by
  intro pins s σ H Q I hq
  refine wpAny_Tuple_spliced (thn (h pos pins s σ H _ I hq) fun us s1 ⟨xs, H1, I1, r, z, q⟩ => ⟨by rw [← r.length]; exact z, ?_⟩)
  have hf : H1 s1.heap.objs.size = none := I1.hok.fresh (Nat.le_refl _)
  refine ⟨.ref s1.heap.objs.size, upd H1 s1.heap.objs.size (.tup xs), I1.laid (t' := s1.toks) (fun b u e => Heap.get?_push_of_some _ e) (Nat.le_refl _) ?_, rfl, q _ hf⟩
  exact ⟨z, us, r, ⟨_, Heap.get?_push_size _ rfl, rfl, _, rfl⟩⟩
theorem pe_lst (h : PA X es t) : PE X (.List es pos) (tLst t) := by
  intro pins s σ H Q I hq
  refine wpAny_List_spliced (thn (h pos pins s σ H _ I hq) fun us s1 ⟨xs, H1, I1, r, z, q⟩ => ⟨by rw [← r.length]; exact z, ?_⟩)
  have hf : H1 s1.heap.objs.size = none := I1.hok.fresh (Nat.le_refl _)
  refine ⟨.ref s1.heap.objs.size, upd H1 s1.heap.objs.size (.lst xs), I1.laid (t' := s1.toks) (fun b u e => Heap.get?_push_of_some _ e) (Nat.le_refl _) ?_, rfl, q _ hf⟩
  exact ⟨z, us, 0, r, Heap.get?_push_size _ rfl⟩
end
abbrev Sp := List V → Hp → VK → XK → Prop
abbrev CXT := List Env → Hp → Shared → XK → Value → Shared → Prop
structure Env0 (P : Program) (w : World) (K : PySem.W.Frag) (mg : Str → Option Value) (base : Heap) (A : Around) (outer : List Env) (s : Shared) (H : Hp) : Prop where
  frames : A.frames = some outer
  mod : Mod K mg base
  bs : ∀ b o, base.get? b = some o → s.heap.get? b = some o ∧ H b = none
  bsz : base.objs.size ≤ s.heap.objs.size
  funs : s.heap.FunFrames base outer
  frf : ∀ b ∈ frs outer, H b = none
  hok : HOk P w H s.heap
  bare : AllBare s.gens
def CE (outer : List Env) (P : Program) (w : World) (H : Hp) (s : Shared) (Q : VK) (u : Value) (s' : Shared) : Prop :=
  ∃ v H', s'.os = s.os ∧ AllBare s'.gens ∧ Un (frs outer) [] H H' s.heap s'.heap ∧ HOk P w H' s'.heap ∧ RelV v u ∧ Q v H'
def CR (CX : CXT) (outer : List Env) (P : Program) (w : World) (H : Hp) (s : Shared) (Q : VK) (E : XK) (r : Result) (s' : Shared) : Prop :=
  match r with
  | .ok (.ret u) => CE outer P w H s Q u s'
  | .ok _ => False
  | .error e => CX outer H s E e s'
structure FnOk (P : Program) (w : World) (K : PySem.W.Frag) (mg : Str → Option Value) (base : Heap) (CX : CXT) (k : Nat) (f : Addr) (fd : FuncData) (ps : List Str) (sp : Sp) : Prop where
  len : ∀ vs H Q E, sp vs H Q E → vs.length = ps.length
  run : ∀ (A : Around) (outer : List Env) (s : Shared) (H : Hp) (args : Args) (us : List Value) (vs : List V) (Q : VK) (E : XK), Room k A → Env0 P w K mg base A outer s H → BindsTo s fd args (ps.zip us) → Vals vs us → sp vs H Q E →
    codeAny (model P w) A (.call (.ref f) args) (CR CX outer P w H s Q E) s
theorem Env0.make {P : Program} {w : World} {K : PySem.W.Frag} {mg : Str → Option Value} {base : Heap} {A : Around} {outer : List Env} {s : Shared} {H : Hp} (e : Env0 P w K mg base A outer s H) (C : Addr) (us : List Value) (kw : List (Str × Value)) :
    Env0 P w K mg base (A.under (.builtin "type.__call__" ⟨.ref C :: us, kw⟩)) outer s H := ⟨by first | exact e.frames | (simpa [Around.under, Code.envs, Code.isFrame, pushEnvs] using e.frames), e.mod, e.bs, e.bsz, e.funs, e.frf, e.hok, e.bare⟩
section
variable {X : Cx} {pins : List (Addr × Obj)} {σ : St} {H : Hp} {s s' : Shared}
theorem Inv.env0 (I : Inv X pins σ H s) : Env0 X.prog X.w X.K X.mg X.base X.A X.stack s H :=
  ⟨I.ok.frames, I.ok.mod, I.bs, Nat.le_trans I.ok.bsz I.sz, I.stack, I.stkFree, I.hok, I.bare⟩
theorem Inv.after {Q : VK} {u : Value} (I : Inv X pins σ H s) (h : CE X.stack X.prog X.w H s Q u s') : EP X pins σ Q u s' := by
  obtain ⟨v, H', os, bare, un, hok, r, q⟩ := h
  obtain ⟨hh, g, d, t, os'⟩ := s'
  obtain rfl : os' = s.os := os
  exact ⟨v, H', I.call (h' := hh) (g' := g) (d' := d) (t' := t) (ch := []) un hok bare (fun b z => absurd z (by simp)), r, q⟩
end
def tCall (sp : Sp) (dvs : List V) (E : XK) (t : TA) : TE := fun σ H Q => t σ H fun vs H1 => sp (vs ++ dvs) H1 Q E
def tMeth (C : Addr) (m : Str) (sp : Sp) (dvs : List V) (E : XK) (ta : TE) (t : TA) : TE := fun σ H Q => ta σ H fun x H1 => ∃ a dx fs, x = .ref a ∧ H1 a = some (.ins C dx fs) ∧ fs.lookup m = none ∧
  t σ H1 fun vs H2 => sp (x :: (vs ++ dvs)) H2 Q E
def tMake (C : Addr) (sp : Sp) (dvs : List V) (E : XK) (t : TA) : TE := fun σ H Q => t σ H fun vs H1 => ∀ x dx, H1 x = none → H1 dx = none → dx ≠ x →
  sp (.ref x :: (vs ++ dvs)) (upd (upd H1 dx (.own x)) x (.ins C dx [])) (fun v H2 => v = .non ∧ Q (.ref x) H2) E
def Binds (K : PySem.W.Frag) (fd : FuncData) (ps : List Str) (ds : List Value) : Prop :=
  ∀ (s : Shared) (us : List Value), K.In s.heap → (us ++ ds).length = ps.length → BindsTo s fd ⟨us, []⟩ (ps.zip (us ++ ds))
theorem Binds.all {K : PySem.W.Frag} {fd : FuncData} {ps : List Str} (h : ∀ us : List Value, us.length = ps.length → bindArgs fd ⟨us, []⟩ = pure (ps.zip us)) : Binds K fd ps [] := fun s us _ hl => by
  rw [List.append_nil] at hl ⊢
  exact .of_eq (h us hl)
def Passes (CX : CXT) (X : Cx) (E : XK) : Prop := ∀ (pins : List (Addr × Obj)) (σ : St) (H : Hp) (s : Shared) (e : Value) (s' : Shared), Inv X pins σ H s → CX X.stack H s E e s' → X.xe e s'
section
variable {X : Cx} {CX : CXT} {k : Nat} {f C : Addr} {fd : FuncData} {ps : List Str} {sp : Sp} {dvs : List V} {ds : List Value} {E : XK} {x m : Str} {p pos apos : Pos} {e o : Expr} {es : List Expr} {ta : TE} {t : TA}
theorem run_fn {pins : List (Addr × Obj)} {σ : St} {H : Hp} {s : Shared} {Q : VK} {us : List Value} {vs : List V} (F : FnOk X.prog X.w X.K X.mg X.base CX k f fd ps sp) (hr : Room k X.A) (hb : Binds X.K fd ps ds) (hd : Vals dvs ds) (hx : Passes CX X E)
    (I : Inv X pins σ H s) (r : Vals vs us) (h : sp (vs ++ dvs) H Q E) : wpAny (model X.prog X.w) X.A (call (.ref f) us) (EP X pins σ Q) X.xe s := by
  have r2 : Vals (vs ++ dvs) (us ++ ds) := r.append hd
  have hl : (us ++ ds).length = ps.length := by rw [← r2.length]; exact F.len _ _ _ _ h
  refine wpAny_call (codeAny_mono (F.run X.A X.stack s H ⟨us, []⟩ (us ++ ds) (vs ++ dvs) Q E hr I.env0 (hb s us I.kIn hl) r2 h) fun r s' hq => ?_)
  cases r with
  | error e => exact hx pins σ H s e s' I hq
  | ok fl =>
    cases fl with
    | ret u => exact I.after hq
    | next => exact False.elim hq
    | brk => exact False.elim hq
    | cont => exact False.elim hq
theorem pe_call (F : FnOk X.prog X.w X.K X.mg X.base CX k f fd ps sp) (hr : Room k X.A) (hg : Gl X x) (hm : X.mg x = some (.ref f)) (hk : PySem.W.keepIn X.K (.ref f) = true) (hb : Binds X.K fd ps ds) (hd : Vals dvs ds) (hx : Passes CX X E)
    (ha : PA X (e :: es) t) (hdb : (x == ("__debug__" : Str)) = false := by decide) (he : starEach (e :: es) X.env = (false, eval e X.env) :: starEach es X.env := by rfl) (hpl : (backTo pos (starEach es X.env)).any (·.1) = false := by rfl) :
    PE X (.Call (.Name x p) (e :: es) [] pos) (tCall sp dvs E t) := by
  intro pins s σ H Q I h
  refine wpAny_Call_Name_kw (ld_glob I hg hm ?_ hdb)
  refine PySem.W.callWith_K (h₀ := X.base) I.ok.mod.kin hk (thn (ha pos pins s σ H _ I h) fun us s1 ⟨vs, H1, I1, r, q⟩ => ⟨I1.kIn, ?_⟩) he hpl
  exact run_fn F hr hb hd hx I1 r q
theorem pe_meth {pl : Sem Bool} (he : PE X o ta) (c : Cls X.K C) (hm : Meth X.K C m f) (F : FnOk X.prog X.w X.K X.mg X.base CX k f fd ps sp) (hr : Room k X.A) (hb : Binds X.K fd ps ds) (hd : Vals dvs ds) (hx : Passes CX X E) (ha : PA X (e :: es) t)
    (hst : starEach (e :: es) X.env = (false, eval e X.env) :: starEach es X.env := by rfl) (hpl : (backTo pos (starEach es X.env)).any (·.1) = false := by rfl)
    (ht : eval (.Call (.Attribute o m apos) (e :: es) [] pos) X.env = (do
      let ov ← eval o X.env
      standAt apos.atName
      let (f, first) ← holding [ov] (getMethod ov m pl)
      callWith pos f first (backTo pos (starEach (e :: es) X.env)) (backToKw pos (keywordEach [] X.env))) := by rfl) :
    PE X (.Call (.Attribute o m apos) (e :: es) [] pos) (tMeth C m sp dvs E ta t) := by
  intro pins s σ H Q I h
  refine PySem.W.methodCall_KW (pl := pl) (thn (he pins s σ H _ I h) fun u s1 ⟨x, H1, I1, rx, a, dx, fs, ex, ea, l, q⟩ => ?_) ht
  subst ex
  obtain rfl : u = Value.ref a := rx
  refine getmeth_ok I1 ea c hm l ?_
  refine PySem.W.callWith_K (first := [.ref a]) (h₀ := X.base) I.ok.mod.kin hm.kp (thn (ha pos pins s1 σ H1 _ I1 q) fun us s2 ⟨vs, H2, I2, r, q2⟩ => ⟨I2.kIn, ?_⟩) hst hpl
  exact run_fn (us := .ref a :: us) (vs := .ref a :: vs) F hr hb hd hx I2 (.cons rfl r) q2
theorem pe_meth0 {pl : Sem Bool} (he : PE X o ta) (c : Cls X.K C) (hm : Meth X.K C m f) (F : FnOk X.prog X.w X.K X.mg X.base CX k f fd ps sp) (hr : Room k X.A) (hb : Binds X.K fd ps ds) (hd : Vals dvs ds) (hx : Passes CX X E)
    (ht : eval (.Call (.Attribute o m apos) [] [] pos) X.env = (do
      let ov ← eval o X.env
      standAt apos.atName
      let (f, first) ← holding [ov] (getMethod ov m pl)
      callWith pos f first (backTo pos (starEach [] X.env)) (backToKw pos (keywordEach [] X.env))) := by rfl) :
    PE X (.Call (.Attribute o m apos) [] [] pos) (tMeth C m sp dvs E ta tNil) := by
  intro pins s σ H Q I h
  refine PySem.W.methodCall_KW (pl := pl) (thn (he pins s σ H _ I h) fun u s1 ⟨x, H1, I1, rx, a, dx, fs, ex, ea, l, q⟩ => ?_) ht
  subst ex
  obtain rfl : u = Value.ref a := rx
  refine getmeth_ok I1 ea c hm l ?_
  exact PySem.W.callWith_K0 (first := [.ref a]) I1.kIn hm.kp (run_fn (us := [.ref a]) (vs := [.ref a]) F hr hb hd hx I1 (.cons rfl .nil) q)
structure Mk (K : PySem.W.Frag) (C f : Addr) : Prop where
  makes : PySem.W.makesIn K C = true
  init : PySem.W.findIn K (.ref C) "__init__" = some (some (.ref f))
  fn : PySem.W.isFn K (.ref f) = true
  kp : PySem.W.keepIn K (.ref C) = true
theorem run_make {pins : List (Addr × Obj)} {σ : St} {H : Hp} {s : Shared} {Q : VK} {us : List Value} {vs : List V} (M : Mk X.K C f) (F : FnOk X.prog X.w X.K X.mg X.base CX k f fd ps sp) (hr : Room (k + 1) X.A) (hb : Binds X.K fd ps ds) (hd : Vals dvs ds)
    (hx : Passes CX X E) (I : Inv X pins σ H s) (r : Vals vs us)
    (h : ∀ x dx, H x = none → H dx = none → dx ≠ x → sp (.ref x :: (vs ++ dvs)) (upd (upd H dx (.own x)) x (.ins C dx [])) (fun v H2 => v = .non ∧ Q (.ref x) H2) E) :
    wpAny (model X.prog X.w) X.A (call (.ref C) us) (EP X pins σ Q) X.xe s := by
  have hq := h (s.heap.objs.size + 1) s.heap.objs.size (I.hok.fresh (Nat.le_succ _)) (I.hok.fresh (Nat.le_refl _)) (Nat.ne_of_lt (Nat.lt_succ_self _))
  have I2 := Inv.made (C := C) I
  have r2 : Vals (V.ref (s.heap.objs.size + 1) :: (vs ++ dvs)) (Value.ref (s.heap.objs.size + 1) :: (us ++ ds)) := .cons rfl (r.append hd)
  have hl : (Value.ref (s.heap.objs.size + 1) :: us ++ ds).length = ps.length := by
    have e := r2.length
    rw [F.len _ _ _ _ hq] at e
    exact e.symm
  refine wpAny_call (make_map (f := f) I.kIn M.makes M.init (beq_iff_eq.mp M.fn) (codeAny_mono (F.run _ X.stack _ _ ⟨Value.ref (s.heap.objs.size + 1) :: us, []⟩ (Value.ref (s.heap.objs.size + 1) :: (us ++ ds)) _ _ E (hr.make C us [])
    (I2.env0.make C us []) (hb _ (Value.ref (s.heap.objs.size + 1) :: us) I2.kIn hl) r2 hq) fun r s' hq' => ?_))
  cases r with
  | error e => exact hx pins σ _ _ e s' I2 hq'
  | ok fl =>
    cases fl with
    | ret u =>
      obtain ⟨v, H', I3, rv, ev, q3⟩ := I2.after hq'
      subst ev
      exact ⟨rv, ⟨V.ref (s.heap.objs.size + 1), H', I3, rfl, q3⟩⟩
    | next => exact False.elim hq'
    | brk => exact False.elim hq'
    | cont => exact False.elim hq'
theorem pe_make (M : Mk X.K C f) (F : FnOk X.prog X.w X.K X.mg X.base CX k f fd ps sp) (hr : Room (k + 1) X.A) (hg : Gl X x) (hm : X.mg x = some (.ref C)) (hb : Binds X.K fd ps ds) (hd : Vals dvs ds) (hx : Passes CX X E)
    (ha : PA X (e :: es) t) (hdb : (x == ("__debug__" : Str)) = false := by decide) (he : starEach (e :: es) X.env = (false, eval e X.env) :: starEach es X.env := by rfl) (hpl : (backTo pos (starEach es X.env)).any (·.1) = false := by rfl) :
    PE X (.Call (.Name x p) (e :: es) [] pos) (tMake C sp dvs E t) := by
  intro pins s σ H Q I h
  refine wpAny_Call_Name_kw (ld_glob I hg hm ?_ hdb)
  refine PySem.W.callWith_K (h₀ := X.base) I.ok.mod.kin M.kp (thn (ha pos pins s σ H _ I h) fun us s1 ⟨vs, H1, I1, r, q⟩ => ⟨I1.kIn, ?_⟩) he hpl
  exact run_make M F hr hb hd hx I1 r q
end
structure FnScope (N P : List Str) (sc : Scope) : Prop where
  kind : sc.kind = .function
  co : sc.isCoroutine = false
  gen : sc.isGenerator = false
  nd : N.Nodup
  pre : N.take P.length = P
  par : ∀ x ∈ P, sc.names.lookup x = some .local ∨ sc.names.lookup x = some .cell
  nofree : ∀ y ∈ sc.names, y.2 ≠ .free
theorem bindL_out {kindOf : Str → Option NameKind} {x : Str} : ∀ {binds : List (Str × Value)} {m : Str → Option Value}, (∀ v, (x, v) ∉ binds) → bindL kindOf binds m x = m x
  | [], _, _ => rfl
  | (n, v) :: r, m, h => by
    unfold bindL
    rw [bindL_out fun w hw => h w (List.mem_cons_of_mem _ hw)]
    split
    · have : x ≠ n := by rintro rfl; exact h v List.mem_cons_self
      simp [this]
    · rfl
theorem bindC_out {kindOf : Str → Option NameKind} {x : Str} : ∀ {binds : List (Str × Value)} {m : Str → Option Value}, (∀ v, (x, v) ∉ binds) → bindC kindOf binds m x = m x
  | [], _, _ => rfl
  | (n, v) :: r, m, h => by
    unfold bindC
    rw [bindC_out fun w hw => h w (List.mem_cons_of_mem _ hw)]
    split
    · rfl
    · have : x ≠ n := by rintro rfl; exact h v List.mem_cons_self
      simp [this]
theorem bindL_get {kindOf : Str → Option NameKind} {x : Str} {v : Value} : ∀ {P : List Str} {vs : List Value} {i : Nat} {m : Str → Option Value}, P.Nodup → P[i]? = some x → vs[i]? = some v → kindOf x = some .local →
    bindL kindOf (P.zip vs) m x = some v
  | [], _, _, _, _, h, _, _ => by simp at h
  | _ :: _, [], _, _, _, _, h, _ => by simp at h
  | p :: P, w :: vs, 0, m, nd, h1, h2, hk => by
    simp at h1 h2; subst h1; subst h2
    show bindL kindOf ((p, w) :: P.zip vs) m p = _
    unfold bindL
    rw [bindL_out fun v hv => (List.nodup_cons.mp nd).1 (List.of_mem_zip hv).1, if_pos hk]
    simp
  | p :: P, w :: vs, i + 1, m, nd, h1, h2, hk => by
    show bindL kindOf ((p, w) :: P.zip vs) m x = _
    unfold bindL
    exact bindL_get (i := i) (List.nodup_cons.mp nd).2 (by simpa using h1) (by simpa using h2) hk
theorem bindC_get {kindOf : Str → Option NameKind} {x : Str} {v : Value} : ∀ {P : List Str} {vs : List Value} {i : Nat} {m : Str → Option Value}, P.Nodup → P[i]? = some x → vs[i]? = some v → kindOf x ≠ some .local →
    bindC kindOf (P.zip vs) m x = some v
  | [], _, _, _, _, h, _, _ => by simp at h
  | _ :: _, [], _, _, _, _, h, _ => by simp at h
  | p :: P, w :: vs, 0, m, nd, h1, h2, hk => by
    simp at h1 h2; subst h1; subst h2
    show bindC kindOf ((p, w) :: P.zip vs) m p = _
    unfold bindC
    rw [bindC_out fun v hv => (List.nodup_cons.mp nd).1 (List.of_mem_zip hv).1, if_neg hk]
    simp
  | p :: P, w :: vs, i + 1, m, nd, h1, h2, hk => by
    show bindC kindOf ((p, w) :: P.zip vs) m x = _
    unfold bindC
    exact bindC_get (i := i) (List.nodup_cons.mp nd).2 (by simpa using h1) (by simpa using h2) hk
def start (N : List Str) (vs : List V) : St := vs.map some ++ List.replicate (N.length - vs.length) none
def cxOf (CX : CXT) (P : Program) (w : World) (K : PySem.W.Frag) (mg : Str → Option Value) (base : Heap) (N : List Str) (qual : Str) (scope : Scope) (f : Addr) (cd : Value) (A : Around) (outer : List Env) (s : Shared) (H : Hp) (E : XK) : Cx where
  prog := P
  w := w
  K := K
  mg := mg
  base := base
  A := A.deeper (envOfC qual scope s.heap.objs.size f cd)
  N := N
  s_0 := s
  H_0 := H
  env := envOfC qual scope s.heap.objs.size f cd
  outer := outer
  stack := envOfC qual scope s.heap.objs.size f cd :: outer
  ex := []
  calm := true
  fn := fun _ => true
  pn := []
  xe := fun e s' => wpAny (model P w) (A.deeper (envOfC qual scope s.heap.objs.size f cd)) (leaving (envOfC qual scope s.heap.objs.size f cd) e) (fun _ s'' => CX outer H s E e s'') (fun e' s'' => CX outer H s E e' s'') s'
theorem cell_has {sc : Scope} {n : Nat} {x : Str} (h : sc.names.lookup x = some .cell) : ∃ c, (cellsFrom n sc.names []).lookup x = some c := by
  have q := PySem.W.cellsFrom_some sc.names n [] (.inl h)
  exact Option.isSome_iff_exists.mp q
theorem inv_start {CX : CXT} {P : Program} {w : World} {K : PySem.W.Frag} {mg : Str → Option Value} {base : Heap} {N ps : List Str} {qual : Str} {scope : Scope} {f : Addr} {cd : Value} {A : Around} {outer : List Env} {s s1 : Shared} {H : Hp} {E : XK} {us : List Value} {vs : List V}
    (S : FnScope N ps scope) (hd : A.handled = none) (e0 : Env0 P w K mg base A outer s H) (hl : vs.length = ps.length) (r : Vals vs us)
    (x : InCallC s s.heap.objs.size (bindL (envOfC qual scope s.heap.objs.size f cd).kindOf (ps.zip us) fun _ => none) (cellsFrom (s.heap.objs.size + 1) scope.names []) (bindC (envOfC qual scope s.heap.objs.size f cd).kindOf (ps.zip us) fun _ => none) s1) :
    Inv (cxOf CX P w K mg base N qual scope f cd A outer s H E) [] (start N vs) H s1 := by
  have hpl : ps.length ≤ N.length := by have := congrArg List.length S.pre; rw [List.length_take] at this; omega
  obtain ⟨h1, tk, rfl, hk⟩ := x.done
  have noA : ∀ b : Addr, b ∉ (cxOf CX P w K mg base N qual scope f cd A outer s H E).ex := fun b z => absurd (show b ∈ ([] : List Addr) from z) (by simp)
  refine ⟨⟨e0.mod, S.kind, rfl, rfl, Nat.le_refl _, fun y z c h1 h2 => ?_, fun y hy => ?_, fun y c _ h => ?_, fun _ => hd, Around.frames_deeper e0.frames, .inr ⟨rfl, rfl⟩, fun b z => absurd z (noA b), e0.bs, e0.bsz, fun b _ _ => noA b, fun b z => absurd z (noA b), e0.funs, e0.frf⟩,
    rfl, e0.bare, Un.kept hk, ⟨_, x.toInCall.ns, fun i y v h1 h2 h3 => ?_⟩, fun y c h => ⟨_, x.cell y c h⟩, e0.hok.fresh (Nat.le_refl _), fun y c h => ?_, fun p hp => absurd (show p ∈ ([] : List (Addr × Obj)) from hp) (by simp), e0.hok.kept hk, ?_⟩
  · exact name_of_addr x.apart (PySem.mem_of_lookup h1) (PySem.mem_of_lookup h2)
  · have hy : scope.names.lookup y = some .cell ∨ scope.names.lookup y = some .free := hy
    rcases hy with hy | hy
    · exact cell_has hy
    · exact absurd rfl (S.nofree _ (PySem.mem_of_lookup hy))
  · exact Nat.le_of_lt (x.above y c (PySem.mem_of_lookup h))
  · have hi : i < vs.length := by
      unfold start at h2
      by_cases hi : i < vs.length
      · exact hi
      · rw [List.getElem?_append_right (by simpa using hi)] at h2
        rw [List.getElem?_replicate] at h2
        split at h2 <;> cases h2
    have ha : vs[i]? = some v := by
      unfold start at h2
      rw [List.getElem?_append_left (by simpa using hi), List.getElem?_map] at h2
      cases e : vs[i]? with
      | none => rw [e] at h2; cases h2
      | some a => rw [e] at h2; cases h2; rfl
    obtain ⟨u, hu, rv⟩ := r.get ha
    have hp : ps[i]? = some y := by
      rw [← S.pre, List.getElem?_take_of_lt (by omega)]; exact h1
    have ndP : ps.Nodup := by rw [← S.pre]; exact S.nd.sublist (List.take_sublist _ _)
    refine ⟨u, rv, ?_⟩
    rcases S.par y (List.mem_of_getElem? hp) with k | k
    · exact .inl ⟨k, bindL_get ndP hp hu k⟩
    · obtain ⟨c, e⟩ := cell_has (n := s.heap.objs.size + 1) k
      refine .inr ⟨.inl k, c, e, ?_⟩
      have q := x.cell y c e
      rw [bindC_get ndP hp hu (by show scope.names.lookup y ≠ _; rw [k]; decide)] at q
      exact q
  · exact e0.hok.fresh (Nat.le_of_lt (x.above y c (PySem.mem_of_lookup h)))
  · unfold start
    show _ = N.length
    rw [List.length_append, List.length_map, List.length_replicate]
    omega
theorem fn_of {CX : CXT} {P : Program} {w : World} {K : PySem.W.Frag} {mg : Str → Option Value} {base : Heap} {k : Nat} {f : Addr} {name qual : Str} {params : Arguments} {body : List Stmt} {scope : Scope} {dV kV doc pm cdv ct oc : Value} {an od : Option Addr}
    {osl : Array (Option Value)} {N ps : List Str} {sp : Sp} (lk : K.lookup f = some ⟨oc, od, .func (PySem.W.fnOf name qual params body scope dV kV doc pm an cdv ct), osl⟩) (hcd : PySem.W.codeIn K cdv qual = true) (S : FnScope N ps scope)
    (len : ∀ vs H Q E, sp vs H Q E → vs.length = ps.length)
    (hbody : ∀ (A : Around) (outer : List Env) (s : Shared) (H : Hp) (vs : List V) (Q : VK) (E : XK), Room k (A.deeper (envOfC qual scope s.heap.objs.size f cdv)) → sp vs H Q E →
      ∃ t, PSs (cxOf CX P w K mg base N qual scope f cdv A outer s H E) body t ∧ t { nx := fun _ H' => Q .non H', rt := Q } (start N vs) H) :
    FnOk P w K mg base CX (k + 1) f (PySem.W.fnOf name qual params body scope dV kV doc pm an cdv ct) ps sp := by
  refine ⟨len, fun A outer s H args us vs Q E hr e0 hb r hsp => ?_⟩
  have hl := len _ _ _ _ hsp
  have KX : K.In s.heap := e0.mod.kin.keeps fun b o e => (e0.bs b o e).1
  have lim : s.heap.NoLimit := e0.mod.nolimit.keeps fun b o e => (e0.bs b o e).1
  have hkind : ∀ y ∈ ps.zip us, scope.names.lookup y.1 = some .local ∨ (scope.names.lookup y.1 = some .cell ∧ ((cellsFrom (s.heap.objs.size + 1) scope.names []).lookup y.1).isSome = true) := fun ⟨n, v⟩ hy => by
    rcases S.par n (List.of_mem_zip hy).1 with q | q
    · exact .inl q
    · exact .inr ⟨q, PySem.W.cellsFrom_some _ _ _ (.inl q)⟩
  refine codeAny_call_function hr.depth (KX _ _ lk) rfl S.co S.gen rfl (PySem.W.codeRec_of KX hcd) (hb _ _ _ _ ?_)
  refine wpAny_newFunctionEnv_cells S.kind hkind fun env he s1 x => ?_
  subst he
  refine ⟨lim.keeps x.toInCall.keep, codeAny_func ?_⟩
  obtain ⟨t, ht, hq⟩ := hbody A outer s H vs Q E (hr.deeper _) hsp
  have I : Inv (cxOf CX P w K mg base N qual scope f cdv A outer s H E) [] (start N vs) H s1 := inv_start S hr.hd e0 hl r x
  refine wpAny_mono (ht [] s1 (start N vs) H _ I hq) (fun fl s' hs => ?_) fun e s' hs => hs
  have fin : ∀ {σ' : St} {H' : Hp} {v : V} {u : Value}, Inv (cxOf CX P w K mg base N qual scope f cdv A outer s H E) [] σ' H' s' → RelV v u → Q v H' → CE outer P w H s Q u s' :=
    fun {σ' H' v u} J rv q => ⟨v, H', J.os, J.bare, J.base, J.hok, rv, q⟩
  cases fl with
  | ret u =>
    obtain ⟨v, σ', H', J, rv, q⟩ := hs
    exact fin J rv q
  | next =>
    obtain ⟨σ', H', J, q⟩ := hs
    exact fin (v := V.non) (u := Value.none) J rfl q
  | brk =>
    obtain ⟨_, _, _, q⟩ := hs
    exact False.elim q
  | cont =>
    obtain ⟨_, _, _, q⟩ := hs
    exact False.elim q
end L2
namespace L2
open PySem PySem.Spec PyProof.Rows
section
variable {X : Cx} {x : Str} {p pos : Pos} {e : Expr} {es : List Expr} {t : TA} {id T : String} {r : List V → Hp → VK → Prop}
def tCB (r : List V → Hp → VK → Prop) (t : TA) : TE := fun σ H Q => t σ H fun vs H1 => r vs H1 Q
theorem pe_callB (hc : CallR X (.builtin id) r) (hg : Gl X x) (hm : X.mg x = none) (hv : bootBuiltins x = some (.builtin id)) (ha : PA X (e :: es) t) (hn : x ≠ "__name__" := by decide) (hdb : (x == ("__debug__" : Str)) = false := by decide)
    (he : starEach (e :: es) X.env = (false, eval e X.env) :: starEach es X.env := by rfl) (hpl : (backTo pos (starEach es X.env)).any (·.1) = false := by rfl) : PE X (.Call (.Name x p) (e :: es) [] pos) (tCB r t) := by
  intro pins s σ H Q I h
  refine wpAny_Call_Name_kw (ld_blt I hg hm hv ?_ hn hdb)
  exact PyProof.Rows.callWith_builtin1 (thn (ha pos pins s σ H _ I h) fun us s1 ⟨vs, H1, I1, r1, q1⟩ => hc pins s1 σ H1 vs us Q I1 r1 q1) he hpl
theorem pe_callTy (hc : CallR X (.type T) r) (hg : Gl X x) (hm : X.mg x = none) (hv : bootBuiltins x = some (.type T)) (ha : PA X (e :: es) t) (hn : x ≠ "__name__" := by decide) (hdb : (x == ("__debug__" : Str)) = false := by decide)
    (he : starEach (e :: es) X.env = (false, eval e X.env) :: starEach es X.env := by rfl) (hpl : (backTo pos (starEach es X.env)).any (·.1) = false := by rfl) : PE X (.Call (.Name x p) (e :: es) [] pos) (tCB r t) := by
  intro pins s σ H Q I h
  refine wpAny_Call_Name_kw (ld_blt I hg hm hv ?_ hn hdb)
  exact PyProof.Rows.callWith_type1 (thn (ha pos pins s σ H _ I h) fun us s1 ⟨vs, H1, I1, r1, q1⟩ => hc pins s1 σ H1 vs us Q I1 r1 q1) he hpl
end
end L2
namespace HT
open PySem PyProof.Rows
section
variable {prog : Program} {w : World} {A : Around} {E : Value → Shared → Prop} {s : Shared}
theorem cat_tup {t b : Addr} {vs ws : List Value} {Q : Value → Shared → Prop} (ht : IsTup s.heap t vs.toArray) (hb : IsTup s.heap b ws.toArray) (hv : vs ≠ [])
    (h1 : ws = [] → Q (.ref t) s) (h2 : ws ≠ [] → Q (.ref s.heap.objs.size) { s with heap := s.heap.push { cls := .type "tuple", data := .seq (vs ++ ws).toArray } })
    (hsz : vs.length + ws.length ≤ sizeLine) : wpAny (model prog w) A (binaryOp .Add (.ref t) (.ref b)) Q E s := by
  obtain ⟨⟨cls, dd, data, sl⟩, ho, hc, n, hd⟩ := id ht
  obtain ⟨⟨cls2, dd2, data2, sl2⟩, ho2, hc2, n2, hd2⟩ := id hb
  simp only at hc hd hc2 hd2
  subst hc hd hc2 hd2
  have e : vs.toArray ++ ws.toArray = (vs ++ ws).toArray := by simp
  by_cases hw : ws = []
  · exact concat_meets ⟨_, ho, rfl⟩ ⟨_, ho2, rfl⟩ noFill_tuple_add seq_tuple_add PySem.F.slot_tuple_add PySem.F.entry_tuple_add (PySem.F.args_tuple_add_2 _ _)
      (tuple_addW1 t b vs.toArray ws.toArray n n2 dd dd2 sl sl2 (by simpa using hv) (by simp [hw])) ⟨ho, ho2, h1 hw⟩
  · refine concat_meets ⟨_, ho, rfl⟩ ⟨_, ho2, rfl⟩ noFill_tuple_add seq_tuple_add PySem.F.slot_tuple_add PySem.F.entry_tuple_add (PySem.F.args_tuple_add_2 _ _)
      (tuple_addW2 t b vs.toArray ws.toArray n n2 dd dd2 sl sl2 (by simpa using hv) (by simpa using hw) (by rw [List.size_toArray, List.size_toArray]; exact hsz)) ⟨ho, ho2, ?_⟩
    rw [e]
    exact h2 hw
end
end HT
namespace L2
open PySem PySem.Spec PyProof.Rows
section
variable {X : Cx} {e : Expr} {te : TE} {lo hi : Option Expr} {tl th : TO} {pos p2 : Pos}
def rCatT (K : PySem.W.Frag) : R2 := fun x y H Q => ∃ a b xs ys, x = .ref a ∧ y = .ref b ∧ SqT K H a xs ∧ SqT K H b ys ∧ xs ≠ [] ∧ xs.length + ys.length ≤ sizeLine ∧
  (ys = [] → Q (.ref a) H) ∧ (ys ≠ [] → ∀ p, H p = none → Q (.ref p) (upd H p (.tup (xs ++ ys))))
theorem Vals.nil_iff {xs : List V} {us : List Value} (r : Vals xs us) : us = [] ↔ xs = [] := by
  cases r with
  | nil => simp
  | cons _ _ => simp
theorem op_catT : OpR X (binaryOp .Add) (rCatT X.K) := by
  intro pins s σ H x y v u Q I rx ry h
  obtain ⟨a, b, xs, ys, rfl, rfl, ha, hb, hx, hz, q1, q2⟩ := h
  cases rx
  cases ry
  obtain ⟨its, r1, p1, _⟩ := I.tuple ha
  obtain ⟨its2, r2, p2, _⟩ := I.tuple hb
  refine HT.cat_tup p1 p2 (fun z => hx (r1.nil_iff.mp z)) (fun z => ⟨.ref a, H, I, rfl, q1 (r2.nil_iff.mp z)⟩) (fun z => ?_) (by rw [← r1.length, ← r2.length]; exact hz)
  refine ⟨.ref s.heap.objs.size, _, I.laid (t' := s.toks) (o := .tup (xs ++ ys)) (fun b ob q => Heap.get?_push_of_some _ q) (Nat.le_refl _) ?_, rfl, q2 (fun w => z (r2.nil_iff.mpr w)) _ (I.hok.fresh (Nat.le_refl _))⟩
  exact ⟨by rw [List.length_append]; exact hz, _, r1.append r2, IsTup.new _ _⟩
end
end L2
namespace L2
open PySem PySem.Spec PyProof.Rows
def ixN (n : Nat) (i : Int) : Option Nat := if 0 ≤ i then (if i < n then some i.toNat else none) else if -(n : Int) ≤ i then some (i + n).toNat else none
def atI {α : Type} (xs : List α) (i : Int) : Option α := (ixN xs.length i).bind fun j => xs[j]?
theorem ixN_seq {n : Nat} {i : Int} {j : Nat} (h : ixN n i = some j) : seqIndex? i n = some j ∧ j < n ∧ -(n : Int) ≤ i ∧ i < n := by
  unfold ixN at h
  by_cases h0 : 0 ≤ i
  · rw [if_pos h0] at h
    by_cases h1 : i < n
    · rw [if_pos h1] at h
      have e : i.toNat = j := Option.some.inj h
      exact ⟨by rw [seqIndex_of h0 h1, e], by omega, by omega, h1⟩
    · rw [if_neg h1] at h; cases h
  · rw [if_neg h0] at h
    by_cases h1 : -(n : Int) ≤ i
    · rw [if_pos h1] at h
      have e : (i + n).toNat = j := Option.some.inj h
      exact ⟨by rw [seqIndex_neg (by omega) h1, e], by omega, h1, by omega⟩
    · rw [if_neg h1] at h; cases h
theorem atI_get {α : Type} {xs : List α} {i : Int} {v : α} (h : atI xs i = some v) : ∃ j, seqIndex? i xs.length = some j ∧ xs[j]? = some v ∧ j < xs.length ∧ -(xs.length : Int) ≤ i ∧ i < xs.length := by
  unfold atI at h
  cases e : ixN xs.length i with
  | none => rw [e] at h; cases h
  | some j =>
    rw [e] at h
    obtain ⟨h1, h2, h3, h4⟩ := ixN_seq e
    exact ⟨j, h1, h, h2, h3, h4⟩
theorem atI_nat {α : Type} {xs : List α} {j : Nat} {v : α} (h : xs[j]? = some v) : atI xs (j : Int) = some v := by
  have hj : j < xs.length := (List.getElem?_eq_some_iff.mp h).1
  have e : ixN xs.length (j : Int) = some j := by
    unfold ixN
    rw [if_pos (by omega), if_pos (by omega)]; simp
  unfold atI; rw [e]; exact h
theorem atI_last {α : Type} (xs : List α) (v : α) : atI (xs ++ [v]) (-1) = some v := by
  have hl : (xs ++ [v]).length = xs.length + 1 := by simp
  have e : ixN (xs ++ [v]).length (-1) = some xs.length := by
    unfold ixN
    rw [hl, if_neg (by decide), if_pos (by omega)]
    congr 1
    omega
  unfold atI
  rw [e]
  show (xs ++ [v])[xs.length]? = some v
  simp
def PlainIx (b : Expr) : Prop := ∀ o i, subscripted b false o i = operate [o, i] (getItem o i)
def IxR (X : Cx) (r : R2) : Prop :=
  ∀ (value slice : Expr) (pins : List (Addr × Obj)) (s : Shared) (σ : St) (H : Hp) (x y : V) (v u : Value) (Q : VK), Inv X pins σ H s → RelV x v → RelV y u → r x y H Q →
    subscripted slice false v u = operate [v, u] (getItem v u) → wpAny (model X.prog X.w) X.A (subscriptTail value slice v u) (EP X pins σ Q) X.xe s
def MtR (X : Cx) (id : String) (r : V → List V → Hp → VK → Prop) : Prop :=
  ∀ (pins : List (Addr × Obj)) (s : Shared) (σ : St) (H : Hp) (x : V) (xs : List V) (v : Value) (us : List Value) (Q : VK), Inv X pins σ H s → RelV x v → Vals xs us → r x xs H Q →
    wpAny (model X.prog X.w) X.A (call (.builtin id) (v :: us)) (EP X pins σ Q) X.xe s
section
variable {X : Cx} {a b : Expr} {ta tb : TE} {pos : Pos}
theorem pe_ix {r : R2} (hr : IxR X r) (ha : PE X a ta) (hb : PE X b tb) (hs : PlainIx b) : PE X (.Subscript a b pos) (tOp r ta tb) := by
  intro pins s σ H Q I h
  exact Subscript_ (binT ha hb I h fun v u s2 x y H2 I2 rx ry q => hr a b pins s2 σ H2 x y v u Q I2 rx ry q (hs _ _))
def rIxL (K : PySem.W.Frag) : R2 := fun x y H Q => ∃ p xs i v, x = .ref p ∧ y = .int i ∧ SqL K H p xs ∧ atI xs i = some v ∧ Q v H
def rIxT (K : PySem.W.Frag) : R2 := fun x y H Q => ∃ p xs i v, x = .ref p ∧ y = .int i ∧ SqT K H p xs ∧ atI xs i = some v ∧ Q v H
def rIxS : R2 := fun x y H Q => ∃ z i c, x = .str z ∧ y = .int i ∧ z.length ≤ sizeLine ∧ atI z.cps.toList i = some c ∧ Q (.str ⟨#[c]⟩) H
theorem ix_list : IxR X (rIxL X.K) := by
  intro value slice pins s σ H x y v u Q I rx ry h hs
  obtain ⟨p, xs, i, z, rfl, rfl, hq, he, q⟩ := h
  cases rx
  obtain ⟨t, rfl⟩ := ry
  obtain ⟨its, r, pl, hz⟩ := I.list hq
  obtain ⟨j, h1, h2, h3, h4, h5⟩ := atI_get he
  obtain ⟨w, ew, rw'⟩ := r.get h2
  have hl := r.length
  have hn := line63
  have fin : EP X pins σ Q w s := ⟨z, H, I, rw', q⟩
  by_cases h0 : 0 ≤ i
  · have hj : i.toNat = j := by
      rw [seqIndex_of h0 h5] at h1
      exact Option.some.inj h1
    exact item_listR pl.isList h0 (by omega) (by rw [hj]; simpa using ew) fin hs
  · have hj : (i + (its.toArray.size : Int)).toNat = j := by
      rw [seqIndex_neg (by omega) h4] at h1
      rw [List.size_toArray, ← hl]
      exact Option.some.inj h1
    exact subscriptTail_builtinR (x := w) pl.isList.typeIs slot_list_getitem.lookup
      (wpAny_getItem_list_neg (Q := fun r s' => r = w ∧ EP X pins σ Q r s') pl.isList (by omega) (by rw [List.size_toArray] <;> omega) (by omega) (by rw [hj]; simpa using ew) ⟨rfl, fin⟩) hs
theorem ix_tup : IxR X (rIxT X.K) := by
  intro value slice pins s σ H x y v u Q I rx ry h hs
  obtain ⟨p, xs, i, z, rfl, rfl, hq, he, q⟩ := h
  cases rx
  obtain ⟨t, rfl⟩ := ry
  obtain ⟨its, r, pl, hz⟩ := I.tuple hq
  obtain ⟨j, h1, h2, h3, h4, h5⟩ := atI_get he
  obtain ⟨w, ew, rw'⟩ := r.get h2
  have hl := r.length
  have hn := line63
  have fin : EP X pins σ Q w s := ⟨z, H, I, rw', q⟩
  exact subscriptTail_builtinR (x := w) pl.typeIs slot_tuple_getitem.lookup
    (getItem_tuple (j := j) (Q := fun r s' => r = w ∧ EP X pins σ Q r s') pl (by omega) (by omega) (by rw [List.size_toArray, ← hl]; exact h1) (by simpa using ew) ⟨rfl, fin⟩) hs
theorem ix_str : IxR X rIxS := by
  intro value slice pins s σ H x y v u Q I rx ry h hs
  obtain ⟨z, i, c, rfl, rfl, hz, he, q⟩ := h
  obtain ⟨t, rfl⟩ := rx
  obtain ⟨t', rfl⟩ := ry
  obtain ⟨j, h1, h2, h3, h4, h5⟩ := atI_get he
  have hl : z.cps.toList.length = z.length := by simp [Str.length]
  rw [hl] at h1 h4 h5
  have hn := line63
  exact tail_any (typeIs_str s z t) slot_str_getitem.lookup (getItem_str (c := c) (by
    have e1 : decide (i < -(2 ^ 63 : Int)) = false := decide_eq_false (by omega)
    have e2 : decide (i ≥ 2 ^ 63) = false := decide_eq_false (by omega)
    rw [e1, e2, Bool.or_false]) (by rw [h1]; simpa using h2) ⟨.str ⟨#[c]⟩, H, I.tok _, ⟨_, rfl⟩, q⟩) hs
def flatV : V → Bool
  | .non => true
  | .bl _ => true
  | .int _ => true
  | .str _ => true
  | _ => false
def eqV : V → V → Bool
  | .non, .non => true
  | .bl a, .bl b => a == b
  | .bl a, .int b => (if a then 1 else 0) == b
  | .int a, .bl b => a == (if b then 1 else 0)
  | .int a, .int b => a == b
  | .str a, .str b => a == b
  | _, _ => false
theorem eqAt_V {A : Around} {s : Shared} {y x : V} {u v : Value} (ry : RelV y u) (rx : RelV x v) (fy : flatV y = true) (fx : flatV x = true) : SeqAt.EqAt A s u v (eqV y x) := by
  cases y with
  | non =>
    cases ry
    cases x with
    | non => cases rx; exact SeqAt.EqAt.same _
    | bl b => cases rx; exact SeqAt.EqAt.none_bool b
    | int b => obtain ⟨t, rfl⟩ := rx; exact SeqAt.EqAt.none_int b t
    | str b => obtain ⟨t, rfl⟩ := rx; exact SeqAt.EqAt.none_str b t
    | _ => exact absurd (show false = true from fx) Bool.false_ne_true
  | bl a =>
    cases ry
    cases x with
    | non => cases rx; exact SeqAt.EqAt.bool_none a
    | bl b => cases rx; exact SeqAt.EqAt.bool_bool a b
    | int b => obtain ⟨t, rfl⟩ := rx; exact SeqAt.EqAt.bool_int a b t
    | str b => obtain ⟨t, rfl⟩ := rx; exact SeqAt.EqAt.bool_str a b t
    | _ => exact absurd (show false = true from fx) Bool.false_ne_true
  | int a =>
    obtain ⟨t', rfl⟩ := ry
    cases x with
    | non => cases rx; exact SeqAt.EqAt.int_none a t'
    | bl b => cases rx; exact SeqAt.EqAt.int_bool a t' b
    | int b => obtain ⟨t, rfl⟩ := rx; exact SeqAt.EqAt.int_int a t' b t
    | str b => obtain ⟨t, rfl⟩ := rx; exact SeqAt.EqAt.int_str a t' b t
    | _ => exact absurd (show false = true from fx) Bool.false_ne_true
  | str a =>
    obtain ⟨t', rfl⟩ := ry
    cases x with
    | non => cases rx; exact SeqAt.EqAt.str_none a t'
    | bl b => cases rx; exact SeqAt.EqAt.str_bool a t' b
    | int b => obtain ⟨t, rfl⟩ := rx; exact SeqAt.EqAt.str_int a t' b t
    | str b => obtain ⟨t, rfl⟩ := rx; exact SeqAt.EqAt.str_str a t' b t
    | _ => exact absurd (show false = true from fx) Bool.false_ne_true
  | _ => exact absurd (show false = true from fy) Bool.false_ne_true
def eqU (x : V) (u : Value) : Bool := match u with
  | .none => eqV .non x
  | .bool b => eqV (.bl b) x
  | .int i _ => eqV (.int i) x
  | .str z _ => eqV (.str z) x
  | _ => false
theorem eqU_of {x y : V} {u : Value} (r : RelV y u) (f : flatV y = true) : eqU x u = eqV y x := by
  cases y with
  | non => cases r; rfl
  | bl b => cases r; rfl
  | int i => obtain ⟨t, rfl⟩ := r; rfl
  | str z => obtain ⟨t, rfl⟩ := r; rfl
  | _ => exact absurd (show false = true from f) Bool.false_ne_true
theorem any_eqU {x : V} : ∀ {xs : List V} {us : List Value}, Vals xs us → xs.all flatV = true → us.any (eqU x) = xs.any fun y => eqV y x
  | _, _, .nil, _ => rfl
  | y :: xs, u :: us, .cons r t, f => by
    rw [List.all_cons, Bool.and_eq_true] at f
    rw [List.any_cons, List.any_cons, eqU_of r f.1, any_eqU t f.2]
theorem mem_eqAt {A : Around} {s : Shared} {x : V} {v : Value} (rx : RelV x v) (fx : flatV x = true) : ∀ {xs : List V} {us : List Value}, Vals xs us → xs.all flatV = true → ∀ u ∈ us, SeqAt.EqAt A s u v (eqU x u)
  | _, _, .nil, _ => fun u hu => by cases hu
  | y :: xs, u :: us, .cons r t, f => fun u' hu => by
    rw [List.all_cons, Bool.and_eq_true] at f
    rcases List.mem_cons.mp hu with rfl | hu
    · rw [eqU_of r f.1]; exact eqAt_V r rx f.1 fx
    · exact mem_eqAt rx fx t f.2 u' hu
def inV (x : V) (xs : List V) : Bool := xs.any fun y => eqV y x
def rIn (K : PySem.W.Frag) (neg : Bool) : R2 := fun x y H Q => ∃ p xs, y = .ref p ∧ (SqL K H p xs ∨ SqT K H p xs) ∧ flatV x = true ∧ xs.all flatV = true ∧ Q (.bl (if neg then !inV x xs else inV x xs)) H
theorem op_in_seq : OpR X (compareOp .In) (rIn X.K false) := by
  intro pins s σ H x y v u Q I rx ry h
  obtain ⟨p, xs, rfl, hq, fx, fs, q⟩ := h
  cases ry
  rcases hq with hq | hq
  · obtain ⟨its, r, pl, hz⟩ := I.list hq
    refine SeqAt.in_listAt (eqU x) pl.isList (fun w hw => mem_eqAt rx fx r fs w (by simpa using hw)) ⟨.bl _, H, I, rfl, ?_⟩
    rw [show its.toArray.any (eqU x) = its.any (eqU x) by simp, any_eqU r fs]
    exact q
  · obtain ⟨its, r, pl, hz⟩ := I.tuple hq
    refine SeqAt.in_tupleAt (eqU x) pl (fun w hw => mem_eqAt rx fx r fs w (by simpa using hw)) ⟨.bl _, H, I, rfl, ?_⟩
    rw [show its.toArray.any (eqU x) = its.any (eqU x) by simp, any_eqU r fs]
    exact q
theorem op_notIn_seq : OpR X (compareOp .NotIn) (rIn X.K true) := by
  intro pins s σ H x y v u Q I rx ry h
  obtain ⟨p, xs, rfl, hq, fx, fs, q⟩ := h
  cases ry
  rcases hq with hq | hq
  · obtain ⟨its, r, pl, hz⟩ := I.list hq
    refine SeqAt.notIn_listAt (eqU x) pl.isList (fun w hw => mem_eqAt rx fx r fs w (by simpa using hw)) ⟨.bl _, H, I, rfl, ?_⟩
    rw [show its.toArray.any (eqU x) = its.any (eqU x) by simp, any_eqU r fs]
    exact q
  · obtain ⟨its, r, pl, hz⟩ := I.tuple hq
    refine SeqAt.notIn_tupleAt (eqU x) pl (fun w hw => mem_eqAt rx fx r fs w (by simpa using hw)) ⟨.bl _, H, I, rfl, ?_⟩
    rw [show its.toArray.any (eqU x) = its.any (eqU x) by simp, any_eqU r fs]
    exact q
theorem call_len_seq : CallR X (.builtin "len") (fun xs H Q => ∃ p ys, xs = [.ref p] ∧ (SqL X.K H p ys ∨ SqT X.K H p ys) ∧ Q (.int ys.length) H) := by
  intro pins s σ H xs us Q I r h
  obtain ⟨p, ys, rfl, hq, q⟩ := h
  obtain ⟨u, rfl, rx⟩ := vals1 r
  cases rx
  have hn := line63
  rcases hq with hq | hq
  · obtain ⟨its, r', pl, hz⟩ := I.list hq
    have hlen := r'.length
    exact Calls.call_len_list pl.isList (by simp only [List.size_toArray] <;> omega) ⟨.int ys.length, H, I.tok _, ⟨s.toks + 1, by rw [List.size_toArray, hlen]⟩, q⟩
  · obtain ⟨its, r', pl, hz⟩ := I.tuple hq
    have hlen := r'.length
    exact len_tuple pl (by simp only [List.size_toArray] <;> omega) ⟨.int ys.length, H, I.tok _, ⟨s.toks + 1, by rw [List.size_toArray, hlen]⟩, q⟩
theorem call_len_str : CallR X (.builtin "len") (fun xs H Q => ∃ z, xs = [.str z] ∧ z.length ≤ sizeLine ∧ Q (.int z.length) H) := by
  intro pins s σ H xs us Q I r h
  obtain ⟨z, rfl, hz, q⟩ := h
  obtain ⟨u, rfl, t, rfl⟩ := vals1 r
  have hn := line63
  exact len_str (by omega) ⟨.int z.length, H, I.tok _, ⟨_, rfl⟩, q⟩
def tyV (K : PySem.W.Frag) (T : String) (x : V) (H : Hp) : Prop := match x with
  | .str _ => T = "str"
  | .int _ => T = "int"
  | .ref p => (T = "list" ∧ ∃ xs, SqL K H p xs) ∨ (T = "tuple" ∧ ∃ o, K.lookup p = some o ∧ o.cls = .type "tuple" ∧ o.dict = none) ∨
      (T = "dict" ∧ ((∃ kvs, H p = some (.dK kvs)) ∨ ∃ kvs, H p = some (.dT kvs))) ∨ (T = "set" ∧ ∃ S n, H p = some (.set S n))
  | _ => False
theorem tyV_is {pins : List (Addr × Obj)} {σ : St} {H : Hp} {s : Shared} {T : String} {x : V} {v : Value} (I : Inv X pins σ H s) (r : RelV x v) (ty : tyV X.K T x H) :
    s.TypeIs v T ∧ ∀ a, v = .ref a → ∃ ob, s.heap.get? a = some ob ∧ ob.dict = none := by
  cases x with
  | str z =>
    obtain ⟨t, rfl⟩ := r
    cases (show T = "str" from ty)
    exact ⟨typeIs_str s z t, fun _ e => nomatch e⟩
  | int i =>
    obtain ⟨t, rfl⟩ := r
    cases (show T = "int" from ty)
    exact ⟨typeIs_int s i t, fun _ e => nomatch e⟩
  | ref p =>
    cases r
    rcases ty with ⟨rfl, xs, hq⟩ | ⟨rfl, o, hk, hc, hd⟩ | ⟨rfl, hk⟩ | ⟨rfl, S, n, hk⟩
    · obtain ⟨its, _, pl, _⟩ := I.list hq
      refine ⟨pl.isList.typeIs, fun a e => ?_⟩
      cases e
      obtain ⟨o, n, e, c, hd, _⟩ := pl
      exact ⟨o, e, hd⟩
    · refine ⟨⟨o, I.kIn p o hk, hc⟩, fun a e => ?_⟩
      cases e
      exact ⟨o, I.kIn _ o hk, hd⟩
    · have z : ∃ o, s.heap.get? p = some o ∧ o.ExactDict := by
        rcases hk with ⟨kvs, hk⟩ | ⟨kvs, hk⟩
        · obtain ⟨_, _, _, _, o, _, _, e, ex, _⟩ := I.hok p _ hk
          exact ⟨o, e, ex⟩
        · obtain ⟨_, _, _, _, o, _, _, e, ex, _⟩ := I.hok p _ hk
          exact ⟨o, e, ex⟩
      obtain ⟨o, e, ex⟩ := z
      refine ⟨⟨o, e, ex.1⟩, fun a e2 => ?_⟩
      cases e2
      exact ⟨o, e, ex.2.1⟩
    · obtain ⟨o, _, _, _, e, ex, _⟩ := I.hok p _ hk
      refine ⟨⟨o, e, ex.1⟩, fun a e2 => ?_⟩
      cases e2
      exact ⟨o, e, ex.2.1⟩
  | _ => exact False.elim ty
def tBM (K : PySem.W.Frag) (T : String) (r : V → List V → Hp → VK → Prop) (to : TE) (t : TA) : TE := fun σ H Q => to σ H fun x H1 => tyV K T x H1 ∧ t σ H1 fun xs H2 => r x xs H2 Q
variable {o e : Expr} {es : List Expr} {to : TE} {t : TA} {name : Str} {apos cpos : Pos} {T id : String} {r : V → List V → Hp → VK → Prop}
theorem pe_bm (pa : PlainAttrs T) (slot : Slot T name id) (hty : typeOf (.builtin id) = pure (.type "method_descriptor")) (hm : MtR X id r) (ho : PE X o to) (ha : PA X (e :: es) t)
    (hbase : attributeBase o name X.env (eval o X.env) = eval o X.env := by rfl)
    (hfew : ((backTo cpos (starEach (e :: es) X.env)).all (fun x => !x.1) && (backToKw cpos (keywordEach [] X.env)).all (fun x => x.1.isSome)
      && decide ((e :: es).length + ([] : List Keyword).length + (if ([] : List Keyword).isEmpty then 0 else 1) < 30)) = true := by rfl)
    (hline : (apos.endLine == cpos.line) = true := by rfl) (hs : starEach (e :: es) X.env = (false, eval e X.env) :: starEach es X.env := by rfl) (hplain : (backTo cpos (starEach es X.env)).any (·.1) = false := by rfl) :
    PE X (.Call (.Attribute o name apos) (e :: es) [] cpos) (tBM X.K T r to t) := by
  intro pins s σ H Q I h
  refine wpAny_Call_method_late hbase hfew hline rfl (thn (ho pins s σ H _ I h) fun v s1 ⟨x, H1, I1, r1, ty, q1⟩ => ?_)
  obtain ⟨h1, h2⟩ := tyV_is I1 r1 ty
  refine ⟨T, id, pa, slot, hty, h1, h2, ?_⟩
  have hA := ha cpos pins s1 σ H1 _ I1 q1
  rw [hs] at hA ⊢
  refine Calls.callWith_builtin (by show (false || (backTo cpos (starEach es X.env)).any (·.1)) = false; rw [hplain] <;> rfl) (Calls.evalArgs_plain ?_)
  exact thn hA fun us s2 ⟨vs, H2, I2, r2, q2⟩ => hm pins s2 σ H2 x vs v us Q I2 r1 r2 q2
/- xs.append(e), list.index on a module's tuple .. are MtR facts of 06m -/
end
end L2
namespace L2
open PySem PySem.Spec PyProof.Rows
def MtM (X : Cx) (id : String) (r : V → List V → Hp → VK → Prop) : Prop :=
  ∀ (pins : List (Addr × Obj)) (s : Shared) (σ : St) (H : Hp) (x : V) (xs : List V) (v : Value) (us : List Value) (Q : VK), Inv X pins σ H s → RelV x v → Vals xs us → r x xs H Q →
    wpAny (model X.prog X.w) X.A (call (.builtin id) (v :: us)) (EP X pins σ Q) X.xe s
theorem Vals.one : ∀ {x : V} {us : List Value}, Vals [x] us → ∃ u, us = [u] ∧ RelV x u
  | _, _, .cons r .nil => ⟨_, rfl, r⟩
section
variable {X : Cx} {pins : List (Addr × Obj)} {σ : St} {H : Hp} {s : Shared} {l b : Addr} {xs ys zs : List V}
theorem Inv.lset {its its' : List Value} {n : Nat} {f : Array Value → Array Value} {t' : Nat} (I : Inv X pins σ H s) (hH : H l = some (.lst xs))
    (e : s.heap.get? l = some { cls := .type "list", data := .seq its.toArray n }) (hf : f its.toArray = its'.toArray) (hv : Vals ys its') (hz : ys.length ≤ sizeLine) :
    Inv X pins σ (upd H l (.lst ys)) { s with heap := s.heap.update l (Obj.mapSeq f), toks := t' } := by
  have q := PySem.IsL.update e f
  rw [hf] at q
  refine I.write (x := l) (e := l) (by rw [hH]; exact trivial) (.inl rfl) (fun b' u hb hu => (Heap.get?_update_other s.heap (Obj.mapSeq f) (Ne.symm hb)).trans hu) ⟨_, q⟩ ?_
  exact ⟨hz, its', _, hv, q⟩
theorem Inv.lnew {its : List Value} {t' : Nat} (I : Inv X pins σ H s) (hv : Vals ys its) (hz : ys.length ≤ sizeLine) :
    Inv X pins σ (upd H s.heap.objs.size (.lst ys)) { s with heap := s.heap.push { cls := .type "list", data := .seq its.toArray }, toks := t' } :=
  I.laid (fun _ _ q => Heap.get?_push_of_some _ q) (Nat.le_refl _) ⟨hz, its, 0, hv, Heap.get?_push_size _ rfl⟩
theorem Inv.fresh (I : Inv X pins σ H s) : H s.heap.objs.size = none := I.hok.fresh (Nat.le_refl _)
theorem Inv.lstM (I : Inv X pins σ H s) (hH : H l = some (.lst xs)) : xs.length ≤ sizeLine ∧ ∃ (its : List Value) (n : Nat), Vals xs its ∧ xs.length = its.length ∧ s.heap.get? l = some { cls := .type "list", data := .seq its.toArray n } := by
  obtain ⟨z, its, n, r, e⟩ := I.hok l _ hH
  exact ⟨z, its, n, r, r.length, e⟩
theorem notLongL {n : Nat} (h : n ≤ sizeLine) : Builtin.List.listTooLong n = false := by
  unfold Builtin.List.listTooLong
  exact decide_eq_false (by omega)
end
section
variable {X : Cx}
def rAppend : V → List V → Hp → VK → Prop := fun x vs H Q => ∃ l xs y, x = .ref l ∧ vs = [y] ∧ H l = some (.lst xs) ∧ xs.length < sizeLine ∧ Q .non (upd H l (.lst (xs ++ [y])))
theorem mt_append : MtM X "list.append" rAppend := by
  intro pins s σ H x vs v us Q I rx rv h
  obtain ⟨l, xs, y, rfl, rfl, hH, hz, q⟩ := h
  cases rx
  obtain ⟨u, rfl, ru⟩ := rv.one
  obtain ⟨z, its, n, r, hl, e⟩ := I.lstM hH
  refine call_meets F.slot_list_append ⟨_, e, rfl⟩ F.entry_list_append (F.args_list_append_2 _ _) (PySem.list_append l its.toArray n u (by rw [List.size_toArray]; omega)) ⟨e, ?_⟩
  refine ⟨.non, _, I.lset (its' := its ++ [u]) hH e (by simp) (r.append (.cons ru .nil)) ?_, rfl, q⟩
  rw [List.length_append, List.length_singleton]
  omega
def rExtend : V → List V → Hp → VK → Prop := fun x vs H Q => ∃ l b xs zs, x = .ref l ∧ vs = [.ref b] ∧ H l = some (.lst xs) ∧ H b = some (.lst zs) ∧ xs.length + zs.length ≤ sizeLine ∧ Q .non (upd H l (.lst (xs ++ zs)))
theorem mt_extend : MtM X "list.extend" rExtend := by
  intro pins s σ H x vs v us Q I rx rv h
  obtain ⟨l, b, xs, zs, rfl, rfl, hH, hB, hz, q⟩ := h
  cases rx
  obtain ⟨u, rfl, ru⟩ := rv.one
  cases ru
  obtain ⟨z, its, n, r, hl, e⟩ := I.lstM hH
  obtain ⟨z2, its2, n2, r2, hl2, e2⟩ := I.lstM hB
  have hsz : its.toArray.size + its2.toArray.size ≤ sizeLine := by rw [List.size_toArray, List.size_toArray]; omega
  have hlong : ¬ (!its.toArray.isEmpty && Builtin.List.listTooLong (its.toArray.size + its2.toArray.size)) = true := by
    rw [notLongL hsz, Bool.and_false]
    exact Bool.false_ne_true
  refine call_meets F.slot_list_extend ⟨_, e, rfl⟩ F.entry_list_extend (F.args_list_extend_2 _ _)
    (AutoSeq1.list_extend_list_list_0 l its.toArray n b its2.toArray n2 hlong (by rw [List.size_toArray]; omega) (by omega)) ⟨e, e2, ?_⟩
  refine ⟨.non, _, I.lset (its' := its ++ its2) hH e (by simp) (r.append r2) ?_, rfl, q⟩
  rw [List.length_append]
  omega
def rCat : R2 := fun x y H Q => ∃ l b xs zs, x = .ref l ∧ y = .ref b ∧ H l = some (.lst xs) ∧ H b = some (.lst zs) ∧ xs.length + zs.length ≤ sizeLine ∧ ∀ p, H p = none → Q (.ref p) (upd H p (.lst (xs ++ zs)))
theorem op_cat : OpR X (binaryOp .Add) rCat := by
  intro pins s σ H x y v u Q I rx ry h
  obtain ⟨l, b, xs, zs, rfl, rfl, hH, hB, hz, q⟩ := h
  cases rx
  cases ry
  obtain ⟨z, its, n, r, hl, e⟩ := I.lstM hH
  obtain ⟨z2, its2, n2, r2, hl2, e2⟩ := I.lstM hB
  refine PySem.P.add_list e e2 ?_ (by rw [List.size_toArray, List.size_toArray]; omega)
  have ea : its.toArray ++ its2.toArray = (its ++ its2).toArray := by simp
  rw [ea]
  exact ⟨.ref _, _, I.lnew (t' := s.toks) (r.append r2) (by rw [List.length_append]; omega), rfl, q _ I.fresh⟩
end
end L2
namespace L2
open PySem PySem.Spec PyProof.Rows
mutual
inductive Dp (K : PySem.W.Frag) (H : Hp) : V → PyData → Prop
  | non : Dp K H .non .none
  | bl (b : Bool) : Dp K H (.bl b) (.bool b)
  | int (i : Int) : Dp K H (.int i) (.int i)
  | str (x : Str) : Dp K H (.str x) (.str x)
  | lst {a : Addr} {xs : List V} {ds : List PyData} : SqL K H a xs → DpAll K H xs ds → Dp K H (.ref a) (.list ds)
  | tup {a : Addr} {xs : List V} {ds : List PyData} : SqT K H a xs → DpAll K H xs ds → Dp K H (.ref a) (.tuple ds)
inductive DpAll (K : PySem.W.Frag) (H : Hp) : List V → List PyData → Prop
  | nil : DpAll K H [] []
  | cons {v : V} {vs : List V} {d : PyData} {ds : List PyData} : Dp K H v d → DpAll K H vs ds → DpAll K H (v :: vs) (d :: ds)
end
section
variable {X : Cx} {pins : List (Addr × Obj)} {σ : St} {H : Hp} {s : Shared}
mutual
theorem Dp.reads (I : Inv X pins σ H s) : ∀ (d : PyData) (v : V) (u : Value), Dp X.K H v d → RelV v u → ∃ as, Reads s.heap u d as
  | .none, _, _, h, r => by
    cases h
    cases r
    exact ⟨_, Reads.none⟩
  | .bool b, _, _, h, r => by
    cases h
    cases r
    exact ⟨_, Reads.bool b⟩
  | .int i, _, _, h, r => by
    cases h
    obtain ⟨t, rfl⟩ := r
    exact ⟨_, Reads.int i t⟩
  | .str x, _, _, h, r => by
    cases h
    obtain ⟨t, rfl⟩ := r
    exact ⟨_, Reads.str x t⟩
  | .list ds, _, _, h, r => by
    cases h with
    | lst hs ha =>
      cases r
      obtain ⟨its, rv, ⟨o, n, ho, hc, _, hd⟩, _⟩ := I.list hs
      obtain ⟨as, hr⟩ := Dp.readsAll I ds _ its ha rv
      exact ⟨_, Reads.list ho hc hd hr⟩
  | .tuple ds, _, _, h, r => by
    cases h with
    | tup hs ha =>
      cases r
      obtain ⟨its, rv, ⟨o, ho, hc, n, hd⟩, _⟩ := I.tuple hs
      obtain ⟨as, hr⟩ := Dp.readsAll I ds _ its ha rv
      exact ⟨_, Reads.tuple ho hc hd hr⟩
  | .dict _, _, _, h, _ => by cases h
theorem Dp.readsAll (I : Inv X pins σ H s) : ∀ (ds : List PyData) (vs : List V) (us : List Value), DpAll X.K H vs ds → Vals vs us → ∃ as, ReadsAll s.heap us ds as
  | [], _, _, h, r => by
    cases h
    cases r
    exact ⟨_, ReadsAll.nil⟩
  | d :: ds, _, _, h, r => by
    cases h with
    | cons h1 h2 =>
      cases r with
      | cons r1 r2 =>
        obtain ⟨as, q1⟩ := Dp.reads I d _ _ h1 r1
        obtain ⟨bs, q2⟩ := Dp.readsAll I ds _ _ h2 r2
        exact ⟨_, ReadsAll.cons q1 q2⟩
end
end
section
variable {X : Cx}
def rEqD (K : PySem.W.Frag) : R2 := fun x y H Q => ∃ d e, Dp K H x d ∧ Dp K H y e ∧ SeqAt.shaped d = true ∧ SeqAt.shaped e = true ∧ Q (.bl (PyData.eqv d e)) H
def rNeD (K : PySem.W.Frag) : R2 := fun x y H Q => ∃ d e, Dp K H x d ∧ Dp K H y e ∧ SeqAt.shaped d = true ∧ SeqAt.shaped e = true ∧ Q (.bl (!PyData.eqv d e)) H
theorem op_eqD (hu : X.A.units + 64 < cLine) : OpR X (compareOp .Eq) (rEqD X.K) := by
  intro pins s σ H x y v u Q I rx ry h
  obtain ⟨d, e, hd, he, sd, se, q⟩ := h
  obtain ⟨as, r1⟩ := Dp.reads I d x v hd rx
  obtain ⟨bs, r2⟩ := Dp.reads I e y u he ry
  exact SeqAt.compareEq_shaped r1 r2 sd se hu ⟨.bl _, H, I, rfl, q⟩
theorem op_neD (hu : X.A.units + 64 < cLine) : OpR X (compareOp .NotEq) (rNeD X.K) := by
  intro pins s σ H x y v u Q I rx ry h
  obtain ⟨d, e, hd, he, sd, se, q⟩ := h
  obtain ⟨as, r1⟩ := Dp.reads I d x v hd rx
  obtain ⟨bs, r2⟩ := Dp.reads I e y u he ry
  exact SeqAt.compareNe_shaped r1 r2 sd se hu ⟨.bl _, H, I, rfl, q⟩
end
end L2
namespace L2
open PySem PySem.Spec PyProof.Rows
abbrev CellAt (h : Heap) (c : Addr) (v : Option Value) : Prop := h.IsCell c v
def relS (scope sc : Scope) : Scope :=
  { scope with names := scope.names.map fun (n, k) => if (k == .free && sc.kind == .function && sc.names.lookup n == some .cell) then (n, .cell) else (n, k) }
def cloFrom (cells : List (Str × Addr)) : List (Str × NameKind) → List (Str × Addr) → List (Str × Addr)
  | [], acc => acc
  | (n, k) :: r, acc => if k == .free then cloFrom cells r ((n, (cells.lookup n).getD 0) :: acc) else cloFrom cells r acc
theorem closure_loop (env : Env) (f : Str × NameKind → List (Str × Addr) → Sem (ForInStep (List (Str × Addr))))
    (hf : ∀ n k c, f (n, k) c = if k == .free then (do let a ← cellOf env n; pure (.yield ((n, a) :: c))) else pure (.yield c)) :
    ∀ (names : List (Str × NameKind)) (acc : List (Str × Addr)), (∀ y ∈ names, y.2 = .free → ∃ c, env.cells.lookup y.1 = some c) → forIn names acc f = pure (cloFrom env.cells names acc)
  | [], acc, _ => by rw [List.forIn_nil]; rfl
  | (n, k) :: r, acc, h => by
    rw [List.forIn_cons, hf]
    have ih := fun acc => closure_loop env f hf r acc fun y hy => h y (List.mem_cons_of_mem _ hy)
    unfold cloFrom
    by_cases hk : (k == NameKind.free) = true
    · rw [if_pos hk, if_pos hk]
      obtain ⟨c, hc⟩ := h (n, k) List.mem_cons_self (by simpa using hk)
      have e : cellOf env n = pure c := by unfold cellOf; rw [hc]
      rw [e]
      have e2 : (env.cells.lookup n).getD 0 = c := by rw [hc]; rfl
      rw [e2]
      exact ih _
    · rw [if_neg hk, if_neg hk]
      exact ih _
theorem closure_ok {scope : Scope} {env : Env} (h : ∀ y ∈ scope.names, y.2 = .free → ∃ c, env.cells.lookup y.1 = some c) : closureFor scope env = pure (cloFrom env.cells scope.names []) := by
  simp only [closureFor]
  rw [closure_loop env _ (fun n k c => rfl) scope.names [] h]
  rfl
theorem mem_lookup {α : Type} : ∀ {l : List (Str × α)} {n : Str} {c : α}, (n, c) ∈ l → ∃ c', l.lookup n = some c'
  | (k, v) :: r, n, c, h => by
    rw [List.lookup_cons]
    cases hb : n == k with
    | true => exact ⟨_, rfl⟩
    | false =>
      rcases List.mem_cons.mp h with e | h
      · cases e; simp at hb
      · exact mem_lookup h
theorem cloFrom_mem {cells : List (Str × Addr)} : ∀ {names : List (Str × NameKind)} {acc : List (Str × Addr)} {n : Str} {c : Addr}, (n, c) ∈ cloFrom cells names acc → (n, c) ∈ acc ∨ ((n, .free) ∈ names ∧ c = (cells.lookup n).getD 0)
  | [], _, _, _, h => .inl h
  | (m, k) :: r, acc, n, c, h => by
    unfold cloFrom at h
    split at h
    · rename_i hk
      have hk : k = .free := by simpa using hk
      rcases cloFrom_mem h with h | ⟨h1, h2⟩
      · rcases List.mem_cons.mp h with e | h
        · cases e; exact .inr ⟨hk ▸ List.mem_cons_self, rfl⟩
        · exact .inl h
      · exact .inr ⟨List.mem_cons_of_mem _ h1, h2⟩
    · rcases cloFrom_mem h with h | ⟨h1, h2⟩
      · exact .inl h
      · exact .inr ⟨List.mem_cons_of_mem _ h1, h2⟩
theorem cloFrom_acc {cells : List (Str × Addr)} : ∀ {names : List (Str × NameKind)} {acc : List (Str × Addr)} {p : Str × Addr}, p ∈ acc → p ∈ cloFrom cells names acc
  | [], _, _, h => h
  | (m, k) :: r, acc, p, h => by
    unfold cloFrom
    split
    · exact cloFrom_acc (List.mem_cons_of_mem _ h)
    · exact cloFrom_acc h
theorem cloFrom_has {cells : List (Str × Addr)} : ∀ {names : List (Str × NameKind)} {acc : List (Str × Addr)} {n : Str}, (n, .free) ∈ names → (n, (cells.lookup n).getD 0) ∈ cloFrom cells names acc
  | (m, k) :: r, acc, n, h => by
    unfold cloFrom
    rcases List.mem_cons.mp h with e | h
    · cases e
      exact cloFrom_acc List.mem_cons_self
    · split
      · exact cloFrom_has h
      · exact cloFrom_has h
theorem cells_mem : ∀ {names : List (Str × NameKind)} {h : Heap} {acc : List (Str × Addr)} {x : Str} {c : Addr}, (x, c) ∈ cellsFrom h.objs.size names acc →
    (x, c) ∈ acc ∨ ((x, .cell) ∈ names ∧ h.objs.size ≤ c ∧ CellAt (pushCells h names) c none)
  | [], _, _, _, _, h => .inl h
  | (n, k) :: r, h, acc, x, c, hm => by
    unfold cellsFrom at hm
    unfold pushCells
    split at hm
    · rename_i hk
      rw [if_pos hk]
      have hk : k = .cell := by simpa using hk
      rw [← Heap.size_push h { cls := .type "cell", data := .cell none }] at hm
      rcases cells_mem hm with hm | ⟨h1, h2, h3⟩
      · rcases List.mem_cons.mp hm with e | hm
        · cases e
          exact .inr ⟨hk ▸ List.mem_cons_self, Nat.le_refl _, _, pushCells_keeps r _ _ _ (Heap.get?_push_size _ rfl), rfl⟩
        · exact .inl hm
      · rw [Heap.size_push] at h2
        exact .inr ⟨List.mem_cons_of_mem _ h1, Nat.le_of_succ_le h2, h3⟩
    · rename_i hk
      rw [if_neg hk]
      rcases cells_mem hm with hm | ⟨h1, h2, h3⟩
      · exact .inl hm
      · exact .inr ⟨List.mem_cons_of_mem _ h1, h2, h3⟩
theorem cells_acc : ∀ {names : List (Str × NameKind)} {n : Nat} {acc : List (Str × Addr)} {p : Str × Addr}, p ∈ acc → p ∈ cellsFrom n names acc
  | [], _, _, _, h => h
  | (m, k) :: r, n, acc, p, h => by
    unfold cellsFrom
    split
    · exact cells_acc (List.mem_cons_of_mem _ h)
    · exact cells_acc h
theorem cells_has : ∀ {names : List (Str × NameKind)} {n : Nat} {acc : List (Str × Addr)} {x : Str}, (x, .cell) ∈ names → ∃ c, (x, c) ∈ cellsFrom n names acc
  | (m, k) :: r, n, acc, x, h => by
    unfold cellsFrom
    rcases List.mem_cons.mp h with e | h
    · cases e
      exact ⟨n, cells_acc List.mem_cons_self⟩
    · split
      · exact cells_has h
      · exact cells_has h
theorem cells_inj : ∀ {names : List (Str × NameKind)} {h : Heap} {acc : List (Str × Addr)} {x y : Str} {c : Addr}, (∀ p ∈ acc, p.2 < h.objs.size) → (∀ x y c, (x, c) ∈ acc → (y, c) ∈ acc → x = y) →
    (x, c) ∈ cellsFrom h.objs.size names acc → (y, c) ∈ cellsFrom h.objs.size names acc → x = y
  | [], _, _, _, _, _, _, hi, h1, h2 => hi _ _ _ h1 h2
  | (n, k) :: r, h, acc, x, y, c, hl, hi, h1, h2 => by
    unfold cellsFrom at h1 h2
    split at h1
    · rename_i hk
      rw [if_pos hk] at h2
      rw [← Heap.size_push h { cls := .type "cell", data := .cell none }] at h1 h2
      refine cells_inj (h := h.push _) (fun p hp => ?_) (fun x y c a b => ?_) h1 h2
      · rw [Heap.size_push]
        rcases List.mem_cons.mp hp with rfl | hp
        · exact Nat.lt_succ_self _
        · exact Nat.lt_succ_of_lt (hl p hp)
      · rcases List.mem_cons.mp a with e | a <;> rcases List.mem_cons.mp b with e' | b
        · cases e; cases e'; rfl
        · cases e; exact absurd (hl _ b) (Nat.lt_irrefl _)
        · cases e'; exact absurd (hl _ a) (Nat.lt_irrefl _)
        · exact hi _ _ _ a b
    · rename_i hk
      rw [if_neg hk] at h2
      exact cells_inj hl hi h1 h2
theorem newEnv_comp {M : Model} {A : Around} {E : Value → Shared → Prop} {s : Shared} {scope : Scope} {globals : Addr} {closure : List (Str × Addr)} {qual : Str} {func : Option Addr} {code : Value} {around : Env} {builtins : Addr} {Q : Env → Shared → Prop}
    (h : Q (newEnv scope s.heap.objs.size globals (cellsFrom (s.heap.objs.size + 1) scope.names closure) qual func code (some around) builtins)
      { s with heap := pushCells (s.heap.push { cls := .type "dict", data := .dict #[] }) scope.names }) :
    wpAny M A (newFunctionEnv scope globals closure [] qual func code (some around) builtins) Q E s := by
  simp only [newFunctionEnv, Option.isSome_some, if_true]
  refine wpAny_bind (wpAny_alloc ?_)
  refine wpAny_bind (wpAny_layCells _ (fun n k c => rfl) scope.names closure _ _ ?_)
  rw [show ({ s with heap := s.heap.push { cls := .type "dict", data := .dict #[] } } : Shared).heap.objs.size = s.heap.objs.size + 1 from Heap.size_push ..]
  rw [List.forIn_nil]
  exact wpAny_bind (wpAny_pure (wpAny_pure h))
theorem lookup_relS {sc : Scope} : ∀ {names : List (Str × NameKind)} {x : Str} {k : NameKind},
    (names.map fun (n, k) => if (k == NameKind.free && sc.kind == .function && sc.names.lookup n == some .cell) then (n, NameKind.cell) else (n, k)).lookup x = some k →
    ∃ k', names.lookup x = some k' ∧ (k = k' ∨ (k' = .free ∧ k = .cell))
  | [], _, _, h => by simp at h
  | (n, k₀) :: r, x, k, h => by
    have ih := @lookup_relS sc r x k
    have h' : List.lookup x ((if (k₀ == NameKind.free && sc.kind == .function && sc.names.lookup n == some .cell) = true then (n, NameKind.cell) else (n, k₀)) :: (r.map _)) = some k := h
    cases hx : x == n with
    | true =>
      simp only [List.lookup_cons, hx]
      by_cases hc : (k₀ == NameKind.free && sc.kind == .function && sc.names.lookup n == some .cell) = true
      · rw [if_pos hc] at h'
        simp only [List.lookup_cons, hx] at h'
        cases h'
        simp only [Bool.and_eq_true, beq_iff_eq] at hc
        exact ⟨k₀, rfl, .inr ⟨hc.1.1, rfl⟩⟩
      · rw [if_neg hc] at h'
        simp only [List.lookup_cons, hx] at h'
        cases h'
        exact ⟨_, rfl, .inl rfl⟩
    | false =>
      simp only [List.lookup_cons, hx]
      by_cases hc : (k₀ == NameKind.free && sc.kind == .function && sc.names.lookup n == some .cell) = true
      · rw [if_pos hc] at h'
        simp only [List.lookup_cons, hx] at h'
        exact ih h'
      · rw [if_neg hc] at h'
        simp only [List.lookup_cons, hx] at h'
        exact ih h'
structure BlkOk (N : List Str) (sc scope : Scope) (own : List (Str × Nat)) : Prop where
  kind : scope.kind = .function
  uniq : ∀ y ∈ scope.names, scope.names.lookup y.1 = some y.2
  ix : ∀ p ∈ own, N[p.2]? = some p.1
  free : ∀ y ∈ scope.names, y.2 = .free → sc.names.lookup y.1 = some .cell ∨ sc.names.lookup y.1 = some .free
  own : ∀ y ∈ scope.names, y.2 = .local ∨ y.2 = .cell → y.1 ∈ own.map (·.1) ∨ y.1 ∉ N
def wipe (σ : St) : List Nat → St
  | [] => σ
  | v :: vs => (wipe σ vs).set v none
theorem wipe_length (σ : St) : ∀ vs : List Nat, (wipe σ vs).length = σ.length
  | [] => rfl
  | v :: vs => by unfold wipe; rw [List.length_set, wipe_length σ vs]
theorem wipe_some {σ : St} {i : Nat} {x : V} : ∀ {vs : List Nat}, (wipe σ vs)[i]? = some (some x) → σ[i]? = some (some x) ∧ i ∉ vs
  | [], h => ⟨h, by simp⟩
  | v :: vs, h => by
    unfold wipe at h
    by_cases hi : v = i
    · subst hi
      by_cases hv : v < (wipe σ vs).length
      · rw [List.getElem?_set_self hv] at h; cases h
      · rw [List.getElem?_eq_none (by simpa using hv)] at h; cases h
    · rw [List.getElem?_set_ne hi] at h
      obtain ⟨h1, h2⟩ := wipe_some h
      exact ⟨h1, by simp only [List.mem_cons, not_or]; exact ⟨fun e => hi e.symm, h2⟩⟩
abbrev Cx.blk (X : Cx) (s : Shared) (H : Hp) (scope : Scope) (cenv : Env) (fp : List Addr) : Cx := { X with s_0 := s, H_0 := H, env := cenv, outer := X.stack, ex := fp, fn := fun x => scope.names.lookup x == some .cell, pn := [], xe := fun _ _ => False }
section
variable {X : Cx} {pins : List (Addr × Obj)} {σ : St} {H : Hp} {s : Shared}
theorem block_start {scope : Scope} {own : List (Str × Nat)} {fp : List Addr} (I : Inv X pins σ H s) (ok : BlkOk X.N X.env.scope scope own) (hN : X.N.Nodup) (hfp : ∀ b ∈ fp, FpOk X pins H b ∧ b < s.heap.objs.size) :
    Inv (X.blk s H scope (compEnvC scope (cellsFrom (s.heap.objs.size + 1) scope.names (cloFrom X.env.cells scope.names [])) s.heap.objs.size X.env) fp) [] (wipe σ (own.map (·.2))) H { s with heap := pushCells (s.heap.push { cls := .type "dict", data := .dict #[] }) scope.names } := by
  have hfree : ∀ y ∈ scope.names, y.2 = .free → ∃ c, X.env.cells.lookup y.1 = some c := fun y hy e => by
    rcases ok.free y hy e with k | k
    · exact I.ok.has _ (.inl k)
    · exact I.ok.has _ (.inr k)
  generalize hcenv : compEnvC scope (cellsFrom (s.heap.objs.size + 1) scope.names (cloFrom X.env.cells scope.names [])) s.heap.objs.size X.env = cenv
  have kp : ∀ b o, s.heap.get? b = some o → (pushCells (s.heap.push { cls := .type "dict", data := .dict #[] }) scope.names).get? b = some o := fun b o e => pushCells_keeps _ _ _ _ (Heap.get?_push_of_some _ e)
  have hL : cenv.locals = s.heap.objs.size := by rw [← hcenv]; rfl
  have hcl : cenv.cells = cellsFrom (s.heap.objs.size + 1) scope.names (cloFrom X.env.cells scope.names []) := by rw [← hcenv]; rfl
  have hsc : cenv.scope = relS scope X.env.scope := by rw [← hcenv]; rfl
  rw [← Heap.size_push s.heap { cls := .type "dict", data := .dict #[] }] at hcl
  have cm : ∀ {y c}, (y, c) ∈ cloFrom X.env.cells scope.names [] → X.env.cells.lookup y = some c ∧ c < s.heap.objs.size := fun {y c} hm => by
    rcases cloFrom_mem hm with hm | ⟨h1, rfl⟩
    · cases hm
    · obtain ⟨c, hc⟩ := hfree _ h1 rfl
      rw [hc]
      obtain ⟨w, z⟩ := I.cell _ _ hc
      exact ⟨rfl, z.lt⟩
  have mem : ∀ {y c}, cenv.cells.lookup y = some c → (X.env.cells.lookup y = some c ∧ c < s.heap.objs.size) ∨ (s.heap.objs.size + 1 ≤ c ∧ CellAt (pushCells (s.heap.push { cls := .type "dict", data := .dict #[] }) scope.names) c none) := fun {y c} e => by
    rw [hcl] at e
    rcases cells_mem (PySem.mem_of_lookup e) with hm | ⟨_, h2, h3⟩
    · exact .inl (cm hm)
    · rw [Heap.size_push] at h2; exact .inr ⟨h2, h3⟩
  have look : ∀ {y}, scope.names.lookup y = some .free → ∃ c, cenv.cells.lookup y = some c ∧ X.env.cells.lookup y = some c := fun {y} hl => by
    have hy : (y, NameKind.free) ∈ scope.names := PySem.mem_of_lookup hl
    obtain ⟨c', e'⟩ := mem_lookup (cells_acc (names := scope.names) (n := (s.heap.push { cls := .type "dict", data := .dict #[] }).objs.size) (cloFrom_has (cells := X.env.cells) (acc := []) hy))
    rw [← hcl] at e'
    refine ⟨c', e', ?_⟩
    rw [hcl] at e'
    rcases cells_mem (PySem.mem_of_lookup e') with hm | ⟨h1, _, _⟩
    · exact (cm hm).1
    · have := ok.uniq _ h1
      rw [hl] at this; cases this
  have okB : (X.blk s H scope cenv fp).Ok := by
    refine ⟨I.ok.mod, by show cenv.scope.kind = _; rw [hsc]; exact ok.kind, by show cenv.globals = _; rw [← hcenv]; exact I.ok.glob, by show cenv.builtins = _; rw [← hcenv]; exact I.ok.blt, by show s.heap.objs.size ≤ cenv.locals; rw [hL]; exact Nat.le_refl _,
      fun y z c e1 e2 => ?_, fun y hy => ?_, fun y c z e => ?_, I.ok.hd, I.ok.frames, .inl rfl, fun b hb => ⟨?_, fun y c e z => ?_⟩, I.bs, Nat.le_trans I.ok.bsz I.sz, fun b o e hb => ?_, fun b hb z => ?_, I.stack, I.stkFree⟩
    · have e1 : cenv.cells.lookup y = some c := e1
      have e2 : cenv.cells.lookup z = some c := e2
      rw [hcl] at e1 e2
      refine cells_inj (fun p hp => ?_) (fun y z c a b => I.ok.inj y z c (cm a).1 (cm b).1) (PySem.mem_of_lookup e1) (PySem.mem_of_lookup e2)
      rw [Heap.size_push]
      exact Nat.lt_succ_of_lt (cm (y := p.1) (c := p.2) hp).2
    · show ∃ c, cenv.cells.lookup y = some c
      have key : ∀ k, cenv.kindOf y = some k → (k = .cell ∨ k = .free) → ∃ c, cenv.cells.lookup y = some c := fun k hk hk' => by
        unfold Env.kindOf at hk
        rw [hsc] at hk
        obtain ⟨k', e, r⟩ := lookup_relS hk
        have : k' = .cell ∨ k' = .free := by
          rcases r with rfl | ⟨rfl, _⟩
          · exact hk'
          · exact .inr rfl
        rcases this with rfl | rfl
        · obtain ⟨c, hm⟩ := cells_has (n := (s.heap.push { cls := .type "dict", data := .dict #[] }).objs.size) (acc := cloFrom X.env.cells scope.names []) (PySem.mem_of_lookup e)
          obtain ⟨c', e'⟩ := mem_lookup hm
          exact ⟨c', by rw [hcl]; exact e'⟩
        · obtain ⟨c, h1, _⟩ := look e
          exact ⟨c, h1⟩
      rcases hy with hy | hy
      · exact key _ hy (.inl rfl)
      · exact key _ hy (.inr rfl)
    · have z : (scope.names.lookup y == some NameKind.cell) = true := z
      have z : scope.names.lookup y = some .cell := by simpa using z
      have e : cenv.cells.lookup y = some c := e
      rw [hcl] at e
      rcases cells_mem (PySem.mem_of_lookup e) with hm | ⟨_, h2, _⟩
      · rcases cloFrom_mem hm with hm | ⟨h1, _⟩
        · cases hm
        · have q := ok.uniq _ h1
          rw [z] at q; cases q
      · rw [Heap.size_push] at h2
        exact Nat.le_of_succ_le h2
    · show b ≠ cenv.locals
      rw [hL]; exact Nat.ne_of_lt (hfp b hb).2
    · have e : cenv.cells.lookup y = some c := e
      rcases mem e with ⟨h1, _⟩ | ⟨h1, _⟩
      · exact (hfp b hb).1.2.2.2.2.1 y c h1 z
      · have h2 : s.heap.objs.size + 1 ≤ b := by rw [← z]; exact h1
        exact absurd (Nat.lt_of_lt_of_le (hfp b hb).2 (Nat.le_of_succ_le h2)) (Nat.lt_irrefl _)
    · rcases (hfp b hb).1.2.2.2.1 with z | z
      · exact I.ok.noex b o e z
      · exact absurd (Nat.lt_of_lt_of_le (Heap.lt_size e) (Nat.le_trans I.ok.bsz z)) (Nat.lt_irrefl _)
    · rcases List.mem_cons.mp (I.stkSub b z) with z | z
      · exact (hfp b hb).1.2.1 z
      · exact (hfp b hb).1.2.2.1 z
  refine ⟨okB, rfl, I.bare, Un.kept kp, ⟨fun _ => none, ?_, fun i y av e1 e2 e3 => ?_⟩, fun y c e => ?_, ?_, fun y c e => ?_, fun p hp => ?_, I.hok.kept kp, by rw [wipe_length]; exact I.len⟩
  · show Heap.Ns _ cenv.locals _
    rw [hL]
    exact Heap.Ns.keeps (Heap.Ns.new ..) fun b o e => pushCells_keeps _ _ _ _ e
  · obtain ⟨e2, hne⟩ := wipe_some e2
    have hfr : scope.names.lookup y = some .free ∧ (cenv.kindOf y = some .cell ∨ cenv.kindOf y = some .free) := by
      have key : ∀ k, cenv.scope.names.lookup y = some k → k = .local ∨ k = .cell ∨ k = .free → scope.names.lookup y = some .free ∧ (cenv.kindOf y = some .cell ∨ cenv.kindOf y = some .free) := fun k hk hk' => by
        have hk0 := hk
        rw [hsc] at hk
        obtain ⟨k', e, r⟩ := lookup_relS hk
        have no : ¬ (k' = .local ∨ k' = .cell) := fun hh => by
          rcases ok.own _ (PySem.mem_of_lookup e) hh with e' | e'
          · obtain ⟨p, hp, hpy⟩ := List.mem_map.mp e'
            have e3 := ok.ix p hp
            have : p.1 = y := hpy
            rw [this] at e3
            exact hne (List.mem_map.mpr ⟨p, hp, nodup_ix hN e3 e1⟩)
          · exact e' (List.mem_of_getElem? e1)
        rcases r with rfl | ⟨rfl, rfl⟩
        · rcases hk' with rfl | rfl | rfl
          · exact absurd (.inl rfl) no
          · exact absurd (.inr rfl) no
          · exact ⟨e, .inr hk0⟩
        · exact ⟨e, .inl hk0⟩
      have e3 : Vis cenv.scope y := e3
      rcases e3 with e3 | e3 | e3
      · exact key _ e3 (.inl rfl)
      · exact key _ e3 (.inr (.inl rfl))
      · exact key _ e3 (.inr (.inr rfl))
    obtain ⟨m, hn, hl⟩ := I.loc
    have hvis : Vis X.env.scope y := (ok.free _ (PySem.mem_of_lookup hfr.1) rfl).elim (fun k => .inr (.inl k)) (fun k => .inr (.inr k))
    obtain ⟨w, r, q⟩ := hl i y av e1 e2 hvis
    refine ⟨w, r, .inr ⟨hfr.2, ?_⟩⟩
    obtain ⟨c, h1, h2⟩ := look hfr.1
    rcases q with ⟨k, _⟩ | ⟨_, c', e', z⟩
    · have k : X.env.scope.names.lookup y = some .local := k
      rcases ok.free _ (PySem.mem_of_lookup hfr.1) rfl with k' | k' <;> rw [show X.env.scope.names.lookup y = _ from k'] at k <;> cases k
    · rw [h2] at e'; cases e'
      exact ⟨c, h1, z.keeps kp⟩
  · have e : cenv.cells.lookup y = some c := e
    rcases mem e with ⟨h1, _⟩ | ⟨_, z⟩
    · obtain ⟨w, z⟩ := I.cell y c h1
      exact ⟨w, z.keeps kp⟩
    · exact ⟨_, z⟩
  · show H cenv.locals = none
    rw [hL]; exact I.hok.fresh (Nat.le_refl _)
  · have e : cenv.cells.lookup y = some c := e
    rcases mem e with ⟨h1, _⟩ | ⟨h1, _⟩
    · exact I.freeC y c h1
    · exact I.hok.fresh (Nat.le_of_succ_le h1)
  · exact absurd (show p ∈ ([] : List (Addr × Obj)) ++ [] from hp) (by simp)
theorem app_ok {E : Value → Shared → Prop} {D : Addr} {xs : List V} {y : V} {v : Value} {Q : Value → Shared → Prop} (I : Inv X pins σ H s) (hD : H D = some (.lst xs)) (hz : xs.length < sizeLine) (r : RelV y v)
    (h : ∀ s', Inv X pins σ (upd H D (.lst (xs ++ [y]))) s' → Q .none s') : wpAny (model X.prog X.w) X.A (call (.builtin "list.append") [.ref D, v]) Q E s := by
  obtain ⟨hz', its, n, ri, e⟩ := I.hok D _ hD
  have hl := ri.length
  refine append_at (hsz := by rw [List.size_toArray]; omega) e fun h' sb ho' => ?_
  refine h { s with heap := h' } (I.write (t' := s.toks) (by rw [hD]; trivial) (.inl rfl) (fun b u hb q => (sb.2 b hb).trans q) ⟨_, ho'⟩ ⟨by rw [List.length_append]; exact hz, its ++ [v], n + 1, ri.append (.cons r .nil), ?_⟩)
  rw [ho']
  simp
def PTs (X : Cx) (ifs : List Expr) (t : TT) : Prop :=
  ∀ (pins : List (Addr × Obj)) (s : Shared) (σ : St) (H : Hp) (Q : Bool → Hp → Prop), Inv X pins σ H s → t σ H Q →
    wpAny (model X.prog X.w) X.A (forIn ifs true fun c r => if r = true then do let ok ← isTrue c X.env (eval c X.env); pure (ForInStep.yield ok) else pure (ForInStep.yield r)) (TP X pins σ Q) X.xe s
def tYes : TT := fun _ H Q => Q true H
theorem pts_nil : PTs X [] tYes := fun _ _ _ H _ I h => wpAny_tests_nil ⟨H, I, h⟩
end
theorem thnF {α : Type} {t : Sem α} {Q Q' : α → Shared → Prop} {M : Model} {A : Around} {E : Value → Shared → Prop} {s : Shared} (h : wpAny M A t Q (fun _ _ => False) s) (hQ : ∀ a s, Q a s → Q' a s) : wpAny M A t Q' E s := wpAny_mono h hQ fun _ _ z => False.elim z
theorem compLoop_any {prog : Program} {w : World} {A : Around} {R : Result → Shared → Prop} {s : Shared} {elt target iter : Expr} {ifs : List Expr} {scope : Scope} {pos : Pos} {it acc : Value} {env : Env} (I : Nat → Shared → Prop)
    (turn : ∀ n s, I n s → wpAny (model prog w) A (pyNext it) (fun r s₁ => match r with
      | none => R (.ok .next) s₁
      | some v => wpAny (model prog w) A (letOwnedTupleGo target it v) (fun _ s₁' => wpAny (model prog w) A (assign target env v) (fun _ s₂ =>
          wpAny (model prog w) A (forIn ifs true fun c r => if r = true then do let ok ← isTrue c env (eval c env); pure (ForInStep.yield ok) else pure (ForInStep.yield r)) (fun ok s₃ =>
            if ok = true then wpAny (model prog w) A (eval elt env) (fun x s₄ =>
              wpAny (model prog w) A (call (.builtin "list.append") [acc, x]) (fun _ s₅ => ∃ m, m < n ∧ I m s₅) (notedBy (model prog w) A env fun e s' => R (.error e) s') s₄) (notedBy (model prog w) A env fun e s' => R (.error e) s') s₃
            else ∃ m, m < n ∧ I m s₃) (notedBy (model prog w) A env fun e s' => R (.error e) s') s₂) (notedBy (model prog w) A env fun e s' => R (.error e) s') s₁') (notedBy (model prog w) A env fun e s' => R (.error e) s') s₁) (notedBy (model prog w) A env fun e s' => R (.error e) s') s)
    (n : Nat) (h : I n s) :
    codeAny (model prog w) A (.compLoop (.ListComp elt [⟨target, iter, ifs, 0⟩] scope pos) 0 it acc env) R s := by
  refine codeAny_loop rfl I (fun n s hI => ?_) n h
  show wpAny _ A ((compTurn (.ListComp elt [⟨target, iter, ifs, 0⟩] scope pos) 0 it acc env).onRaise (fun x => do noteFrame x env; theTreesLotGoes x)) _ _ s
  refine wpAny_noted ?_
  rw [compTurn_list]
  refine wpAny_bind (wpAny_standAt (wpAny_bind (wpAny_mono (turn n s hI) (fun r s₁ h₁ => ?_) fun _ _ h' => h')))
  cases r with
  | none => exact wpAny_pure h₁
  | some v =>
    refine wpAny_bind (wpAny_mono h₁ (fun _ s₁' h₁' => ?_) fun _ _ h' => h')
    refine wpAny_bind (wpAny_mono h₁' (fun _ s₂ h₂ => wpAny_bind (wpAny_mono h₂ (fun ok s₃ h₃ => ?_) fun _ _ h' => h')) fun _ _ h' => h')
    cases ok with
    | false => exact wpAny_pure ⟨rfl, h₃⟩
    | true =>
      exact wpAny_bind (wpAny_bind (wpAny_mono h₃ (fun x s₄ h₄ => wpAny_bind (wpAny_mono h₄ (fun _ s₅ h₅ => wpAny_pure (wpAny_pure ⟨rfl, h₅⟩)) fun _ _ h' => h')) fun _ _ h' => h'))
section
variable {X : Cx}
def tLc (wi : TI) (g : TG) (tt : TT) (te : TE) (vs : List Nat) : TE := fun σ H Q => wi σ H fun J H1 => ∀ D, H1 D = none → ∃ W : Nat → Nat → Hp → Prop, (∃ m, W 0 m (upd H1 D (.lst []))) ∧ ∀ i m H, W i m H →
  (J.stop i H ∧ Q (.ref D) H) ∨ (J.go i H ∧ ∃ Nx : Hp → Prop, (∀ H', Nx H' → ∃ m', m' < m ∧ W (i + 1) m' H') ∧ ∀ x H', J.yld i H x H' → g x (wipe σ vs) H' fun σ2 H2 => wipe σ2 vs = wipe σ vs ∧ tt σ2 H2 fun b H3 =>
    if b = true then te σ2 H3 fun y H4 => ∃ acc, H4 D = some (.lst acc) ∧ acc.length < sizeLine ∧ Nx (upd H4 D (.lst (acc ++ [y]))) else Nx H3)
theorem lc_core {pins : List (Addr × Obj)} {s : Shared} {σ : St} {H : Hp} {Q : VK} {elt tg iter : Expr} {ifs : List Expr} {scope : Scope} {own : List (Str × Nat)} {pos pos' : Pos} {wi : TI} {g : TG} {tt : TT} {te : TE} {use : Option (Value → Sem Unit)} {Qf : Value → Shared → Prop}
    (hc : X.calm = true) (hN : X.N.Nodup) (I : Inv X pins σ H s) (hi : PI X tg iter wi) (ok : BlkOk X.N X.env.scope scope own)
    (hg : ∀ (s : Shared) (H : Hp) (C : Addr) (cl : List (Str × Addr)) (fp : List Addr), PG (X.blk s H scope (compEnvC scope cl C X.env) fp) tg g) (ht : ∀ (s : Shared) (H : Hp) (C : Addr) (cl : List (Str × Addr)) (fp : List Addr), PTs (X.blk s H scope (compEnvC scope cl C X.env) fp) ifs tt)
    (he : ∀ (s : Shared) (H : Hp) (C : Addr) (cl : List (Str × Addr)) (fp : List Addr), PE (X.blk s H scope (compEnvC scope cl C X.env) fp) elt te) (hs : ∀ x, foldedSetIterable iter X.env x = pure x)
    (h : tLc wi g tt te (own.map (·.2)) σ H Q)
    (hRR : ∀ D C s' m H', Inv X pins σ H' s' → Q (.ref D) H' → s'.heap.Ns C m → FpOk X pins H' C → compPost (model X.prog X.w) X.A X.xe use Qf (.ref D) C (.ok .next) s') :
    wpAny (model X.prog X.w) X.A (comprehension (.ListComp elt [⟨tg, iter, ifs, 0⟩] scope pos) scope X.env pos' (newList []) false (eval iter X.env) use) Qf X.xe s := by
  have hfree : ∀ y ∈ scope.names, y.2 = .free → ∃ c, X.env.cells.lookup y.1 = some c := fun y hy e => by
    rcases ok.free y hy e with k | k
    · exact I.ok.has _ (.inl k)
    · exact I.ok.has _ (.inr k)
  refine wpAny_comprehension_free (use := use) rfl hs (closure_ok hfree) ok.kind (fun y hy e => by rw [ok.uniq y hy, e])
    (thn (hi pins s σ H _ I h) fun xv s1 hx => thn hx fun itv s2 h2 => ?_)
  obtain ⟨it, fp, tn, J, H2, e, I2, T, st2, f2, q⟩ := h2
  subst e
  refine wpAny_newObj_type (newEnv_comp ?_) (by show 0 ≤ sizeLine; decide)
  generalize hD : s2.heap.objs.size = D
  have hDn : H2 D = none := I2.hok.fresh (Nat.le_of_eq hD)
  obtain ⟨W, ⟨m0, w0⟩, turn⟩ := q D hDn
  generalize hs3 : ({ s2 with heap := s2.heap.push { cls := .type "list", data := .seq ([] : List Value).toArray } } : Shared) = s3
  have I3 : Inv X pins σ (upd H2 D (.lst [])) s3 := by
    rw [← hs3]
    refine I2.laid (t' := s2.toks) (fun b o e => Heap.get?_push_of_some _ e) (Nat.le_of_eq hD) ⟨Nat.zero_le _, [], 0, .nil, ?_⟩
    rw [← hD]
    exact Heap.get?_push_size _ rfl
  have h3 : s3.heap = s2.heap.push { cls := .type "list", data := .seq ([] : List Value).toArray } := by rw [← hs3]
  have sz : ∀ b ∈ fp, b < s2.heap.objs.size := fun b hb => by
    obtain ⟨o, e, _⟩ := T.obj _ _ st2 b hb
    exact Heap.lt_size e
  have f3 : ∀ b ∈ fp, FpOk X pins (upd H2 D (.lst [])) b ∧ b < s3.heap.objs.size := fun b hb => by
    have hlt := sz b hb
    refine ⟨⟨?_, (f2 b hb).2⟩, by rw [h3, Heap.size_push]; exact Nat.lt_succ_of_lt hlt⟩
    rw [upd_ne (by rw [← hD]; exact Nat.ne_of_lt hlt)]
    exact (f2 b hb).1
  have st3 : tn 0 s3.heap := T.keep _ _ _ st2 fun b _ o e => by rw [h3]; exact Heap.get?_push_of_some _ e
  have I4 := block_start I3 ok hN f3
  have pg := hg s3 (upd H2 D (.lst [])) s3.heap.objs.size (cellsFrom (s3.heap.objs.size + 1) scope.names (cloFrom X.env.cells scope.names [])) fp
  have pt := ht s3 (upd H2 D (.lst [])) s3.heap.objs.size (cellsFrom (s3.heap.objs.size + 1) scope.names (cloFrom X.env.cells scope.names [])) fp
  have pe := he s3 (upd H2 D (.lst [])) s3.heap.objs.size (cellsFrom (s3.heap.objs.size + 1) scope.names (cloFrom X.env.cells scope.names [])) fp
  show codeAny _ _ (.compStart (.ListComp elt [⟨tg, iter, ifs, 0⟩] scope pos) 0 (.ref it) (.ref D) (compEnvC scope (cellsFrom (s3.heap.objs.size + 1) scope.names (cloFrom X.env.cells scope.names [])) s3.heap.objs.size X.env)) (compPost (model X.prog X.w) X.A X.xe use Qf (.ref D) s3.heap.objs.size) { s3 with heap := pushCells (s3.heap.push { cls := .type "dict", data := .dict #[] }) scope.names }
  have nfp : ∀ b ∈ fp, (upd H2 D (.lst [])) b = none := fun b hb => (f3 b hb).1.1
  generalize hce : compEnvC scope (cellsFrom (s3.heap.objs.size + 1) scope.names (cloFrom X.env.cells scope.names [])) s3.heap.objs.size X.env = ce at I4 pg pt pe ⊢
  have cL : ce.locals = s3.heap.objs.size := by subst hce; rfl
  generalize hH3 : upd H2 D (.lst []) = H3 at I3 I4 pg pt pe w0 nfp f3
  generalize hs4 : ({ s3 with heap := pushCells (s3.heap.push { cls := .type "dict", data := .dict #[] }) scope.names } : Shared) = s4 at I4 ⊢
  have st4 : tn 0 s4.heap := T.keep _ _ _ st3 fun b _ o e => by rw [← hs4]; exact pushCells_keeps _ _ _ _ (Heap.get?_push_of_some _ e)
  have stat : ∀ {σ' : St} {H' : Hp} {s' : Shared}, Inv (X.blk s3 H3 scope ce fp) [] σ' H' s' → (∀ b ∈ fp, H' b = none) → ∀ b ∈ fp, FpOk (X.blk s3 H3 scope ce fp) [] H' b := fun {σ' H' s'} I' hn b hb =>
    ⟨hn b hb, (I'.ok.exf b hb).1, I'.ok.exfs b hb, .inl hb, fun x c e => (I'.ok.exf b hb).2 x c e, fun p hp => absurd (show p ∈ ([] : List (Addr × Obj)) ++ [] from hp) (by simp)⟩
  have loop : codeAny (model X.prog X.w) X.A (.compLoop (.ListComp elt [⟨tg, iter, ifs, 0⟩] scope pos) 0 (.ref it) (.ref D) ce) (compPost (model X.prog X.w) X.A X.xe use Qf (.ref D) s3.heap.objs.size) s4 := by
    refine compLoop_any (fun n s' => ∃ i H', Inv (X.blk s3 H3 scope ce fp) [] (wipe σ (own.map (·.2))) H' s' ∧ tn i s'.heap ∧ (∀ b ∈ fp, H' b = none) ∧ W i n H') ?_ m0 ⟨0, H3, I4, st4, nfp, w0⟩
    rintro n s5 ⟨i, H5, I5, st5, n5, w5⟩
    rcases turn i n H5 w5 with ⟨stop, qq⟩ | ⟨go, Nx, hNx, step⟩
    · have td := T.done (X.blk s3 H3 scope ce fp) rfl rfl rfl hc i [] s5 _ H5 (fun _ _ => False) I5 (stat I5 n5) st5 stop
      refine thnF td fun r s6 ⟨hr, I6⟩ => ?_
      subst hr
      have I7 : Inv X pins σ H5 s6 := I3.call' (ch := fp) I6.os I6.base I6.hok I6.bare fun b hb => ⟨(f3 b hb).1.2.2.2.1, (f3 b hb).1.2.1, (f3 b hb).1.2.2.2.2.1, (f3 b hb).1.2.2.2.2.2⟩
      have nC : H5 s3.heap.objs.size = none := by
        have z : H5 ce.locals = none := I6.free
        rw [cL] at z
        exact z
      obtain ⟨m, hn, _⟩ := I6.loc
      have hn : s6.heap.Ns ce.locals m := hn
      rw [cL] at hn
      exact hRR D s3.heap.objs.size s6 m H5 I7 qq hn (I3.fpOk (Nat.le_refl _) nC)
    · have ti := T.item (X.blk s3 H3 scope ce fp) rfl rfl rfl hc i [] s5 _ H5 (fun _ _ => False) I5 (stat I5 n5) st5 go
      refine thnF ti fun r s6 ⟨u, hr, h6⟩ => ?_
      subst hr
      refine thnF h6 fun _ s7 ⟨x, H7, I7, r7, y7, st7, n7⟩ => ?_
      have I7' := I7.pinned (stat I7 n7) (T.obj _ _ st7)
      refine thnF (pg _ s7 _ H7 x u _ I7' r7 (step x H7 y7)) fun _ s8 ⟨σ8, H8, I8, hw8, q8⟩ => ?_
      refine thnF (pt _ s8 σ8 H8 _ I8 q8) fun b s9 ⟨H9, I9, q9⟩ => ?_
      have fin : ∀ {s' : Shared} {H' : Hp}, Inv (X.blk s3 H3 scope ce fp) ([] ++ pinsAt fp s7.heap) σ8 H' s' → Nx H' → ∃ m, m < n ∧ ∃ i H', Inv (X.blk s3 H3 scope ce fp) [] (wipe σ (own.map (·.2))) H' s' ∧ tn i s'.heap ∧ (∀ b ∈ fp, H' b = none) ∧ W i m H' := fun {s' H'} I' nx => by
        obtain ⟨m', hm, w'⟩ := hNx H' nx
        have pin' : ∀ b ∈ fp, ∀ o, s7.heap.get? b = some o → s'.heap.get? b = some o ∧ H' b = none := fun b hb o e =>
          let z := I'.pin (b, o) (List.mem_append_right _ (List.mem_append_right _ (mem_pinsAt hb e)))
          ⟨z.1, z.2.1⟩
        have hl : (wipe σ (own.map (·.2))).length = σ8.length := by rw [← hw8, wipe_length]
        refine ⟨m', hm, i + 1, H', (I'.unpinned (pins := [])).weak hl (fun j v e => ?_), T.keep _ _ _ st7 fun b hb o e => (pin' b hb o e).1, fun b hb => ?_, w'⟩
        · rw [← hw8] at e
          exact (wipe_some e).1
        · obtain ⟨o, e, _⟩ := T.obj _ _ st7 b hb
          exact (pin' b hb o e).2
      cases b with
      | false =>
        simp only [Bool.false_eq_true, if_false] at q9 ⊢
        exact fin I9 q9
      | true =>
        simp only [if_true] at q9 ⊢
        refine thnF (pe _ s9 σ8 H9 _ I9 q9) fun z s10 ⟨yv, H10, I10, r10, acc, hD10, hz10, nx⟩ => ?_
        exact app_ok (X := X.blk s3 H3 scope ce fp) I10 hD10 hz10 r10 fun s11 I11 => fin I11 nx
  exact codeAny_compStart_list loop (T.self X.A 0 _ _ _ st4 loop)
theorem pe_lc {elt tg iter : Expr} {ifs : List Expr} {scope : Scope} {own : List (Str × Nat)} {pos : Pos} {wi : TI} {g : TG} {tt : TT} {te : TE} (hc : X.calm = true) (hN : X.N.Nodup) (hi : PI X tg iter wi) (ok : BlkOk X.N X.env.scope scope own)
    (hg : ∀ (s : Shared) (H : Hp) (C : Addr) (cl : List (Str × Addr)) (fp : List Addr), PG (X.blk s H scope (compEnvC scope cl C X.env) fp) tg g) (ht : ∀ (s : Shared) (H : Hp) (C : Addr) (cl : List (Str × Addr)) (fp : List Addr), PTs (X.blk s H scope (compEnvC scope cl C X.env) fp) ifs tt)
    (he : ∀ (s : Shared) (H : Hp) (C : Addr) (cl : List (Str × Addr)) (fp : List Addr), PE (X.blk s H scope (compEnvC scope cl C X.env) fp) elt te) (hs : ∀ x, foldedSetIterable iter X.env x = pure x := by intro _; rfl) :
    PE X (.ListComp elt [⟨tg, iter, ifs, 0⟩] scope pos) (tLc wi g tt te (own.map (·.2))) := by
  intro pins s σ H Q I h
  rw [eval_ListComp]
  refine lc_core hc hN I hi ok hg ht he hs h fun D C s' m H' I' q hn f => ⟨m, hn, fun h'' sb => ?_⟩
  obtain ⟨f0, f1, f2, f3, f4, f5⟩ := f
  exact ⟨.ref D, H', I'.turned (t' := s'.toks) (fun b o hb e => (sb.2 b hb).trans e) f0 f1 f3 f4 f5, rfl, q⟩
end
def blkC (N : List Str) (sc scope : Scope) (own : List (Str × Nat)) : Bool :=
  (match scope.kind with | .function => true | _ => false) && (scope.names.all fun y => decide (scope.names.lookup y.1 = some y.2)) && (own.all fun p => decide (N[p.2]? = some p.1)) &&
    (scope.names.all fun y => match y.2 with
      | .free => (match sc.names.lookup y.1 with | some .cell => true | some .free => true | _ => false)
      | .local => decide (y.1 ∈ own.map (·.1)) || decide (y.1 ∉ N)
      | .cell => decide (y.1 ∈ own.map (·.1)) || decide (y.1 ∉ N)
      | _ => true)
theorem blkOk_by {N : List Str} {sc scope : Scope} {own : List (Str × Nat)} (h : blkC N sc scope own = true) : BlkOk N sc scope own := by
  unfold blkC at h
  simp only [Bool.and_eq_true, List.all_eq_true, decide_eq_true_eq] at h
  obtain ⟨⟨⟨h1, h2⟩, h3⟩, h4⟩ := h
  refine ⟨?_, h2, h3, fun y hy e => ?_, fun y hy e => ?_⟩
  · split at h1
    · assumption
    · cases h1
  · have q := h4 y hy
    simp only [e] at q
    split at q <;> first | exact .inl (by assumption) | exact .inr (by assumption) | cases q
  · have q := h4 y hy
    rcases e with e | e <;> (simp only [e, Bool.or_eq_true, decide_eq_true_eq] at q; exact q)
end L2
namespace L2
open PySem PySem.Spec PyProof.Rows
end L2
namespace L2
open PySem PySem.Spec PyProof.Rows
end L2
namespace L2
open PySem PySem.Spec PyProof.Rows
end L2
namespace L2
open PySem PySem.Spec PyProof.Rows
section
variable {X : Cx}
theorem pi_one {tg : Expr} {pins : List (Addr × Obj)} {σ : St} {H : Hp} {s : Shared} {R : It → Hp → Prop} {J : It} {tn : Nat → Heap → Prop} {tk : Nat} (I : Inv X pins σ H s) (o : Obj)
    (T : Turn X.prog X.w X.K tg J [s.heap.objs.size] s.heap.objs.size tn) (st : tn 0 (s.heap.push o)) (q : R J H) : PIE X pins σ tg R (.ref s.heap.objs.size) { s with heap := s.heap.push o, toks := tk } := by
  refine ⟨s.heap.objs.size, [s.heap.objs.size], tn, J, H, rfl, I.kept fun b ob e => Heap.get?_push_of_some _ e, T, st, fun b hb => ?_, q⟩
  have e : b = s.heap.objs.size := by simpa using hb
  subst e
  exact I.fpOk (Nat.le_refl _) (I.hok.fresh (Nat.le_refl _))
end
def Its (x : Str) : It := ⟨fun i _ => i < x.cps.size, fun i H v H' => H' = H ∧ ∃ c, x.cps[i]? = some c ∧ v = .str ⟨#[c]⟩, fun i _ => x.cps.size ≤ i⟩
theorem turn_str {P : Program} {w : World} {K : PySem.W.Frag} {tg : Expr} (it : Addr) (x : Str) (t : Tok) (ty : String) (hty : ty = "str_ascii_iterator" ∨ ty = "str_iterator") :
    Turn P w K tg (Its x) [it] it (fun i h => h.IsStrIter it ty x t i) where
  mem := by simp
  obj := fun i h st b hb => by
    have e : b = it := by simpa using hb
    subst e
    obtain ⟨o, e, c, d⟩ := st
    exact ⟨o, e, fun v z => by rw [d] at z; cases z⟩
  keep := fun i h h' st k => let ⟨o, ho, r⟩ := st; ⟨o, k it (by simp) o ho, r⟩
  item := by
    intro X hP hw hK hc i pins s σ H E I hf st hg
    subst hP hw hK
    obtain ⟨f0, f1, f2, f3, f4, f5⟩ := hf it (by simp)
    have W : Walks X.prog X.w X.A it [it] [it] x.cps.size (SignAt x) (fun i h => h.IsStrIter it ty x t i) := by
      rcases hty with e | e
      · rw [e]; exact Walks.strAscii (I.ok.hd hc) it x t
      · rw [e]; exact Walks.strWide (I.ok.hd hc) it x t
    have hno : ["enumerate", "zip", "dict_itemiterator", "dict_reverseitemiterator", "odict_iterator", "itertools.zip_longest", "itertools.pairwise"].contains ty = false := by
      rcases hty with e | e
      · rw [e]; decide
      · rw [e]; decide
    refine W.item i s _ _ hg st fun v h' tk hv st' kk => ?_
    obtain ⟨c, u, hcx, rfl⟩ := hv
    have I1 : Inv X pins σ H { s with heap := h', toks := tk } := I.turned (fun b o hb e => kk b o (by simpa using hb) e) f0 f1 f3 f4 f5
    obtain ⟨oi, e, cc, dd⟩ := id st'
    exact ⟨_, rfl, go_of (s := { s with heap := h', toks := tk }) e cc dd hno ⟨.str ⟨#[c]⟩, H, I1, ⟨u, rfl⟩, ⟨rfl, c, hcx, rfl⟩, st', fun b hb => (hf b hb).1⟩⟩
  done := by
    intro X hP hw hK hc i pins s σ H E I hf st hg
    subst hP hw hK
    obtain ⟨f0, f1, f2, f3, f4, f5⟩ := hf it (by simp)
    have hx : x.cps[i]? = none := Array.getElem?_eq_none hg
    rcases hty with e | e
    · rw [e] at st
      exact wpAny_pyNext_ascii_end (I.ok.hd hc) st hx fun h' eb => ⟨rfl, I.turned (t' := s.toks) (fun b o hb e => eb b o hb e) f0 f1 f3 f4 f5⟩
    · rw [e] at st
      exact wpAny_pyNext_wide_end (I.ok.hd hc) st hx fun h' eb => ⟨rfl, I.turned (t' := s.toks) (fun b o hb e => eb b o hb e) f0 f1 f3 f4 f5⟩
  self := fun A i s Q E st h => by
    rcases hty with e | e
    · rw [e] at st; exact wpAny_pyIter_striter_ascii st h
    · rw [e] at st; exact wpAny_pyIter_striter_wide st h
def iStr (te : TE) : TI := fun σ H R => te σ H fun v H1 => ∃ x, v = .str x ∧ R (Its x) H1
theorem pi_str {X : Cx} {tg e : Expr} {te : TE} (he : PE X e te) : PI X tg e (iStr te) := by
  intro pins s σ H R I h
  refine thn (he pins s σ H _ I h) fun v s1 ⟨y, H1, I1, r1, x, ex, q⟩ => ?_
  subst ex
  obtain ⟨t, rfl⟩ := r1
  cases ha : x.cps.all (· < 128)
  · exact wpAny_pyIter_wide ha (pi_one (tk := s1.toks) I1 _ (turn_str _ x t "str_iterator" (.inr rfl)) ⟨_, Heap.get?_push_size _ rfl, rfl, rfl⟩ q)
  · exact wpAny_pyIter_ascii ha (pi_one (tk := s1.toks) I1 _ (turn_str _ x t "str_ascii_iterator" (.inl rfl)) ⟨_, Heap.get?_push_size _ rfl, rfl, rfl⟩ q)
end L2
section 
namespace Bits
open PySem PyProof.Rows
end Bits
end 
section 
namespace TL
open PySem PySem.Builtin PySem.Builtin.Str PySem.StrLaws
abbrev tl (x : Str) : List Nat := x.cps.toList
theorem len_tl (x : Str) : x.length = (tl x).length := by simp [tl, Str.length]
theorem ext_tl {x y : Str} (h : tl x = tl y) : x = y := Str.ext' (Array.toList_inj.mp h)
theorem tl_append (x y : Str) : tl (x ++ y) = tl x ++ tl y := by
  show (x ++ y).cps.toList = _
  rw [Str.cps_append, Array.toList_append]
theorem tl_mk (l : List Nat) : tl ⟨l.toArray⟩ = l := rfl
theorem tl_ofString (s : String) : tl (Str.ofString s) = s.toList.map Char.toNat := PyProof.Rows.signs_ofString s
def joinL (S : List Nat) : List (List Nat) → List Nat
  | [] => []
  | [p] => p
  | p :: q :: r => p ++ (S ++ joinL S (q :: r))
theorem tl_join (y : Str) : ∀ parts : List Str, tl (Str.join y parts) = joinL (tl y) (parts.map tl)
  | [] => rfl
  | [_] => rfl
  | x :: z :: r => by
    show tl (x ++ y ++ Str.join y (z :: r)) = tl x ++ (tl y ++ joinL (tl y) ((z :: r).map tl))
    rw [tl_append, tl_append, tl_join y (z :: r), List.append_assoc]
theorem join_eq (y : Str) (parts : List Str) : Txt.join y parts = Str.join y parts := glued_eq_join y parts
end TL
end 
namespace L2
open PySem PySem.Spec PyProof.Rows
theorem strs_of_vals : ∀ {ys : List Str} {us : List Value}, Vals (ys.map V.str) us → StrsAre us ys
  | [], _, .nil => .nil
  | y :: ys, _, .cons r t => by
    obtain ⟨k, rfl⟩ := r
    exact .cons y k (strs_of_vals t)
section
variable {X : Cx}
theorem mt_join : MtR X "str.join" (fun x xs H Q => ∃ a p, ∃ ys : List Str, x = .str a ∧ xs = [.ref p] ∧ (SqL X.K H p (ys.map V.str) ∨ SqT X.K H p (ys.map V.str)) ∧
    (ys.map (·.length)).sum + ys.length * a.length ≤ 16777216 ∧ Q (.str (Txt.join a ys)) H) := by
  intro pins s σ H x xs v us Q I rx rs h
  obtain ⟨a, p, ys, rfl, rfl, hp, hz, h⟩ := h
  obtain ⟨t, rfl⟩ := rx
  cases rs with
  | cons r1 rs =>
    cases rs
    cases r1
    rcases hp with hp | hp
    · obtain ⟨its, r, ⟨o, n, ho, hc, _, hd⟩, _⟩ := I.list hp
      exact PyProof.Rows.join_list (items := its.toArray) ⟨o, ho, hc, n, hd⟩ (by rw [List.toList_toArray]; exact strs_of_vals r) hz fun t' k => ⟨.str _, H, I.tok k, ⟨t', rfl⟩, h⟩
    · obtain ⟨its, r, ht, _⟩ := I.tuple hp
      exact PyProof.Rows.join_tuple (items := its.toArray) ht (by rw [List.toList_toArray]; exact strs_of_vals r) hz fun t' k => ⟨.str _, H, I.tok k, ⟨t', rfl⟩, h⟩
end
section
variable {X : Cx} {o e : Expr} {to te : TE}
def tM1 (r : V → List V → Hp → VK → Prop) (to te : TE) : TE := fun σ H Q => to σ H fun x H1 => (∃ a, x = .str a) ∧ te σ H1 fun y H2 => r x [y] H2 Q
theorem pe_m1 {id : String} {name : Str} {apos pos : Pos} {r : V → List V → Hp → VK → Prop} (slot : Slot "str" name id) (ty : typeOf (.builtin id) = pure (.type "method_descriptor")) (rule : MtR X id r) (ho : PE X o to) (he : PE X e te)
    (hs : starEach [e] X.env = [(false, eval e X.env)] := by rfl) (hbase : attributeBase o name X.env (eval o X.env) = eval o X.env := by rfl) (hline : (apos.endLine == pos.line) = true := by rfl) :
    PE X (.Call (.Attribute o name apos) [e] [] pos) (tM1 r to te) := by
  intro pins s σ H Q I h
  refine PySem.Call_method1 hbase hs hline (thn (ho pins s σ H _ I h) fun v s1 ⟨x, H1, I1, r1, q1⟩ => ?_)
  obtain ⟨⟨a, rfl⟩, q1⟩ := q1
  obtain ⟨t, rfl⟩ := _root_.id r1
  refine ⟨"str", _, F.plainAttrs_str, slot, ty, typeIs_str _ _ _, (fun _ e => nomatch e), Calls.callWith_builtin rfl (Calls.evalArgs_plain (Calls.spliced_cons ?_))⟩
  exact thn (he pins s1 σ H1 _ I1 q1) fun u s2 ⟨y, H2, I2, r2, q2⟩ => Calls.spliced_nil (rule pins s2 σ H2 _ [y] _ [u] Q I2 r1 (.cons r2 .nil) q2)
theorem pe_join {apos pos : Pos} (ho : PE X o to) (he : PE X e te) (hs : starEach [e] X.env = [(false, eval e X.env)] := by rfl) (hbase : attributeBase o "join" X.env (eval o X.env) = eval o X.env := by rfl) (hline : (apos.endLine == pos.line) = true := by rfl) :
    PE X (.Call (.Attribute o "join" apos) [e] [] pos) (tM1 (fun x xs H Q => ∃ a p, ∃ ys : List Str, x = .str a ∧ xs = [.ref p] ∧ (SqL X.K H p (ys.map V.str) ∨ SqT X.K H p (ys.map V.str)) ∧
      (ys.map (·.length)).sum + ys.length * a.length ≤ 16777216 ∧ Q (.str (Txt.join a ys)) H) to te) :=
  pe_m1 F.slot_str_join F.type_str_join mt_join ho he hs hbase hline
end
end L2
namespace L2
open PySem PySem.Spec PyProof.Rows
end L2
namespace Att
open PySem PySem.W PySem.Calls PyProof.Rows
end Att
namespace L2
open PySem PySem.Spec PyProof.Rows
end L2
namespace L2
open PySem PySem.Spec PyProof.Rows
end L2
/- THE LAST THEOREM (shape; LID, My.* are yours):
   My.Adr: a structure of the addresses that your layer names (classes, functions); My.Txt K t: a structure (Prop) of the equations over K;
   My.txt_mk : {K} {implicit addresses ..} (e1 : nsIn K mainGlobals "law" = some (some (.ref f))) (e2 : K.lookup f = some ⟨oc, od, .func (fnOf "law" "law" params body scope dV kV doc pm an cdv ct), sl⟩) (e3 : codeIn K cdv "law" = true) .. : ∃ t, My.Txt K t
set_option maxRecDepth 100000 in
set_option maxHeartbeats 0 in
theorem PySem.Challenge.cw_LID_holds : PySem.Challenge.rw_LID.Holds := by
  w_on; o_law; k_head; (case hw => w_witness2)
  k_fill
  refine L2.walk_of (l := PySem.Challenge.rw_LID) (n := 63) (k := 40) (x := "script") (CX := fun w => ..) (sp := fun _ => My.sp_law) rfl (by decide) rfl ⟨rfl, by decide, by decide⟩ (fun w h Y => PySem.W.kIn_of Y) ?F ?S ?C
  case F =>
    intro w mg fa h KX G hmg
    have T : ∃ t, My.Txt (L2.KOf KX) t := by
      dsimp only [L2.KOf]                          -- K must stand as «<heap const> w.params» for k_is
      refine' My.txt_mk ?e1 ?e2 ?e3 ..
      (case e1 => PySem.W.k_is)                    -- in the order: a name -> its address -> its object -> its parts
      (case e2 => PySem.W.k_is)
      ..
    obtain ⟨t, T⟩ := T
    have e0 := hmg.symm.trans (PySem.W.mg_of KX G T.law)
    cases e0                                       -- fa is the law's own address
    exact ⟨_, fun s u => .of_eq rfl, fun base kb nb => My.law_fn T kb nb⟩     -- if «.of_eq rfl» comes too early: refine' ⟨_, ?b, fun base kb nb => My.law_fn T kb nb⟩; exact fun s u => .of_eq rfl
  case S => exact fun w H a ns hl hO hS => ..
  case C => exact ..
(the tactic k_is has no namespace: write k_is) -/
namespace L2
open PySem PySem.Spec PyProof.Rows
def inClass (s : Stmt) (j : Nat) : Stmt := match s with
  | .ClassDef _ _ _ body _ _ _ _ _ _ _ => body.getD j (.Pass ⟨0, 0, 0, 0⟩)
  | _ => .Pass ⟨0, 0, 0, 0⟩
def defArgs (s : Stmt) : Arguments := match s with
  | .FunctionDef _ a _ _ _ _ _ _ _ _ => a
  | _ => { posonlyargs := [], args := [], vararg := none, kwonlyargs := [], kw_defaults := [], kwarg := none, defaults := [] }
def defBody (s : Stmt) : List Stmt := match s with
  | .FunctionDef _ _ b _ _ _ _ _ _ _ => b
  | _ => []
def defScope (s : Stmt) : Scope := match s with
  | .FunctionDef _ _ _ _ _ _ sc _ _ _ => sc
  | _ => { kind := .function, names := [], isGenerator := false, isCoroutine := false }
abbrev CX0 : CXT := fun _ _ _ _ _ _ => False
abbrev E0 : XK := fun _ _ _ => False
theorem pass0 {X : Cx} : Passes CX0 X E0 := fun _ _ _ _ _ _ _ h => h.elim
structure Fun (K : PySem.W.Frag) (x qual : Str) (st : Stmt) (f : Addr) (fd : FuncData) : Prop where
  ex : ∃ (oc : Value) (od : Option Addr) (kV doc pm : Value) (an : Option Addr) (cdv ct : Value) (osl : Array (Option Value)),
    fd = PySem.W.fnOf x qual (defArgs st) (defBody st) (defScope st) .none kV doc pm an cdv ct ∧ K.lookup f = some ⟨oc, od, .func fd, osl⟩ ∧ PySem.W.codeIn K cdv qual = true
  kp : PySem.W.keepIn K (.ref f) = true
section
variable {P : Program} {w : World} {K : PySem.W.Frag} {mg : Str → Option Value} {base : Heap}
theorem Fun.ok {x qual : Str} {st : Stmt} {f : Addr} {fd : FuncData} {N ps : List Str} {k : Nat} {sp : Sp} (F : Fun K x qual st f fd) (S : FnScope N ps (defScope st)) (len : ∀ vs H Q E, sp vs H Q E → vs.length = ps.length)
    (hbody : ∀ (cdv : Value) (A : Around) (outer : List Env) (s : Shared) (H : Hp) (vs : List V) (Q : VK) (E : XK), Room k (A.deeper (envOfC qual (defScope st) s.heap.objs.size f cdv)) → sp vs H Q E →
      ∃ t, PSs (cxOf CX0 P w K mg base N qual (defScope st) f cdv A outer s H E).nox (defBody st) t ∧ t { nx := fun _ H' => Q .non H', rt := Q } (start N vs) H) : FnOk P w K mg base CX0 (k + 1) f fd ps sp := by
  obtain ⟨oc, od, kV, doc, pm, an, cdv, ct, osl, rfl, lk, hcd⟩ := F.ex
  refine fn_of lk hcd S len fun A outer s H vs Q E hr hsp => ?_
  obtain ⟨t, h, q⟩ := hbody cdv A outer s H vs Q E hr hsp
  exact ⟨t, h.nox, q⟩
theorem Fun.binds {x qual : Str} {st : Stmt} {f : Addr} {fd : FuncData} {ps : List Str} (F : Fun K x qual st f fd)
    (h : ∀ (kV doc pm : Value) (an : Option Addr) (cdv ct : Value) (us : List Value), us.length = ps.length → bindArgs (PySem.W.fnOf x qual (defArgs st) (defBody st) (defScope st) .none kV doc pm an cdv ct) ⟨us, []⟩ = pure (ps.zip us)) : Binds K fd ps [] := by
  obtain ⟨oc, od, kV, doc, pm, an, cdv, ct, osl, rfl, lk, hcd⟩ := F.ex
  exact .all (h kV doc pm an cdv ct)
theorem fun_mk {x qual : Str} {st : Stmt} {f : Addr} {oc : Value} {od an : Option Addr} {osl : Array (Option Value)} {kV doc pm cdv ct : Value} (l : K.lookup f = some ⟨oc, od, .func (PySem.W.fnOf x qual (defArgs st) (defBody st) (defScope st) .none kV doc pm an cdv ct), osl⟩)
    (c : PySem.W.codeIn K cdv qual = true) (k : PySem.W.keepIn K (.ref f) = true) : Fun K x qual st f (PySem.W.fnOf x qual (defArgs st) (defBody st) (defScope st) .none kV doc pm an cdv ct) := ⟨⟨oc, od, kV, doc, pm, an, cdv, ct, osl, rfl, l, c⟩, k⟩
end
section
variable {X : Cx}
theorem pv (i : Nat) {x : Str} {pos : Pos} (hN : X.N[i]? = some x := by rfl) (hv : Vis X.env.scope x := by first | exact Or.inl rfl | exact Or.inr (Or.inl rfl) | exact Or.inr (Or.inr rfl)) (hd : (x == ("__debug__" : Str)) = false := by decide)
    (hcd : (x == ("__classdict__" : Str)) = false := by decide) : PE X (.Name x pos) (tVar i) := pe_var hN hv hd hcd
end
theorem iteF {A B : Prop} (h : B) : if false = true then A else B := by
  rw [if_neg Bool.false_ne_true]
  exact h
theorem iteT {A B : Prop} (h : A) : if true = true then A else B := by
  rw [if_pos rfl]
  exact h
def Same (H H' : Hp) : Prop := ∀ b o, H b = some o → H' b = some o
theorem Same.refl (H : Hp) : Same H H := fun _ _ h => h
theorem Same.trans {H H1 H2 : Hp} (a : Same H H1) (b : Same H1 H2) : Same H H2 := fun c o h => b c o (a c o h)
theorem Same.free {H H' : Hp} (e : Same H H') {l : Addr} (h : H' l = Option.none) : H l = Option.none := by
  cases q : H l with
  | none => rfl
  | some o =>
    rw [e l o q] at h
    cases h
theorem Same.seq {K : PySem.W.Frag} {H H' : Hp} {a : Addr} {xs : List V} (e : Same H H') (h : SqL K H a xs) : SqL K H' a xs := by
  rcases h with (h | ⟨o, h⟩) | h
  · exact .inl (.inl (e _ _ h))
  · exact .inl (.inr ⟨o, e _ _ h⟩)
  · exact .inr h
theorem at_of {xs : List V} {z : Int} {j : Nat} {v : V} (e : z = (j : Int)) (h : xs[j]? = some v) : atI xs z = some v := by
  rw [e]
  exact atI_nat h
end L2
section
set_option Elab.async false
set_option linter.all false
set_option maxRecDepth 100000
set_option maxHeartbeats 2000000
namespace L2
open PySem PySem.Spec PyProof.Rows
open PySem.W (WData Codec OpenSpec Well WellAll ReadsW ReadsAllW)
mutual
inductive Dw (K : PySem.W.Frag) (H : Hp) : V → WData → Prop
  | non : Dw K H .non .none
  | bl (b : Bool) : Dw K H (.bl b) (.bool b)
  | int (i : Int) : Dw K H (.int i) (.int i)
  | str (x : Str) : Dw K H (.str x) (.str x)
  | byt (b : Array UInt8) : Dw K H (.byt b) (.bytes b.toList)
  | lst {a : Addr} {xs : List V} {ds : List WData} : SqL K H a xs → DwAll K H xs ds → Dw K H (.ref a) (.list ds)
  | tup {a : Addr} {xs : List V} {ds : List WData} : SqT K H a xs → DwAll K H xs ds → Dw K H (.ref a) (.tuple ds)
inductive DwAll (K : PySem.W.Frag) (H : Hp) : List V → List WData → Prop
  | nil : DwAll K H [] []
  | cons {v : V} {vs : List V} {d : WData} {ds : List WData} : Dw K H v d → DwAll K H vs ds → DwAll K H (v :: vs) (d :: ds)
end
theorem dw_ints {K : PySem.W.Frag} {H : Hp} : ∀ ns : List Int, DwAll K H (ns.map V.int) (ns.map WData.int)
  | [] => .nil
  | n :: r => .cons (.int n) (dw_ints r)
theorem ints_dw {K : PySem.W.Frag} {H : Hp} : ∀ (ns : List Int) (xs : List V), DwAll K H xs (ns.map WData.int) → xs = ns.map V.int
  | [], xs, h => by
    cases h
    rfl
  | n :: r, xs, h => by
    cases h with
    | cons h1 h2 =>
      cases h1
      rw [ints_dw r _ h2] <;> rfl
section
variable {P : Program} {w : World} {K : PySem.W.Frag} {H : Hp} {h : Heap} {R : PySem.W.WRecords} {cl : Str → Option Addr}
theorem sqL_at {a : Addr} {xs : List V} (hok : HOk P w H h) (KX : K.In h) (q : SqL K H a xs) : ∃ (its : List Value) (o : Obj) (n : Nat), Vals xs its ∧ h.get? a = some o ∧ o.cls = .type "list" ∧ o.data = .seq its.toArray n := by
  rcases q with q | ⟨o, its, n, e, hc, _, hd, _, hv⟩
  · obtain ⟨_, its, n, hv, e⟩ := (show ObjOk P w H h a (.lst xs) from q.ok hok)
    exact ⟨its, _, n, hv, e, rfl, rfl⟩
  · exact ⟨its.toList, o, n, hv, KX _ _ e, hc, by simp [hd]⟩
theorem sqT_at {a : Addr} {xs : List V} (hok : HOk P w H h) (KX : K.In h) (q : SqT K H a xs) : ∃ (its : List Value) (o : Obj) (n : Nat), Vals xs its ∧ h.get? a = some o ∧ o.cls = .type "tuple" ∧ o.data = .seq its.toArray n := by
  rcases q with q | ⟨o, its, n, e, hc, hd, _, hv⟩
  · obtain ⟨_, its, hv, o, e, hc, n, hd⟩ := (show ObjOk P w H h a (.tup xs) from q.ok hok)
    exact ⟨its, o, n, hv, e, hc, hd⟩
  · exact ⟨its.toList, o, n, hv, KX _ _ e, hc, by simp [hd]⟩
mutual
theorem Dw.reads (hok : HOk P w H h) (KX : K.In h) : ∀ (d : WData) (v : V) (u : Value), Dw K H v d → RelV v u → ∃ as, ReadsW R cl h u d as
  | .none, _, _, x, r => by
    cases x
    cases r
    exact ⟨_, ReadsW.none⟩
  | .bool b, _, _, x, r => by
    cases x
    cases r
    exact ⟨_, ReadsW.bool b⟩
  | .int i, _, _, x, r => by
    cases x
    obtain ⟨t, rfl⟩ := r
    exact ⟨_, ReadsW.int i t⟩
  | .str s, _, _, x, r => by
    cases x
    obtain ⟨t, rfl⟩ := r
    exact ⟨_, ReadsW.str s t⟩
  | .bytes b, _, _, x, r => by
    cases x
    obtain ⟨t, rfl⟩ := r
    exact ⟨_, ReadsW.bytes _ t⟩
  | .list ds, _, _, x, r => by
    cases x with
    | lst hs ha =>
      cases r
      obtain ⟨its, o, n, rv, ho, hc, hd⟩ := sqL_at hok KX hs
      obtain ⟨as, hr⟩ := Dw.readsAll hok KX ds _ its ha rv
      exact ⟨_, ReadsW.list ho hc hd hr⟩
  | .tuple ds, _, _, x, r => by
    cases x with
    | tup hs ha =>
      cases r
      obtain ⟨its, o, n, rv, ho, hc, hd⟩ := sqT_at hok KX hs
      obtain ⟨as, hr⟩ := Dw.readsAll hok KX ds _ its ha rv
      exact ⟨_, ReadsW.tuple ho hc hd hr⟩
  | .float _, _, _, x, _ => by cases x
  | .dict _, _, _, x, _ => by cases x
  | .bytearray _, _, _, x, _ => by cases x
  | .set _, _, _, x, _ => by cases x
  | .frozenset _, _, _, x, _ => by cases x
  | .obj _ _, _, _, x, _ => by cases x
theorem Dw.readsAll (hok : HOk P w H h) (KX : K.In h) : ∀ (ds : List WData) (vs : List V) (us : List Value), DwAll K H vs ds → Vals vs us → ∃ as, ReadsAllW R cl h us ds as
  | [], _, _, x, r => by
    cases x
    cases r
    exact ⟨_, ReadsAllW.nil⟩
  | d :: ds, _, _, x, r => by
    cases x with
    | cons h1 h2 =>
      cases r with
      | cons r1 r2 =>
        obtain ⟨as, q1⟩ := Dw.reads hok KX d _ _ h1 r1
        obtain ⟨bs, q2⟩ := Dw.readsAll hok KX ds _ _ h2 r2
        exact ⟨_, ReadsAllW.cons q1 q2⟩
end
end
mutual
def plW : WData → Bool
  | .none => true
  | .bool _ => true
  | .int _ => true
  | .str _ => true
  | .bytes _ => true
  | .list xs => plWs xs
  | .tuple xs => plWs xs
  | _ => false
def plWs : List WData → Bool
  | [] => true
  | x :: r => plW x && plWs r
end
theorem plWs_map {α : Type} {f : α → WData} (h : ∀ a, plW (f a) = true) : ∀ l : List α, plWs (l.map f) = true
  | [] => rfl
  | x :: r => by
    show (plW (f x) && plWs (r.map f)) = true
    rw [h x, plWs_map h r] <;> rfl
theorem pl_enc : ∀ (c : Codec) (a : c.denote), plW (c.enc a) = true
  | .unit, _ => rfl
  | .bool, _ => rfl
  | .int _ _, _ => rfl
  | .nat _ _, _ => rfl
  | .u8, _ => rfl
  | .bytes _ _, _ => rfl
  | .text _ _ _ _, _ => rfl
  | .list _ _ c, a => plWs_map (fun x => pl_enc c x) a
  | .pair c d, a => by
    show (plW (c.enc a.1) && (plW (d.enc a.2) && true)) = true
    rw [pl_enc c a.1, pl_enc d a.2] <;> rfl
  | .triple c d e, a => by
    show (plW (c.enc a.1) && (plW (d.enc a.2.1) && (plW (e.enc a.2.2) && true))) = true
    rw [pl_enc c a.1, pl_enc d a.2.1, pl_enc e a.2.2] <;> rfl
  | .option c, none => rfl
  | .option c, some x => pl_enc c x
theorem pl_encAll : ∀ (cs : List Codec) (a : Codec.denoteAll cs), plWs (Codec.encAll cs a) = true
  | [], _ => rfl
  | c :: cs, a => by
    show (plW (c.enc a.1) && plWs (Codec.encAll cs a.2)) = true
    rw [pl_enc c a.1, pl_encAll cs a.2] <;> rfl
theorem weight_mem : ∀ {xs : List WData} {d : WData}, d ∈ xs → d.weight ≤ WData.weightAll xs
  | [], d, h => absurd h (by simp)
  | x :: r, d, h => by
    show d.weight ≤ x.weight + 1 + WData.weightAll r
    rcases List.mem_cons.mp h with e | m
    · rw [e]
      omega
    · have z := weight_mem m
      omega
def toV : Value → V
  | .none => .non
  | .bool b => .bl b
  | .int i _ => .int i
  | .str x _ => .str x
  | .bytes b _ => .byt b
  | .ref a => .ref a
  | _ => .non
def OkU (A : List Addr) : Value → Prop
  | .none => True
  | .bool _ => True
  | .int _ _ => True
  | .str _ _ => True
  | .bytes _ _ => True
  | .ref a => a ∈ A
  | _ => False
theorem OkU.mono {A B : List Addr} (h : ∀ a ∈ A, a ∈ B) : ∀ {u : Value}, OkU A u → OkU B u := fun {u} x => by
  cases u with
  | ref a => exact h a x
  | none => trivial
  | bool b => trivial
  | int i t => trivial
  | str s t => trivial
  | bytes b t => trivial
  | _ => exact False.elim x
theorem relV_toV {A : List Addr} {u : Value} (x : OkU A u) : RelV (toV u) u := by
  cases u with
  | ref a => rfl
  | none => rfl
  | bool b => rfl
  | int i t => exact ⟨t, rfl⟩
  | str s t => exact ⟨t, rfl⟩
  | bytes b t => exact ⟨t, rfl⟩
  | _ => exact False.elim x
theorem vals_toV {A : List Addr} : ∀ {vs : List Value}, (∀ u ∈ vs, OkU A u) → Vals (vs.map toV) vs
  | [], _ => .nil
  | u :: r, h => .cons (relV_toV (h u (List.mem_cons_self ..))) (vals_toV fun x hx => h x (List.mem_cons_of_mem _ hx))
def ArgOb (h : Heap) (A : List Addr) (a : Addr) : Prop := ∃ vs : List Value, vs.length ≤ sizeLine ∧ (∀ u ∈ vs, OkU A u) ∧
  (h.get? a = some { cls := .type "list", data := .seq vs.toArray } ∨ h.get? a = some { cls := .type "tuple", data := .seq vs.toArray })
theorem ArgOb.mono {h : Heap} {A B : List Addr} {a : Addr} (k : ∀ a ∈ A, a ∈ B) (x : ArgOb h A a) : ArgOb h B a := by
  obtain ⟨vs, h1, h2, h3⟩ := x
  exact ⟨vs, h1, fun u hu => (h2 u hu).mono k, h3⟩
theorem wellAll_len {P : Params} {h : Heap} : ∀ {vs : List Value} {ds : List WData}, WellAll P h vs ds → vs.length = ds.length
  | _, _, .nil => rfl
  | _, _, .cons _ b => by
    show _ + 1 = _ + 1
    rw [wellAll_len b]
theorem well_list {P : Params} {h : Heap} {v : Value} {ds : List WData} (x : Well P h v (.list ds)) : ∃ (a : Addr) (vs : List Value), v = .ref a ∧ h.get? a = some { cls := .type "list", data := .seq vs.toArray } ∧ WellAll P h vs ds := by
  cases x with
  | list ho hall => exact ⟨_, _, rfl, ho, hall⟩
theorem well_tuple {P : Params} {h : Heap} {v : Value} {ds : List WData} (x : Well P h v (.tuple ds)) : ∃ (a : Addr) (vs : List Value), v = .ref a ∧ h.get? a = some { cls := .type "tuple", data := .seq vs.toArray } ∧ WellAll P h vs ds := by
  cases x with
  | tuple ho hall => exact ⟨_, _, rfl, ho, hall⟩
theorem well_cons {P : Params} {h : Heap} {us : List Value} {d : WData} {ds : List WData} (x : WellAll P h us (d :: ds)) : ∃ (v : Value) (vs : List Value), us = v :: vs ∧ Well P h v d ∧ WellAll P h vs ds := by
  cases x with
  | cons a b => exact ⟨_, _, rfl, a, b⟩
theorem line_of {n : Nat} (h : n ≤ 1048576) : n ≤ sizeLine := Nat.le_trans h (by decide)
section
variable {P : Params} {h : Heap}
mutual
theorem area_one : ∀ (d : WData) (v : Value), Well P h v d → plW d = true → d.weight ≤ 1048576 → ∃ A : List Addr, OkU A v ∧ ∀ a ∈ A, ArgOb h A a
  | .none, _, x, _, _ => by
    cases x
    exact ⟨[], trivial, fun a m => absurd m (by simp)⟩
  | .bool b, _, x, _, _ => by
    cases x
    exact ⟨[], trivial, fun a m => absurd m (by simp)⟩
  | .int i, _, x, _, _ => by
    cases x
    exact ⟨[], trivial, fun a m => absurd m (by simp)⟩
  | .str s, _, x, _, _ => by
    cases x
    exact ⟨[], trivial, fun a m => absurd m (by simp)⟩
  | .bytes b, _, x, _, _ => by
    cases x
    exact ⟨[], trivial, fun a m => absurd m (by simp)⟩
  | .list ds, _, x, p, z => by
    obtain ⟨a, vs, rfl, ho, hall⟩ := well_list x
    have z2 : WData.weightAll ds ≤ 1048576 := z
    obtain ⟨A, h1, h2⟩ := area_all ds _ hall p fun d hd => Nat.le_trans (weight_mem hd) z2
    have k : ∀ b ∈ A, b ∈ a :: A := fun b hb => List.mem_cons_of_mem _ hb
    refine ⟨a :: A, List.mem_cons_self .., fun b hb => ?_⟩
    rcases List.mem_cons.mp hb with e | m
    · rw [e]
      exact ⟨vs, line_of (by rw [wellAll_len hall]; exact Nat.le_trans (PySem.W.length_le_weightAllW ds) z2), fun u hu => (h1 u hu).mono k, .inl ho⟩
    · exact (h2 b m).mono k
  | .tuple ds, _, x, p, z => by
    obtain ⟨a, vs, rfl, ho, hall⟩ := well_tuple x
    have z2 : WData.weightAll ds ≤ 1048576 := z
    obtain ⟨A, h1, h2⟩ := area_all ds _ hall p fun d hd => Nat.le_trans (weight_mem hd) z2
    have k : ∀ b ∈ A, b ∈ a :: A := fun b hb => List.mem_cons_of_mem _ hb
    refine ⟨a :: A, List.mem_cons_self .., fun b hb => ?_⟩
    rcases List.mem_cons.mp hb with e | m
    · rw [e]
      exact ⟨vs, line_of (by rw [wellAll_len hall]; exact Nat.le_trans (PySem.W.length_le_weightAllW ds) z2), fun u hu => (h1 u hu).mono k, .inr ho⟩
    · exact (h2 b m).mono k
  | .float _, _, _, p, _ => Bool.noConfusion (show false = true from p)
  | .dict _, _, _, p, _ => Bool.noConfusion (show false = true from p)
  | .bytearray _, _, _, p, _ => Bool.noConfusion (show false = true from p)
  | .set _, _, _, p, _ => Bool.noConfusion (show false = true from p)
  | .frozenset _, _, _, p, _ => Bool.noConfusion (show false = true from p)
  | .obj _ _, _, _, p, _ => Bool.noConfusion (show false = true from p)
theorem area_all : ∀ (ds : List WData) (vs : List Value), WellAll P h vs ds → plWs ds = true → (∀ d ∈ ds, d.weight ≤ 1048576) → ∃ A : List Addr, (∀ u ∈ vs, OkU A u) ∧ ∀ a ∈ A, ArgOb h A a
  | [], _, x, _, _ => by
    cases x
    exact ⟨[], fun u m => absurd m (by simp), fun a m => absurd m (by simp)⟩
  | d :: ds, _, x, p, z => by
    obtain ⟨v, vs, rfl, x1, x2⟩ := well_cons x
    have q : plW d = true ∧ plWs ds = true := Bool.and_eq_true_iff.mp p
    obtain ⟨A, a1, a2⟩ := area_one d v x1 q.1 (z d (List.mem_cons_self ..))
    obtain ⟨B, b1, b2⟩ := area_all ds vs x2 q.2 fun e he => z e (List.mem_cons_of_mem _ he)
    have kA : ∀ b ∈ A, b ∈ A ++ B := fun b hb => List.mem_append.mpr (.inl hb)
    have kB : ∀ b ∈ B, b ∈ A ++ B := fun b hb => List.mem_append.mpr (.inr hb)
    refine ⟨A ++ B, fun u hu => ?_, fun b hb => ?_⟩
    · rcases List.mem_cons.mp hu with e | m
      · rw [e]
        exact a1.mono kA
      · exact (b1 u m).mono kB
    · rcases List.mem_append.mp hb with m | m
      · exact (a2 b m).mono kA
      · exact (b2 b m).mono kB
end
end
def hoOf (o : Obj) : Option HO := match o.data with
  | .seq vs _ => if (o.cls == Value.type "list") = true then some (.frz o (.lst (vs.toList.map toV))) else some (.frz o (.tup (vs.toList.map toV)))
  | _ => none
def argH (K : PySem.W.Frag) (h : Heap) (A : List Addr) : Hp := fun b => if b ∈ A then (if (K.lookup b).isNone = true then (h.get? b).bind hoOf else none) else none
def OnlyF (H : Hp) : Prop := ∀ b, H b = none ∨ ∃ o u, H b = some (.frz o u)
theorem hoOf_lst (vs : List Value) : hoOf { cls := .type "list", data := .seq vs.toArray } = some (.frz { cls := .type "list", data := .seq vs.toArray } (.lst (vs.map toV))) := by
  show (if (Value.type "list" == Value.type "list") = true then some (HO.frz { cls := .type "list", data := .seq vs.toArray } (.lst (vs.toArray.toList.map toV))) else some (HO.frz { cls := .type "list", data := .seq vs.toArray } (.tup (vs.toArray.toList.map toV)))) = _
  rw [if_pos (beq_self_eq_true _)]
theorem hoOf_tup (vs : List Value) : hoOf { cls := .type "tuple", data := .seq vs.toArray } = some (.frz { cls := .type "tuple", data := .seq vs.toArray } (.tup (vs.map toV))) := by
  show (if (Value.type "tuple" == Value.type "list") = true then some (HO.frz { cls := .type "tuple", data := .seq vs.toArray } (.lst (vs.toArray.toList.map toV))) else some (HO.frz { cls := .type "tuple", data := .seq vs.toArray } (.tup (vs.toArray.toList.map toV)))) = _
  rw [if_neg (by decide)]
section
variable {P : Program} {w : World} {K : PySem.W.Frag} {h : Heap} {A : List Addr}
theorem argH_at {b : Addr} {o : Obj} (hb : b ∈ A) (hk : K.lookup b = none) (e : h.get? b = some o) : argH K h A b = hoOf o := by
  unfold argH
  rw [if_pos hb, hk, if_pos (show (none : Option Obj).isNone = true from rfl), e] <;> rfl
theorem of_argH {b : Addr} {u : HO} (q : argH K h A b = some u) : b ∈ A ∧ K.lookup b = none := by
  unfold argH at q
  by_cases hb : b ∈ A
  · rw [if_pos hb] at q
    cases hk : K.lookup b with
    | none => exact ⟨hb, rfl⟩
    | some o =>
      rw [hk, if_neg (by simp)] at q
      cases q
  · rw [if_neg hb] at q
    cases q
theorem argH_is (ar : ∀ a ∈ A, ArgOb h A a) {b : Addr} {u : HO} (q : argH K h A b = some u) : K.lookup b = none ∧ ∃ vs : List Value, vs.length ≤ sizeLine ∧ (∀ u ∈ vs, OkU A u) ∧
    ((h.get? b = some { cls := .type "list", data := .seq vs.toArray } ∧ u = .frz { cls := .type "list", data := .seq vs.toArray } (.lst (vs.map toV))) ∨
     (h.get? b = some { cls := .type "tuple", data := .seq vs.toArray } ∧ u = .frz { cls := .type "tuple", data := .seq vs.toArray } (.tup (vs.map toV)))) := by
  obtain ⟨hb, hk⟩ := of_argH q
  obtain ⟨vs, h1, h2, h3⟩ := ar b hb
  refine ⟨hk, vs, h1, h2, ?_⟩
  rcases h3 with e | e
  · rw [argH_at hb hk e, hoOf_lst] at q
    exact .inl ⟨e, (Option.some.inj q).symm⟩
  · rw [argH_at hb hk e, hoOf_tup] at q
    exact .inr ⟨e, (Option.some.inj q).symm⟩
theorem argH_only (ar : ∀ a ∈ A, ArgOb h A a) : OnlyF (argH K h A) := fun b => by
  cases q : argH K h A b with
  | none => exact .inl rfl
  | some u =>
    obtain ⟨_, vs, _, _, ⟨_, e⟩ | ⟨_, e⟩⟩ := argH_is ar q
    · exact .inr ⟨_, _, by rw [e]⟩
    · exact .inr ⟨_, _, by rw [e]⟩
theorem argH_ok (ar : ∀ a ∈ A, ArgOb h A a) : HOk P w (argH K h A) h := fun b u q => by
  obtain ⟨_, vs, h1, h2, ⟨e, rfl⟩ | ⟨e, rfl⟩⟩ := argH_is ar q
  · exact ⟨e, by rw [List.length_map]; exact h1, vs, _, vals_toV h2, e⟩
  · exact ⟨e, by rw [List.length_map]; exact h1, vs, vals_toV h2, _, e, rfl, _, rfl⟩
theorem seq_inj {c c' : Value} {vs us : List Value} (e : (some { cls := c, data := .seq vs.toArray } : Option Obj) = some { cls := c', data := .seq us.toArray }) : c = c' ∧ vs = us := by
  have e1 := Option.some.inj e
  have e2 : c = c' := congrArg Obj.cls e1
  have e3 : Data.seq vs.toArray = Data.seq us.toArray := congrArg Obj.data e1
  injection e3 with e4
  refine ⟨e2, ?_⟩
  have e5 := congrArg Array.toList e4
  simpa using e5
theorem argL (KX : K.In h) (ar : ∀ a ∈ A, ArgOb h A a) {a : Addr} {vs : List Value} (ha : a ∈ A) (e : h.get? a = some { cls := .type "list", data := .seq vs.toArray }) : (∀ u ∈ vs, OkU A u) ∧ SqL K (argH K h A) a (vs.map toV) := by
  obtain ⟨us, h1, h2, h3⟩ := ar a ha
  have hu : us = vs := by
    rcases h3 with q | q
    · rw [e] at q
      exact (seq_inj q).2.symm
    · rw [e] at q
      exact absurd (Value.type.inj (seq_inj q).1) (by decide)
  subst hu
  refine ⟨h2, ?_⟩
  cases hk : K.lookup a with
  | none => exact .inl (.inr ⟨_, by rw [argH_at ha hk e, hoOf_lst]⟩)
  | some o =>
    have e2 := KX a o hk
    rw [e] at e2
    obtain rfl := Option.some.inj e2
    exact .inr ⟨_, us.toArray, _, hk, rfl, rfl, rfl, by rw [List.size_toArray]; exact h1, by simpa using vals_toV h2⟩
theorem argT (KX : K.In h) (ar : ∀ a ∈ A, ArgOb h A a) {a : Addr} {vs : List Value} (ha : a ∈ A) (e : h.get? a = some { cls := .type "tuple", data := .seq vs.toArray }) : (∀ u ∈ vs, OkU A u) ∧ SqT K (argH K h A) a (vs.map toV) := by
  obtain ⟨us, h1, h2, h3⟩ := ar a ha
  have hu : us = vs := by
    rcases h3 with q | q
    · rw [e] at q
      exact absurd (Value.type.inj (seq_inj q).1) (by decide)
    · rw [e] at q
      exact (seq_inj q).2.symm
  subst hu
  refine ⟨h2, ?_⟩
  cases hk : K.lookup a with
  | none => exact .inl (.inr ⟨_, by rw [argH_at ha hk e, hoOf_tup]⟩)
  | some o =>
    have e2 := KX a o hk
    rw [e] at e2
    obtain rfl := Option.some.inj e2
    exact .inr ⟨_, us.toArray, _, hk, rfl, rfl, by rw [List.size_toArray]; exact h1, by simpa using vals_toV h2⟩
mutual
theorem dw_one {Pm : Params} (KX : K.In h) (ar : ∀ a ∈ A, ArgOb h A a) : ∀ (d : WData) (v : Value), Well Pm h v d → plW d = true → OkU A v → Dw K (argH K h A) (toV v) d
  | .none, _, x, _, _ => by
    cases x
    exact .non
  | .bool b, _, x, _, _ => by
    cases x
    exact .bl b
  | .int i, _, x, _, _ => by
    cases x
    exact .int i
  | .str s, _, x, _, _ => by
    cases x
    exact .str s
  | .bytes b, _, x, _, _ => by
    cases x
    have z := Dw.byt (K := K) (H := argH K h A) b.toArray
    exact z
  | .list ds, _, x, p, hu => by
    obtain ⟨a, vs, rfl, ho, hall⟩ := well_list x
    obtain ⟨h2, hs⟩ := argL KX ar hu ho
    exact .lst hs (dw_all KX ar ds _ hall p h2)
  | .tuple ds, _, x, p, hu => by
    obtain ⟨a, vs, rfl, ho, hall⟩ := well_tuple x
    obtain ⟨h2, hs⟩ := argT KX ar hu ho
    exact .tup hs (dw_all KX ar ds _ hall p h2)
  | .float _, _, _, p, _ => Bool.noConfusion (show false = true from p)
  | .dict _, _, _, p, _ => Bool.noConfusion (show false = true from p)
  | .bytearray _, _, _, p, _ => Bool.noConfusion (show false = true from p)
  | .set _, _, _, p, _ => Bool.noConfusion (show false = true from p)
  | .frozenset _, _, _, p, _ => Bool.noConfusion (show false = true from p)
  | .obj _ _, _, _, p, _ => Bool.noConfusion (show false = true from p)
theorem dw_all {Pm : Params} (KX : K.In h) (ar : ∀ a ∈ A, ArgOb h A a) : ∀ (ds : List WData) (vs : List Value), WellAll Pm h vs ds → plWs ds = true → (∀ u ∈ vs, OkU A u) → DwAll K (argH K h A) (vs.map toV) ds
  | [], _, x, _, _ => by
    cases x
    exact .nil
  | d :: ds, _, x, p, hu => by
    obtain ⟨v, vs, rfl, x1, x2⟩ := well_cons x
    have q : plW d = true ∧ plWs ds = true := Bool.and_eq_true_iff.mp p
    exact .cons (dw_one KX ar d v x1 q.1 (hu _ (List.mem_cons_self ..))) (dw_all KX ar ds vs x2 q.2 fun u m => hu u (List.mem_cons_of_mem _ m))
end
end
theorem spec_call {P : Program} {w : World} {K : PySem.W.Frag} {mg mb : Str → Option Value} {CX : CXT} {k : Nat} {fa : Addr} {fd : FuncData} {ps : List Str} {sp : Sp} {s₁ : Shared} {vals : List Value} {ds : List WData} {R : PySem.W.WRecords} {cl : Str → Option Addr} {d0 : WData}
    (KX : K.In s₁.heap) (hns : s₁.heap.Ns mainGlobals mg) (hb : s₁.heap.Ns builtinsNs mb) (hbb : ∀ x : Str, x ≠ "__name__" → mb x = bootBuiltins x) (hlim : s₁.heap.NoLimit) (hg : s₁.gens = #[])
    (hwl : WellAll w.params s₁.heap vals ds) (hpl : plWs ds = true) (hwt : ∀ d ∈ ds, d.weight ≤ 1048576) (hr : Room k callerA)
    (F : ∀ base : Heap, K.In base → base.Ns mainGlobals mg → FnOk P w K mg base CX k fa fd ps sp) (hbind : ∀ (s : Shared) (us : List Value), us.length = ps.length → BindsTo s fd ⟨us, []⟩ (ps.zip us)) (hlen : ds.length = ps.length)
    (hsp : ∀ (H : Hp) (xs : List V), OnlyF H → DwAll K H xs ds → sp xs H (fun v H' => Dw K H' v d0) fun _ _ _ => False)
    (hCX : ∀ H e s', CX [] H s₁ (fun _ _ _ => False) e s' → False) :
    codeAny (model P w) callerA (.call (.ref fa) ⟨vals, []⟩) (fun r s' => ∃ u as, r = .ok (.ret u) ∧ ReadsW R cl s'.heap u d0 as ∧ OldK s₁.heap s'.heap ∧ s'.os = s₁.os ∧ AllBare s'.gens) s₁ := by
  obtain ⟨A, ho, ar⟩ := area_all ds vals hwl hpl hwt
  have hO : OnlyF (argH K s₁.heap A) := argH_only ar
  have hok : HOk P w (argH K s₁.heap A) s₁.heap := argH_ok ar
  have hS := dw_all KX ar ds vals hwl hpl ho
  have hV := vals_toV ho
  have hK : ∀ b u, argH K s₁.heap A b = some u → K.lookup b = none := fun b u q => (argH_is ar q).1
  have noA : ∀ {b : Addr} {o : Obj} {es : Array DictEntry} {ep : Nat}, s₁.heap.get? b = some o → o.data = .dict es ep → argH K s₁.heap A b = none := fun {b o es ep} e d => by
    cases q : argH K s₁.heap A b with
    | none => rfl
    | some u =>
      obtain ⟨_, vs, _, _, ⟨e2, _⟩ | ⟨e2, _⟩⟩ := argH_is ar q
      · rw [e2] at e
        cases e
        have d' : Data.seq vs.toArray _ = Data.dict es ep := d
        cases d'
      · rw [e2] at e
        cases e
        have d' : Data.seq vs.toArray _ = Data.dict es ep := d
        cases d'
  generalize argH K s₁.heap A = H at hO hok hS hK noA
  have base_of : ∀ {b : Addr} {o : Obj}, s₁.heap.get? b = some o → H b = none → (hidT s₁.heap H).get? b = some o := fun e n => hidT_get e n
  have nsK : ∀ {b : Addr} {m : Str → Option Value}, s₁.heap.Ns b m → (hidT s₁.heap H).Ns b m := fun {b m} ⟨o, es, ep, e, d, r⟩ => ⟨o, es, ep, base_of e (noA e d), d, r⟩
  have nK : ∀ b o, K.lookup b = some o → H b = none := fun b o e => by
    cases q : H b with
    | none => rfl
    | some u =>
      rw [hK b u q] at e
      cases e
  have hKb : K.In (hidT s₁.heap H) := fun b o e => base_of (KX b o e) (nK b o e)
  have hM : Mod K mg (hidT s₁.heap H) := ⟨hKb, nsK hns, ⟨mb, nsK hb, hbb⟩, let ⟨mc, h1, h2⟩ := hlim; ⟨mc, nsK h1, h2⟩⟩
  have e0 : Env0 P w K mg (hidT s₁.heap H) callerA [] s₁ H := ⟨rfl, hM, fun b o e => of_hidT e, Nat.le_of_eq (hidT_size _ _), trivial, fun b hb => absurd (show b ∈ ([] : List Addr) from hb) (by simp), hok, .of_eq hg⟩
  have hl : vals.length = ps.length := by rw [wellAll_len hwl]; exact hlen
  refine codeAny_mono ((F _ hKb (nsK hns)).run callerA [] s₁ H ⟨vals, []⟩ vals (vals.map toV) _ _ hr e0 (hbind s₁ vals hl) hV (hsp H _ hO hS)) fun r s' x => ?_
  cases r with
  | error e => exact (hCX H e s' x).elim
  | ok fl =>
    cases fl with
    | next => exact False.elim x
    | brk => exact False.elim x
    | cont => exact False.elim x
    | ret u =>
      obtain ⟨v, H', os, bare, un, hok', r', q⟩ := x
      have kept : ∀ b o, s₁.heap.get? b = some o → s'.heap.get? b = some o := fun b o e => by
        cases q2 : H b with
        | none => exact un.keep b o e q2 (by intro z; exact absurd (show b ∈ ([] : List Addr) from z) (by simp)) (by simp)
        | some u2 =>
          rcases hO b with z | ⟨ob, u3, z⟩
          · rw [q2] at z
            cases z
          · have z2 := un.frzs b ob _ z
            obtain ⟨e1, _⟩ := hok b _ z
            obtain ⟨e2, _⟩ := hok' b _ z2
            rw [e] at e1
            cases e1
            exact e2
      have KX' : K.In s'.heap := fun b o e => kept b o (KX b o e)
      obtain ⟨as, hrd⟩ := Dw.reads (R := R) (cl := cl) hok' KX' d0 v u q r'
      exact ⟨u, as, rfl, hrd, OldK.of_keep kept, os, bare⟩
theorem layable_weight {ds : List WData} (h : WData.layableAll ds = true) : ∀ d ∈ ds, d.weight ≤ 1048576 := fun d hd =>
  (PySem.W.layableW_iff.mp (List.all_eq_true.mp h d hd)).2.2
theorem encAll_len : ∀ (cs : List Codec) (a : Codec.denoteAll cs), (Codec.encAll cs a).length = cs.length
  | [], _ => rfl
  | c :: cs, a => by
    show (Codec.encAll cs a.2).length + 1 = cs.length + 1
    rw [encAll_len cs a.2]
theorem walk_spec {r : OpenSpec} {k : Nat} {q : Program} {loose : List Str} {XP : (Str → Option Value) → Heap → Prop} {YP : World → Heap → Prop} {d : DefRec} {K : Params → PySem.W.Frag} {CX : World → CXT} {ps : List Str} {sp : World → Sp}
    (hwell : r.wellSaid = true) (hdf : d.params.defaults = []) (hlen : r.args.length = ps.length) (hr : Room k callerA)
    (hY : ∀ (w : World) (h : Heap), YP w h → (K w.params).In h)
    (F : ∀ (w : World) (mg : Str → Option Value) (fa : Addr) (h : Heap), YP w h → (K w.params).In h → h.Ns mainGlobals mg → mg d.name = some (.ref fa) →
      ∃ fd : FuncData, (∀ (s : Shared) (us : List Value), us.length = ps.length → BindsTo s fd ⟨us, []⟩ (ps.zip us)) ∧
        ∀ base : Heap, (K w.params).In base → base.Ns mainGlobals mg → FnOk r.prog w (K w.params) mg base (CX w) k fa fd ps (sp w))
    (hsp : ∀ (w : World) (H : Hp) (xs : List V) (a : Codec.denoteAll r.args), OnlyF H → Codec.withinAll r.args a = true → Codec.app r.args r.asked a = true → DwAll (K w.params) H xs (Codec.encAll r.args a) →
      sp w xs H (fun v H' => Dw (K w.params) H' v (r.ret.enc (Codec.app r.args r.f a))) fun _ _ _ => False)
    (hCX : ∀ (w : World) (H : Hp) (s : Shared) (e : Value) (s' : Shared), CX w [] H s (fun _ _ _ => False) e s' → False) :
    PySem.W.WalkOS q loose XP YP r d [] (fun f vs => PySem.call f vs) := by
  intro w s_0 s₁ mg mb G Y fa o pm cd doc dV kV ho hd hcd hD hmg hg args vals as hpre hlay hrd hwl hlo
  obtain ⟨a, e1, e2⟩ := PySem.W.os_pre_some hpre
  obtain ⟨e3, hwi⟩ := Codec.encAll_of_decAll r.args args a e1
  subst e3
  have KX := hY w _ Y
  obtain ⟨fd, hb, hF⟩ := F w mg fa _ Y KX G.T.g hmg
  refine PySem.W.enter_call (codeAny_mono (spec_call (R := []) (cl := classAt s_0.heap) (d0 := r.ret.enc (Codec.app r.args r.f a)) KX G.T.g G.T.b G.T.builtins G.T.nolimit hg hwl (pl_encAll _ _) (layable_weight hlay) hr hF hb (by rw [encAll_len]; exact hlen)
    (fun H xs hO hS => hsp w H xs a hO hwi e2 hS) fun H e s' => hCX w H s₁ e s') fun r' s' hq => ?_)
  obtain ⟨u, as', rfl, h1, h2, h3, h4⟩ := hq
  exact ⟨.inl ⟨u, _, as', rfl, fun _ => rfl, h1, (OpenSpec.post_iff hwell hwi _ _).mpr rfl, fun z => Bool.noConfusion (show false = true from z)⟩, h2, h3, h4⟩
theorem walk_specK {r : OpenSpec} {k : Nat} {q : Program} {loose : List Str} {XP : (Str → Option Value) → Heap → Prop} {YP : World → Heap → Prop} {d : DefRec} {K : Params → PySem.W.Frag} {CX : CXT} {ps : List Str} {sp : PySem.W.Frag → Sp}
    (hwell : r.wellSaid = true) (hdf : d.params.defaults = []) (hlen : r.args.length = ps.length) (hr : Room k callerA)
    (hY : ∀ (w : World) (h : Heap), YP w h → (K w.params).In h)
    (F : ∀ (w : World) (mg : Str → Option Value) (fa : Addr) (h : Heap), YP w h → (K w.params).In h → h.Ns mainGlobals mg → mg d.name = some (.ref fa) →
      ∃ fd : FuncData, (∀ (s : Shared) (us : List Value), us.length = ps.length → BindsTo s fd ⟨us, []⟩ (ps.zip us)) ∧
        ∀ base : Heap, (K w.params).In base → base.Ns mainGlobals mg → FnOk r.prog w (K w.params) mg base CX k fa fd ps (sp (K w.params)))
    (hsp : ∀ (K : PySem.W.Frag) (H : Hp) (xs : List V) (a : Codec.denoteAll r.args), OnlyF H → Codec.withinAll r.args a = true → Codec.app r.args r.asked a = true → DwAll K H xs (Codec.encAll r.args a) →
      sp K xs H (fun v H' => Dw K H' v (r.ret.enc (Codec.app r.args r.f a))) fun _ _ _ => False)
    (hCX : ∀ (H : Hp) (s : Shared) (e : Value) (s' : Shared), CX [] H s (fun _ _ _ => False) e s' → False) :
    PySem.W.WalkOS q loose XP YP r d [] (fun f vs => PySem.call f vs) :=
  walk_spec (K := K) (CX := fun _ => CX) (sp := fun w => sp (K w.params)) hwell hdf hlen hr hY F (fun w H xs a h1 h2 h3 h4 => hsp (K w.params) H xs a h1 h2 h3 h4) fun _ H s e s' => hCX H s e s'
end L2
end
end
section
set_option linter.all false
set_option autoImplicit false
namespace My
open Kwc (Bytes Wind Wx Cloud Sky Change Report)
abbrev T := List Nat
def isD (b : Nat) : Bool := decide (48 ≤ b) && decide (b ≤ 57)
theorem digits_length : ∀ (k n : Nat), (Kwc.digits k n).length = k
  | 0, _ => rfl
  | k + 1, n => by simp [Kwc.digits, digits_length k]
def metresFit (n : Nat) : Bool := if n < 800 then n % 50 == 0 else if n < 5000 then n % 100 == 0 else n == 9999 || (decide (n ≤ 9000) && n % 1000 == 0)
theorem metresFit_eq (n : Nat) : metresFit n = Kwc.okSight n := by
  unfold metresFit Kwc.okSight
  split
  · rfl
  · split
    · rfl
    · rw [Bool.or_comm]
def windFits (d s g : Nat) : Bool := if s = 0 then d == 0 && g == 0 else d != 0 && (g == 0 || decide (s < g))
end My
end
section
set_option linter.all false
set_option autoImplicit false
namespace My
open Kwc (Bytes Wind Wx Cloud Sky Change Report)
end My
end
section
set_option linter.all false
set_option autoImplicit false
namespace My
open Kwc (Bytes Wind Wx Cloud Sky Change Report)
def MANN : List T := [Kwc.text "MI", Kwc.text "BC", Kwc.text "PR", Kwc.text "DR", Kwc.text "BL", Kwc.text "SH", Kwc.text "TS", Kwc.text "FZ"]
def RAIN : List T := [Kwc.text "DZ", Kwc.text "RA", Kwc.text "SN", Kwc.text "SG", Kwc.text "PL", Kwc.text "GR", Kwc.text "GS"]
def OTHR : List T := [Kwc.text "BR", Kwc.text "FG", Kwc.text "FU", Kwc.text "VA", Kwc.text "DU", Kwc.text "SA", Kwc.text "HZ", Kwc.text "PO", Kwc.text "SQ", Kwc.text "FC", Kwc.text "SS", Kwc.text "DS"]
def KN : List T := RAIN ++ OTHR
def allRain (ks : List T) : Bool := ks.all fun k => RAIN.contains k
def noTw : List T → Bool
  | [] => true
  | k :: l => !(l.contains k) && noTw l
def kindsFit (ks : List T) : Bool := if 3 < ks.length ∨ noTw ks = false then false else decide (ks.length < 2) || allRain ks
def strengthFits (s : Nat) (ks : List T) : Bool := s == 1 || (decide (0 < ks.length) && RAIN.contains (ks.headD []))
def mannerFits (m : T) (ks : List T) : Bool :=
  if m = Kwc.text "TS" then allRain ks
  else if ks.length = 0 then false
  else if [Kwc.text "MI", Kwc.text "BC", Kwc.text "PR"].contains m then ks == [Kwc.text "FG"]
  else if [Kwc.text "DR", Kwc.text "BL"].contains m then ks.length == 1 && [Kwc.text "SN", Kwc.text "DU", Kwc.text "SA"].contains (ks.headD [])
  else if m = Kwc.text "SH" then allRain ks && !(ks.contains (Kwc.text "DZ"))
  else if m = Kwc.text "FZ" then [Kwc.text "DZ", Kwc.text "RA"].contains (ks.headD []) || ks == [Kwc.text "FG"]
  else true
def wxFits (s : Nat) (m : T) (ks : List T) : Bool := kindsFit ks && strengthFits s ks && mannerFits m ks
def ix (l : List T) (k : T) : Nat := l.idxOf k + 1
theorem kn_name : ∀ k ∈ KN, Kwc.nameOf Kwc.kinds (ix KN k) = k := by decide
theorem kn_rng : ∀ k ∈ KN, 1 ≤ ix KN k ∧ ix KN k ≤ 19 := by decide
theorem kn_rain : ∀ k ∈ KN, Kwc.rain (ix KN k) = RAIN.contains k := by decide
theorem kn_fg : ∀ k ∈ KN, (ix KN k == 9) = (k == Kwc.text "FG") := by decide
theorem kn_sds : ∀ k ∈ KN, (ix KN k == 3 || ix KN k == 12 || ix KN k == 13) = [Kwc.text "SN", Kwc.text "DU", Kwc.text "SA"].contains k := by decide
theorem kn_dr : ∀ k ∈ KN, (ix KN k == 1 || ix KN k == 2) = [Kwc.text "DZ", Kwc.text "RA"].contains k := by decide
theorem kn_inj {k j : T} (hk : k ∈ KN) (hj : j ∈ KN) (e : ix KN k = ix KN j) : k = j := by
  rw [← kn_name k hk, ← kn_name j hj, e]
theorem kn_beq {k j : T} (hk : k ∈ KN) (hj : j ∈ KN) : (ix KN k == ix KN j) = (k == j) := by
  by_cases e : k = j
  · subst e
    rw [beq_self_eq_true, beq_self_eq_true]
  · have : ix KN k ≠ ix KN j := fun q => e (kn_inj hk hj q)
    rw [beq_eq_false_iff_ne.mpr this, beq_eq_false_iff_ne.mpr e]
theorem contains_kn {k : T} (hk : k ∈ KN) : ∀ {l : List T}, (∀ x ∈ l, x ∈ KN) → (l.map (ix KN)).contains (ix KN k) = l.contains k
  | [], _ => rfl
  | x :: l, h => by
    rw [List.map_cons, List.contains_cons, List.contains_cons, contains_kn hk fun y hy => h y (by simp [hy]), kn_beq hk (h x (by simp))]
theorem noTw_kn : ∀ {l : List T}, (∀ x ∈ l, x ∈ KN) → Kwc.noTwice (l.map (ix KN)) = noTw l
  | [], _ => rfl
  | x :: l, h => by
    have hl : ∀ y ∈ l, y ∈ KN := fun y hy => h y (by simp [hy])
    rw [List.map_cons, Kwc.noTwice, noTw, contains_kn (h x (by simp)) hl, noTw_kn hl]
theorem allRain_kn : ∀ {l : List T}, (∀ x ∈ l, x ∈ KN) → (l.map (ix KN)).all Kwc.rain = allRain l
  | [], _ => rfl
  | x :: l, h => by
    have hl : ∀ y ∈ l, y ∈ KN := fun y hy => h y (by simp [hy])
    have ih := allRain_kn hl
    unfold allRain at ih ⊢
    rw [List.map_cons, List.all_cons, List.all_cons, ih, kn_rain x (h x (by simp))]
theorem rng_kn : ∀ {l : List T}, (∀ x ∈ l, x ∈ KN) → ((l.map (ix KN)).all fun k => decide (1 ≤ k) && decide (k ≤ 19)) = true := fun {l} h => by
  rw [List.all_map, List.all_eq_true]
  intro x hx
  have := kn_rng x (h x hx)
  simp [this.1, this.2]
def dname (d : Nat) : T := Kwc.nameOf Kwc.descs d
theorem kind_kn : ∀ i, i < 20 → 1 ≤ i → Kwc.nameOf Kwc.kinds i ∈ KN ∧ ix KN (Kwc.nameOf Kwc.kinds i) = i := by decide
set_option maxHeartbeats 1000000 in
theorem okWx_fits {s d : Nat} {ks : List T} (hs : s ≤ 2) (hd : d ≤ 8) (h : ∀ x ∈ ks, x ∈ KN) : Kwc.okWx ⟨s, d, ks.map (ix KN)⟩ = wxFits s (dname d) ks := by
  have hs' : decide (s ≤ 2) = true := by simp [hs]
  have hd' : decide (d ≤ 8) = true := by simp [hd]
  unfold Kwc.okWx wxFits
  simp only [hs', hd', rng_kn h, noTw_kn h, Bool.true_and, Bool.and_true, List.length_map]
  match ks, h with
  | [], _ =>
    have e1 : kindsFit [] = true := rfl
    simp only [List.map_nil, e1, noTw, Bool.true_and]
    have : ∀ d, d < 9 → ∀ s, s < 3 → (decide (([] : List T).length ≤ 3) && true && (d == 7 && s == 1)) = (strengthFits s [] && mannerFits (dname d) []) := by decide
    exact this d (by omega) s (by omega)
  | k :: l, h =>
    have hk : k ∈ KN := h k (by simp)
    have hl : ∀ y ∈ l, y ∈ KN := fun y hy => h y (by simp [hy])
    have hc : ((k :: l).map (ix KN)).contains 1 = (k :: l).contains (Kwc.text "DZ") := contains_kn (k := Kwc.text "DZ") (by decide) h
    have hr := kn_rain k hk
    have hrl := allRain_kn hl
    have hmt : (l.map (ix KN)).isEmpty = l.isEmpty := by cases l <;> rfl
    have hfg := kn_fg k hk
    have hsds := kn_sds k hk
    have hdr := kn_dr k hk
    have hfgl : (k :: l == [Kwc.text "FG"]) = (k == Kwc.text "FG" && l.isEmpty) := by cases l <;> simp
    have hall : allRain (k :: l) = (RAIN.contains k && allRain l) := rfl
    have hl1 : ((k :: l).length == 1) = l.isEmpty := by cases l <;> simp
    have hl2 : decide ((k :: l).length < 2) = l.isEmpty := by cases l <;> simp
    have hl0 : ¬ ((k :: l).length = 0) := by simp
    have hl0' : decide (0 < (k :: l).length) = true := by simp
    have e1 : kindsFit (k :: l) = (decide ((k :: l).length ≤ 3) && noTw (k :: l) && (l.isEmpty || (RAIN.contains k && allRain l))) := by
      unfold kindsFit
      rw [hl2, hall]
      by_cases a : (k :: l).length ≤ 3
      · by_cases b : noTw (k :: l) = true
        · rw [if_neg (fun q => by
            rcases q with q | q
            · omega
            · rw [b] at q; cases q), decide_eq_true a, b, Bool.true_and, Bool.true_and]
        · have b' : noTw (k :: l) = false := by simpa using b
          rw [if_pos (.inr b'), b', Bool.and_false, Bool.false_and]
      · rw [if_pos (.inl (by omega)), decide_eq_false a, Bool.false_and, Bool.false_and]
    rw [e1]
    unfold strengthFits
    have hER : l.isEmpty = true → allRain l = true := fun e => by
      have : l = [] := List.isEmpty_iff.mp e
      subst this; rfl
    have m0 : mannerFits (dname 0) (k :: l) = true := rfl
    have m1 : ∀ d, d = 1 ∨ d = 2 ∨ d = 3 → mannerFits (dname d) (k :: l) = (k == Kwc.text "FG" && l.isEmpty) := fun d h => by
      rw [← hfgl]
      rcases h with rfl | rfl | rfl <;> rfl
    have m4 : ∀ d, d = 4 ∨ d = 5 → mannerFits (dname d) (k :: l) = (l.isEmpty && [Kwc.text "SN", Kwc.text "DU", Kwc.text "SA"].contains k) := fun d h => by
      rw [← hl1]
      rcases h with rfl | rfl <;> rfl
    have m6 : mannerFits (dname 6) (k :: l) = ((RAIN.contains k && allRain l) && !((k :: l).contains (Kwc.text "DZ"))) := rfl
    have m7 : mannerFits (dname 7) (k :: l) = (RAIN.contains k && allRain l) := rfl
    have m8 : mannerFits (dname 8) (k :: l) = ([Kwc.text "DZ", Kwc.text "RA"].contains k || (k == Kwc.text "FG" && l.isEmpty)) := by
      rw [← hfgl]; rfl
    simp only [List.map_cons, hr, hrl, hmt, List.headD_cons, hl0', Bool.true_and]
    rw [List.map_cons] at hc
    generalize (decide ((k :: l).length ≤ 3) && noTw (k :: l)) = AN
    have hd9 : d = 0 ∨ (d = 1 ∨ d = 2 ∨ d = 3) ∨ (d = 4 ∨ d = 5) ∨ d = 6 ∨ d = 7 ∨ d = 8 := by omega
    rcases hd9 with rfl | h1 | h4 | rfl | rfl | rfl
    · rw [m0]
      generalize RAIN.contains k = R; generalize (s == 1) = S1; generalize allRain l = AR; generalize l.isEmpty = E
      cases AN <;> cases R <;> cases S1 <;> cases AR <;> cases E <;> rfl
    · rw [m1 d h1, ← hfg]
      rcases h1 with rfl | rfl | rfl
      all_goals
        simp only
        generalize RAIN.contains k = R; generalize (s == 1) = S1; generalize allRain l = AR; generalize l.isEmpty = E; generalize (ix KN k == 9) = F
        cases AN <;> cases R <;> cases S1 <;> cases AR <;> cases E <;> cases F <;> rfl
    · rw [m4 d h4, ← hsds]
      rcases h4 with rfl | rfl
      all_goals
        simp only
        generalize (ix KN k == 3 || ix KN k == 12 || ix KN k == 13) = F
        generalize RAIN.contains k = R; generalize (s == 1) = S1; generalize allRain l = AR; generalize l.isEmpty = E
        cases AN <;> cases R <;> cases S1 <;> cases AR <;> cases E <;> cases F <;> rfl
    · rw [m6]
      simp only [hc]
      revert hER
      generalize RAIN.contains k = R; generalize (s == 1) = S1; generalize allRain l = AR; generalize l.isEmpty = E; generalize (k :: l).contains (Kwc.text "DZ") = D
      cases AN <;> cases R <;> cases S1 <;> cases AR <;> cases E <;> cases D <;> simp
    · rw [m7]
      revert hER
      simp only
      generalize RAIN.contains k = R; generalize (s == 1) = S1; generalize allRain l = AR; generalize l.isEmpty = E
      cases AN <;> cases R <;> cases S1 <;> cases AR <;> cases E <;> simp
    · rw [m8, ← hfg, ← hdr]
      simp only
      generalize (ix KN k == 1) = D1; generalize (ix KN k == 2) = D2; generalize (ix KN k == 9) = D9
      generalize RAIN.contains k = R; generalize (s == 1) = S1; generalize allRain l = AR; generalize l.isEmpty = E
      cases AN <;> cases R <;> cases S1 <;> cases AR <;> cases E <;> cases D1 <;> cases D2 <;> cases D9 <;> rfl
def signW (s : Nat) : T := if s = 0 then Kwc.text "-" else if s = 2 then Kwc.text "+" else []
theorem wxWord_eq (x : Wx) : Kwc.wxWord x = signW x.strength ++ (dname x.desc ++ x.kinds.flatMap (Kwc.nameOf Kwc.kinds)) := by
  unfold Kwc.wxWord signW dname; rw [List.append_assoc]
theorem kinds_names : ∀ {l : List Nat}, (l.all fun k => decide (1 ≤ k) && decide (k ≤ 19)) = true → (∀ x ∈ l.map (Kwc.nameOf Kwc.kinds), x ∈ KN) ∧ (l.map (Kwc.nameOf Kwc.kinds)).map (ix KN) = l
  | [], _ => ⟨by simp, rfl⟩
  | k :: l, h => by
    rw [List.all_cons, Bool.and_eq_true] at h
    obtain ⟨h1, h2⟩ := kinds_names h.2
    have hk : 1 ≤ k ∧ k ≤ 19 := by simpa using h.1
    obtain ⟨a, b⟩ := kind_kn k (by omega) hk.1
    refine ⟨fun x hx => ?_, ?_⟩
    · rw [List.map_cons, List.mem_cons] at hx
      rcases hx with rfl | hx
      · exact a
      · exact h1 x hx
    · rw [List.map_cons, List.map_cons, h2, b]
end My
end
section
set_option linter.all false
set_option autoImplicit false
namespace My
open Kwc (Bytes Wind Wx Cloud Sky Change Report one many)
def follows (cs : List Cloud) (c : Cloud) : Bool := match cs.getLast? with
  | none => true
  | some b => decide (cs.length < 4) && (b.amount != 4 && decide (b.height ≤ c.height))
def rngC (c : Cloud) : Bool := decide (1 ≤ c.amount) && decide (c.amount ≤ 4) && decide (c.height ≤ 300) && decide (c.kind ≤ 2)
theorem okLayers_snoc : ∀ (cs : List Cloud) (h : Nat) (c : Cloud), Kwc.okLayers h cs = true → rngC c = true → (∀ b, cs.getLast? = some b → b.amount ≠ 4 ∧ b.height ≤ c.height) → (cs = [] → h ≤ c.height) → Kwc.okLayers h (cs ++ [c]) = true
  | [], h, c, _, hr, _, h0 => by
    have h1 := h0 rfl
    simp [rngC] at hr
    simp [Kwc.okLayers, hr, h1]
  | [b], h, c, hb, hr, hl, _ => by
    have h1 := hl b rfl
    simp [rngC] at hr
    simp [Kwc.okLayers] at hb
    simp [Kwc.okLayers, hr, h1, hb]
  | b :: b2 :: cs, h, c, hb, hr, hl, _ => by
    have ih := okLayers_snoc (b2 :: cs) b.height c (by
      rw [Kwc.okLayers] at hb
      simp only [Bool.and_eq_true] at hb
      exact hb.2) hr (fun x hx => hl x (by simpa using hx)) (fun q => by cases q)
    rw [List.cons_append, Kwc.okLayers]
    rw [Kwc.okLayers] at hb
    simp only [Bool.and_eq_true] at hb ⊢
    exact ⟨hb.1, ih⟩
theorem okLayers_mid : ∀ (acc : List Cloud) (h : Nat) (c : Cloud) (n : List Cloud), Kwc.okLayers h (acc ++ c :: n) = true → rngC c = true ∧ (∀ b, acc.getLast? = some b → b.amount ≠ 4 ∧ b.height ≤ c.height)
  | [], h, c, n, hb => by
    simp [Kwc.okLayers] at hb
    refine ⟨by simp [rngC]; omega, by simp⟩
  | [b], h, c, n, hb => by
    simp [Kwc.okLayers] at hb
    refine ⟨by simp [rngC]; omega, fun x hx => ?_⟩
    have : b = x := by simpa using hx
    subst this; omega
  | b :: b2 :: acc, h, c, n, hb => by
    have ih := okLayers_mid (b2 :: acc) b.height c n (by
      rw [List.cons_append, Kwc.okLayers] at hb
      simp only [Bool.and_eq_true] at hb
      exact hb.2)
    exact ⟨ih.1, fun x hx => ih.2 x (by simpa using hx)⟩
theorem okSky_layers {cs : List Cloud} (h : Kwc.okSky (.layers cs) = true) : cs ≠ [] ∧ cs.length ≤ 4 ∧ Kwc.okLayers 0 cs = true := by
  simp [Kwc.okSky] at h
  exact ⟨h.1.1, h.1.2, h.2⟩
end My
end
section
set_option linter.all false
set_option autoImplicit false
namespace My
open Kwc (Bytes Wind Wx Cloud Sky Change Report one many)
end My
end
section
set_option linter.all false
set_option autoImplicit false
namespace My
open Kwc (Bytes Wind Wx Cloud Sky Change Report one many listOf)
end My
end
section
set_option linter.all false
set_option autoImplicit false
namespace My
open Kwc (Bytes Wind Wx Cloud Sky Change Report one many listOf just readClock readWind readSight readWx readUp readCloud readSky)
end My
end
section
set_option linter.all false
set_option autoImplicit false
namespace My
open Kwc (Bytes Wind Wx Cloud Sky Change Report one many listOf just readClock readWind readSight readWx readUp readCloud readSky)
structure ROk (r : Report) : Prop where
  st4 : r.station.length = 4
  stL : r.station.all Kwc.letter = true
  d1 : 1 ≤ r.day
  d31 : r.day ≤ 31
  h23 : r.hour ≤ 23
  m59 : r.minute ≤ 59
  wind : Kwc.okWind true r.wind = true
  sight : (r.sight == Kwc.cavok || Kwc.okSight r.sight) = true
  wx3 : r.wx.length ≤ 3
  wx : r.wx.all Kwc.okWx = true
  sky : Kwc.okSky r.sky = true
  cav : (r.sight != Kwc.cavok || (r.wx.isEmpty && Kwc.isClear r.sky)) = true
  t : Kwc.okDegrees r.temp = true
  dw : Kwc.okDegrees r.dew = true
  le : r.dew ≤ r.temp
  p1 : 850 ≤ r.press
  p2 : r.press ≤ 1100
  t2 : r.trend ≤ 2
  ch : r.changes.all Kwc.okChange = true
  cn : (if r.trend = 2 then decide (1 ≤ r.changes.length) && decide (r.changes.length ≤ 3) else r.changes.isEmpty) = true
theorem rok {r : Report} (h : Kwc.ok r = true) : ROk r := by
  unfold Kwc.ok at h
  simp only [Bool.and_eq_true] at h
  obtain ⟨⟨⟨⟨⟨⟨⟨⟨⟨⟨⟨⟨⟨⟨⟨⟨⟨⟨⟨h1, h2⟩, h3⟩, h4⟩, h5⟩, h6⟩, h7⟩, h8⟩, h9⟩, h10⟩, h11⟩, h12⟩, h13⟩, h14⟩, h15⟩, h16⟩, h17⟩, h18⟩, h19⟩, h20⟩ := h
  exact ⟨by simpa using h1, h2, by simpa using h3, by simpa using h4, by simpa using h5, by simpa using h6, h7, h8, by simpa using h9, h10, h11, h12, h13, h14, by simpa using h15, by simpa using h16, by simpa using h17, by simpa using h18, h19, h20⟩
abbrev timeW (r : Report) : T := Kwc.digits 2 r.day ++ Kwc.digits 2 r.hour ++ Kwc.digits 2 r.minute ++ Kwc.text "Z"
abbrev degW (r : Report) : T := Kwc.degrees r.temp ++ Kwc.text "/" ++ Kwc.degrees r.dew
abbrev prW (r : Report) : T := Kwc.text "Q" ++ Kwc.digits 4 r.press
abbrev midL (r : Report) : List T := if r.sight = Kwc.cavok then [] else r.wx.map Kwc.wxWord ++ Kwc.skyWords r.sky
theorem wordsOf_eq (r : Report) : Kwc.wordsOf r = r.station :: timeW r :: Kwc.windWord r.wind :: (Kwc.sector r.wind ++ (Kwc.sightWord r.sight :: (midL r ++ (degW r :: prW r :: Kwc.trendWords r)))) := by
  unfold Kwc.wordsOf; simp
def wsign (b : Nat) : Bool := b == 43 || b == 45 || b == 47 || isD b || Kwc.letter b
def sign (b : Nat) : Bool := b == 32 || b == 61 || wsign b
end My
end
section
set_option linter.all false
set_option autoImplicit false
namespace My
open Kwc (Bytes Wind Wx Cloud Sky Change Report From aNat times counted aWx aCloud aSky orNot aWind aChange reportOf)
def tk (lo hi : Int) : From Int
  | z :: r => if lo ≤ z ∧ z ≤ hi then some (z, r) else none
  | [] => none
def tkN (lo hi : Nat) : From Nat := fun l => (aNat l).bind fun x => if lo ≤ x.1 ∧ x.1 ≤ hi then some x else none
theorem tk_nat (lo hi : Nat) (l : List Int) : tk lo hi l = (tkN lo hi l).map fun x => ((x.1 : Int), x.2) := by
  cases l with
  | nil => rfl
  | cons z r =>
    show (if (lo : Int) ≤ z ∧ z ≤ hi then some (z, r) else none) = ((if 0 ≤ z then some (z.toNat, r) else none).bind fun x => if lo ≤ x.1 ∧ x.1 ≤ hi then some x else none).map fun x => ((x.1 : Int), x.2)
    by_cases h : 0 ≤ z
    · obtain ⟨n, rfl⟩ := Int.eq_ofNat_of_zero_le h
      rw [if_pos h]
      simp only [Option.bind_some, Int.toNat_natCast]
      by_cases q : lo ≤ n ∧ n ≤ hi
      · rw [if_pos q, if_pos (by omega)]; rfl
      · rw [if_neg q, if_neg (by omega)]; rfl
    · rw [if_neg h, if_neg (by omega)]; rfl
def Tells {A W : Type} (t : From W) (a : From A) (ok : A → Bool) (wd : A → W) : Prop := ∀ l, t l = (a l).bind fun x => if ok x.1 = true then some (wd x.1, x.2) else none
theorem Tells.hit {A W : Type} {t : From W} {a : From A} {ok : A → Bool} {wd : A → W} (h : Tells t a ok wd) {l r : List Int} {x : A} (e : a l = some (x, r)) (o : ok x = true) : t l = some (wd x, r) := by
  rw [h l, e]; simp [o]
theorem Tells.off {A W : Type} {t : From W} {a : From A} {ok : A → Bool} {wd : A → W} (h : Tells t a ok wd) {l r : List Int} {x : A} (e : a l = some (x, r)) (o : ok x = false) : t l = none := by
  rw [h l, e]; simp [o]
theorem Tells.no {A W : Type} {t : From W} {a : From A} {ok : A → Bool} {wd : A → W} (h : Tells t a ok wd) {l : List Int} (e : a l = none) : t l = none := by
  rw [h l, e]; rfl
theorem tells_times {A W : Type} {t : From W} {a : From A} {ok : A → Bool} {wd : A → W} (h : Tells t a ok wd) : ∀ n, Tells (times t n) (times a n) (fun xs => xs.all ok) (fun xs => xs.map wd)
  | 0 => fun l => rfl
  | n + 1 => fun l => by
    have ih := tells_times h n
    rw [Kwc.times, Kwc.times]
    cases e : a l with
    | none => rw [h.no e]; rfl
    | some x =>
      obtain ⟨x, r⟩ := x
      cases o : ok x with
      | false =>
        rw [h.off e o]
        simp only [Option.bind_none, Option.bind_some]
        cases e2 : times a n r with
        | none => rfl
        | some y => simp [o]
      | true =>
        rw [h.hit e o]
        simp only [Option.bind_some]
        rw [ih r]
        cases e2 : times a n r with
        | none => rfl
        | some y =>
          obtain ⟨y, r2⟩ := y
          simp only [Option.bind_some, Option.map_some, List.all_cons, o, Bool.true_and, List.map_cons]
          cases y.all ok <;> rfl
theorem times_len {A : Type} (f : From A) : ∀ (n : Nat) (l : List Int) (x : List A) (r : List Int), times f n l = some (x, r) → x.length = n
  | 0, l, x, r, h => by cases h; rfl
  | n + 1, l, x, r, h => by
    rw [Kwc.times] at h
    cases e : f l with
    | none => rw [e] at h; cases h
    | some y =>
      rw [e] at h
      simp only [Option.bind_some] at h
      cases e2 : times f n y.2 with
      | none => rw [e2] at h; cases h
      | some z => rw [e2] at h; cases h; simp [times_len f n _ _ _ e2]
theorem tells_counted {A W : Type} {t : From W} {a : From A} {ok : A → Bool} {wd : A → W} (h : Tells t a ok wd) {lo hi : Nat} (hh : hi ≤ 16) :
    Tells (fun l => (tkN lo hi l).bind fun n => times t n.1 n.2) (counted a) (fun xs => (decide (lo ≤ xs.length) && decide (xs.length ≤ hi)) && xs.all ok) (fun xs => xs.map wd) := fun l => by
  show (tkN lo hi l).bind (fun n => times t n.1 n.2) = _
  unfold tkN Kwc.counted
  cases e : aNat l with
  | none => rfl
  | some n =>
    obtain ⟨n, r⟩ := n
    simp only [Option.bind_some]
    by_cases q : lo ≤ n ∧ n ≤ hi
    · rw [if_pos q, if_pos (by omega)]
      simp only [Option.bind_some]
      rw [tells_times h n r]
      cases e2 : times a n r with
      | none => rfl
      | some y =>
        have := times_len a n r y.1 y.2 e2
        simp [this, q.1, q.2]
    · rw [if_neg q]
      simp only [Option.bind_none]
      by_cases q2 : n ≤ 16
      · rw [if_pos q2]
        cases e2 : times a n r with
        | none => rfl
        | some y =>
          have := times_len a n r y.1 y.2 e2
          simp only [Option.bind_some]
          rw [if_neg]
          simp only [this, Bool.and_eq_true, decide_eq_true_eq]
          exact fun z => q z.1
      · rw [if_neg q2]; rfl
theorem tells_map {A W V : Type} {t : From W} {a : From A} {ok : A → Bool} {wd : A → W} (h : Tells t a ok wd) (g : W → V) : Tells (fun l => (t l).map fun x => (g x.1, x.2)) a ok (fun x => g (wd x)) := fun l => by
  show (t l).map _ = _
  rw [h l]
  cases a l with
  | none => rfl
  | some x => simp only [Option.bind_some]; split <;> rfl
theorem tkN_tells (lo hi : Nat) : Tells (tkN lo hi) aNat (fun n => decide (lo ≤ n) && decide (n ≤ hi)) id := fun l => by
  unfold tkN
  cases aNat l with
  | none => rfl
  | some x => simp
theorem tells_orNot {A W : Type} {t : From (List W)} {a : From A} {ok : A → Bool} {wd : A → List W} (h : Tells t a ok wd) :
    Tells (fun l => if l.head? = some (-1) then some ([], l.tail) else t l) (orNot a) (Kwc.optional ok) (fun x => match x with | none => [] | some y => wd y) := fun l => by
  show (if l.head? = some (-1) then some ([], l.tail) else t l) = _
  by_cases q : l.head? = some (-1)
  · rw [if_pos q]
    cases l with
    | nil => cases q
    | cons z r =>
      have : z = -1 := by simpa using q
      subst this
      rfl
  · rw [if_neg q]
    have e : orNot a l = (a l).map fun x => (some x.1, x.2) := by
      unfold Kwc.orNot
      split
      · simp at q
      · rfl
    rw [e, h l]
    cases a l with
    | none => rfl
    | some x => rfl
def tlSight : From T := fun l => (tkN 0 10000 l).bind fun m => if m.1 = 10000 then some (Kwc.text "CAVOK", m.2) else if metresFit m.1 = true then some (Kwc.digits 4 m.1, m.2) else none
theorem sight_tells : Tells tlSight aNat (fun n => n == Kwc.cavok || Kwc.okSight n) Kwc.sightWord := fun l => by
  unfold tlSight tkN
  cases aNat l with
  | none => rfl
  | some x =>
    obtain ⟨n, r⟩ := x
    simp only [Option.bind_some]
    unfold Kwc.sightWord
    by_cases h : n = 10000
    · subst h; rfl
    · have hc : (n == Kwc.cavok) = false := by simpa [Kwc.cavok] using h
      have hc' : ¬ n = Kwc.cavok := by simpa [Kwc.cavok] using h
      rw [hc, Bool.false_or, ← metresFit_eq, if_neg hc']
      by_cases q : 0 ≤ n ∧ n ≤ 10000
      · rw [if_pos q]
        simp only [Option.bind_some]
        rw [if_neg h]
      · rw [if_neg q]
        simp only [Option.bind_none]
        rw [if_neg]
        unfold metresFit
        rw [if_neg (by omega), if_neg (by omega)]
        simp; omega
def fitWind : From (Nat × Nat × Nat) := fun l => (tkN 0 999 l).bind fun d => if (d.1 == 0 || d.1 == 999 || Kwc.tens d.1) = true then (tkN 0 99 d.2).bind fun s => (tkN 0 99 s.2).bind fun g => if windFits d.1 s.1 g.1 = true then some ((d.1, s.1, g.1), g.2) else none else none
theorem okWind_iff (b : Bool) (d s g : Nat) : Kwc.okWind b ⟨d, s, g, 999, 999⟩ = (decide (d ≤ 999) && (d == 0 || d == 999 || Kwc.tens d) && decide (s ≤ 99) && decide (g ≤ 99) && windFits d s g) := by
  unfold Kwc.okWind windFits
  rw [Bool.eq_iff_iff]
  have ht : ∀ d, Kwc.tens d = true → 10 ≤ d ∧ d ≤ 360 := fun d h => by unfold Kwc.tens at h; simp at h; omega
  by_cases hs : s = 0
  · subst hs
    simp
    rintro rfl rfl
    simp
  · simp [hs]
    constructor
    · rintro ⟨⟨h1, h2⟩, h3⟩
      rcases h3 with rfl | h3
      · refine ⟨⟨⟨⟨by omega, by simp⟩, h1⟩, by omega⟩, by simp, by omega⟩
      · have := ht d h3
        refine ⟨⟨⟨⟨by omega, .inr h3⟩, h1⟩, by omega⟩, by omega, by omega⟩
    · rintro ⟨⟨⟨⟨h0, h1⟩, h2⟩, h3⟩, h4, h5⟩
      refine ⟨⟨h2, by omega⟩, ?_⟩
      rcases h1 with (h1 | h1) | h1
      · omega
      · exact .inl h1
      · exact .inr h1
end My
end
section
set_option linter.all false
set_option autoImplicit false
namespace My
open Kwc (Bytes Wind Wx Cloud Sky Change Report From aNat times counted aWx aCloud aSky orNot aWind aChange reportOf)
theorem Tells.inv {A W : Type} {t : From W} {a : From A} {ok : A → Bool} {wd : A → W} (h : Tells t a ok wd) {l r : List Int} {y : W} (e : t l = some (y, r)) : ∃ x, a l = some (x, r) ∧ ok x = true ∧ wd x = y := by
  rw [h l] at e
  cases q : a l with
  | none => rw [q] at e; cases e
  | some x =>
    obtain ⟨x, r'⟩ := x
    rw [q] at e
    simp only [Option.bind_some] at e
    split at e
    · rename_i o
      cases e
      exact ⟨x, rfl, o, rfl⟩
    · cases e
theorem times_add {A : Type} (f : From A) (n : Nat) : ∀ (m : Nat) (l : List Int), times f (m + n) l = (times f m l).bind fun x => (times f n x.2).map fun y => (x.1 ++ y.1, y.2)
  | 0, l => by
    rw [Nat.zero_add]
    show _ = (times f n l).map fun y => ([] ++ y.1, y.2)
    cases times f n l <;> rfl
  | m + 1, l => by
    rw [show m + 1 + n = (m + n) + 1 from by omega, Kwc.times, Kwc.times]
    cases e : f l with
    | none => rfl
    | some x =>
      simp only [Option.bind_some]
      rw [times_add f n m x.2]
      cases times f m x.2 with
      | none => rfl
      | some y =>
        simp only [Option.bind_some, Option.map_some]
        cases times f n y.2 <;> rfl
theorem times1 {A : Type} (f : From A) (l : List Int) : times f 1 l = (f l).map fun x => ([x.1], x.2) := by
  rw [Kwc.times]
  cases f l <;> rfl
theorem times2 {A : Type} (f : From A) (l : List Int) : times f 2 l = (f l).bind fun x => (f x.2).map fun y => ([x.1, y.1], y.2) := by
  rw [Kwc.times]
  cases f l with
  | none => rfl
  | some x => simp only [Option.bind_some]; rw [times1]; cases f x.2 <;> rfl
theorem times3 {A : Type} (f : From A) (l : List Int) : times f 3 l = (f l).bind fun x => (f x.2).bind fun y => (f y.2).map fun z => ([x.1, y.1, z.1], z.2) := by
  rw [Kwc.times]
  cases f l with
  | none => rfl
  | some x => simp only [Option.bind_some]; rw [times2]; cases f x.2 with
    | none => rfl
    | some y => simp only [Option.bind_some]; cases f y.2 <;> rfl
abbrev w3 (a : List Nat) : Wind := ⟨a.getD 0 0, a.getD 1 0, a.getD 2 0, 999, 999⟩
theorem fit_tells : Tells fitWind (times aNat 3) (fun a => Kwc.okWind false (w3 a)) (fun a => (a.getD 0 0, a.getD 1 0, a.getD 2 0)) := fun l => by
  unfold fitWind tkN
  rw [times3]
  cases e1 : aNat l with
  | none => rfl
  | some d =>
    obtain ⟨d, r1⟩ := d
    simp only [Option.bind_some]
    have key : ∀ cb : Bool, (d == 0 || d == 999 || Kwc.tens d) = cb → (if 0 ≤ d ∧ d ≤ 999 then some (d, r1) else none).bind (fun d => if (d.1 == 0 || d.1 == 999 || Kwc.tens d.1) = true then ((aNat d.2).bind fun x => if 0 ≤ x.1 ∧ x.1 ≤ 99 then some x else none).bind fun s => ((aNat s.2).bind fun x => if 0 ≤ x.1 ∧ x.1 ≤ 99 then some x else none).bind fun g => if windFits d.1 s.1 g.1 = true then some ((d.1, s.1, g.1), g.2) else none else none) =
        if d ≤ 999 then if cb = true then ((aNat r1).bind fun x => if 0 ≤ x.1 ∧ x.1 ≤ 99 then some x else none).bind fun s => ((aNat s.2).bind fun x => if 0 ≤ x.1 ∧ x.1 ≤ 99 then some x else none).bind fun g => if windFits d s.1 g.1 = true then some ((d, s.1, g.1), g.2) else none else none else none := by
      intro cb hcb
      by_cases h1 : d ≤ 999
      · rw [if_pos ⟨Nat.zero_le _, h1⟩, if_pos h1]
        simp only [Option.bind_some, hcb]
      · rw [if_neg (fun z => h1 z.2), if_neg h1]; rfl
    refine (key _ rfl).trans ?_
    cases e2 : aNat r1 with
    | none =>
      simp only [Option.bind_none]
      split
      · split <;> rfl
      · rfl
    | some s =>
      obtain ⟨s, r2⟩ := s
      simp only [Option.bind_some]
      cases e3 : aNat r2 with
      | none =>
        simp only [Option.map_none, Option.bind_none]
        have z : ((if 0 ≤ s ∧ s ≤ 99 then some (s, r2) else none).bind fun s => ((aNat s.2).bind fun x => if 0 ≤ x.1 ∧ x.1 ≤ 99 then some x else none).bind fun g => if windFits d s.1 g.1 = true then some ((d, s.1, g.1), g.2) else none) = none := by
          by_cases h3 : s ≤ 99
          · rw [if_pos ⟨Nat.zero_le _, h3⟩]
            simp only [Option.bind_some, e3, Option.bind_none]
          · rw [if_neg (fun z => h3 z.2)]; rfl
        rw [z]
        split
        · split <;> rfl
        · rfl
      | some g =>
        obtain ⟨g, r3⟩ := g
        simp only [Option.map_some, Option.bind_some]
        have ew : Kwc.okWind false (w3 [d, s, g]) = _ := okWind_iff false d s g
        rw [ew]
        show _ = if _ then some ((d, s, g), r3) else none
        generalize hcb : (d == 0 || d == 999 || Kwc.tens d) = cb
        by_cases h1 : d ≤ 999
        · cases cb with
          | false => simp [h1]
          | true =>
            by_cases h3 : s ≤ 99
            · by_cases h4 : g ≤ 99
              · simp [h1, h3, e3, h4]
              · simp [h1, h3, e3, h4]
            · simp [h1, h3]
        · simp [h1]
abbrev w5 (a : List Nat) : Wind := ⟨a.getD 0 0, a.getD 1 0, a.getD 2 0, a.getD 3 0, a.getD 4 0⟩
def tlSector (d s : Nat) : From (List T) := fun l => (tkN 0 999 l).bind fun a => (tkN 0 999 a.2).bind fun b => if a.1 = 999 ∧ b.1 = 999 then some ([], b.2) else
  if (d ≠ 999 ∧ s ≠ 0) ∧ a.1 ≠ b.1 then if Kwc.tens a.1 = true ∧ Kwc.tens b.1 = true then some ([Kwc.digits 3 a.1 ++ Kwc.text "V" ++ Kwc.digits 3 b.1], b.2) else none else none
def wText (w : Nat × Nat × Nat) : T := Kwc.windWord ⟨w.1, w.2.1, w.2.2, 999, 999⟩
def tlWindSector : From (List T) := fun l => (fitWind l).bind fun w => (tlSector w.1.1 w.1.2.1 w.2).map fun x => (wText w.1 :: x.1, x.2)
theorem okWind5 (d s g a b : Nat) : Kwc.okWind true ⟨d, s, g, a, b⟩ = (Kwc.okWind false ⟨d, s, g, 999, 999⟩ && (if a = 999 then b == 999 else s != 0 && d != 999 && Kwc.tens a && Kwc.tens b && a != b)) := by
  unfold Kwc.okWind
  simp [Bool.and_assoc]
theorem tens_rng {n : Nat} (h : Kwc.tens n = true) : 10 ≤ n ∧ n ≤ 360 := by
  unfold Kwc.tens at h; simp at h; omega
theorem ws_tells : Tells tlWindSector (times aNat 5) (fun a => Kwc.okWind true (w5 a)) (fun a => Kwc.windWord (w5 a) :: Kwc.sector (w5 a)) := fun l => by
  unfold tlWindSector
  rw [show (5 : Nat) = 3 + 2 from rfl, times_add]
  cases e1 : times aNat 3 l with
  | none => rw [fit_tells.no e1]; rfl
  | some x =>
    obtain ⟨x, r⟩ := x
    have hx := times_len _ _ _ _ _ e1
    match x, hx, e1 with
    | [d, s, g], _, e1 =>
    simp only [Option.bind_some]
    rw [times2]
    cases o : Kwc.okWind false (w3 [d, s, g]) with
    | false =>
      rw [fit_tells.off e1 o]
      simp only [Option.bind_none]
      cases aNat r with
      | none => rfl
      | some a =>
        simp only [Option.bind_some]
        cases aNat a.2 with
        | none => rfl
        | some b =>
          simp only [Option.map_some, Option.bind_some]
          have : Kwc.okWind true (w5 ([d, s, g] ++ [a.1, b.1])) = false := by
            show Kwc.okWind true ⟨d, s, g, a.1, b.1⟩ = false
            rw [okWind5, show Kwc.okWind false ⟨d, s, g, 999, 999⟩ = false from o]; rfl
          rw [this]; rfl
    | true =>
      rw [fit_tells.hit e1 o]
      simp only [Option.bind_some]
      show (tlSector d s r).map _ = _
      unfold tlSector tkN
      cases e2 : aNat r with
      | none => rfl
      | some a =>
        obtain ⟨a, r2⟩ := a
        simp only [Option.bind_some]
        cases e3 : aNat r2 with
        | none =>
          simp only [Option.map_none, Option.bind_none]
          by_cases h1 : a ≤ 999 <;> simp [h1, e3]
        | some b =>
          obtain ⟨b, r3⟩ := b
          simp only [Option.map_some, Option.bind_some]
          have ew : Kwc.okWind true (w5 ([d, s, g] ++ [a, b])) = (if a = 999 then b == 999 else s != 0 && d != 999 && Kwc.tens a && Kwc.tens b && a != b) := by
            show Kwc.okWind true ⟨d, s, g, a, b⟩ = _
            rw [okWind5, show Kwc.okWind false ⟨d, s, g, 999, 999⟩ = true from o, Bool.true_and]
          rw [ew]
          show _ = if _ then some (Kwc.windWord ⟨d, s, g, a, b⟩ :: Kwc.sector ⟨d, s, g, a, b⟩, r3) else none
          have eww : Kwc.windWord ⟨d, s, g, a, b⟩ = wText (d, s, g) := rfl
          rw [eww]
          unfold Kwc.sector
          by_cases h1 : a = 999
          · subst h1
            by_cases h2 : b = 999
            · subst h2
              simp [e3]
            · by_cases h3 : b ≤ 999
              · have ht : Kwc.tens 999 = false := by decide
                simp [e3, h2, h3, ht]
              · simp [e3, h2, h3]
          · by_cases h2 : a ≤ 999
            · by_cases h3 : b ≤ 999
              · simp only [h1, if_false, false_and]
                by_cases hd : d = 999
                · simp [h2, e3, h3, h1, hd]
                · by_cases hs : s = 0
                  · simp [h2, e3, h3, h1, hs]
                  · by_cases hab : a = b
                    · subst hab
                      simp [h2, e3, h3, h1, hs, hd]
                    · cases hta : Kwc.tens a <;> cases htb : Kwc.tens b <;> simp [h2, e3, h3, h1, hs, hd, hab, hta, htb]
              · have htb : Kwc.tens b = false := by
                  cases q : Kwc.tens b with
                  | false => rfl
                  | true => have := tens_rng q; omega
                simp [h2, e3, h3, h1, htb]
            · have hta : Kwc.tens a = false := by
                cases q : Kwc.tens a with
                | false => rfl
                | true => have := tens_rng q; omega
              simp [h2, h1, hta]
end My
end
section
set_option linter.all false
set_option autoImplicit false
namespace My
open Kwc (Bytes Wind Wx Cloud Sky Change Report From aNat times counted aWx aCloud aSky orNot aWind aChange reportOf)
abbrev nmK (k : Nat) : T := Kwc.nameOf Kwc.kinds k
def tlWx : From T := fun l => (tkN 0 2 l).bind fun s => (tkN 0 8 s.2).bind fun d => ((tkN 0 3 d.2).bind fun n => times (tkN 1 19) n.1 n.2).bind fun ks =>
  if wxFits s.1 (dname d.1) (ks.1.map nmK) = true then some (signW s.1 ++ (dname d.1 ++ (ks.1.map nmK).flatten), ks.2) else none
def rng19 (k : Nat) : Bool := decide (1 ≤ k) && decide (k ≤ 19)
theorem okWx_parts {s d : Nat} {ns : List Nat} (h : Kwc.okWx ⟨s, d, ns⟩ = true) : s ≤ 2 ∧ d ≤ 8 ∧ ns.length ≤ 3 ∧ ns.all rng19 = true := by
  unfold Kwc.okWx at h
  simp only [Bool.and_eq_true] at h
  obtain ⟨⟨⟨⟨⟨h1, h2⟩, h3⟩, h4⟩, h5⟩, h6⟩ := h
  exact ⟨by simpa using h1, by simpa using h2, by simpa using h3, h4⟩
theorem okWx_num {s d : Nat} {ns : List Nat} (hs : s ≤ 2) (hd : d ≤ 8) (h : ns.all rng19 = true) : Kwc.okWx ⟨s, d, ns⟩ = wxFits s (dname d) (ns.map nmK) := by
  obtain ⟨h1, h2⟩ := kinds_names (l := ns) h
  have := okWx_fits hs hd h1
  rw [h2] at this
  exact this
theorem kinds_tell : Tells (fun l => (tkN 0 3 l).bind fun n => times (tkN 1 19) n.1 n.2) (counted aNat) (fun xs => (decide (0 ≤ xs.length) && decide (xs.length ≤ 3)) && xs.all rng19) (fun xs => xs.map id) := tells_counted (tkN_tells 1 19) (by decide)
theorem wx_tells : Tells tlWx aWx Kwc.okWx Kwc.wxWord := fun l => by
  unfold tlWx Kwc.aWx
  rw [times2]
  cases e1 : aNat l with
  | none => unfold tkN; rw [e1]; rfl
  | some s =>
    obtain ⟨s, r1⟩ := s
    simp only [Option.bind_some]
    have t1 : tkN 0 2 l = if s ≤ 2 then some (s, r1) else none := by unfold tkN; rw [e1]; simp
    rw [t1]
    cases e2 : aNat r1 with
    | none =>
      simp only [Option.map_none, Option.bind_none]
      have t2 : tkN 0 8 r1 = none := by unfold tkN; rw [e2]; rfl
      split
      · simp only [Option.bind_some, t2, Option.bind_none]
      · rfl
    | some d =>
      obtain ⟨d, r2⟩ := d
      simp only [Option.map_some, Option.bind_some]
      have t2 : tkN 0 8 r1 = if d ≤ 8 then some (d, r2) else none := by unfold tkN; rw [e2]; simp
      cases e3 : counted aNat r2 with
      | none =>
        have t3 := kinds_tell.no e3
        simp only [Option.map_none, Option.bind_none]
        split
        · simp only [Option.bind_some, t2]
          split
          · simp only [Option.bind_some]
            have t3' : ((tkN 0 3 r2).bind fun n => times (tkN 1 19) n.1 n.2) = none := t3
            rw [t3']; rfl
          · rfl
        · rfl
      | some ks =>
        obtain ⟨ks, r3⟩ := ks
        simp only [Option.map_some, Option.bind_some]
        show _ = if Kwc.okWx ⟨s, d, ks⟩ = true then some (Kwc.wxWord ⟨s, d, ks⟩, r3) else none
        by_cases hs : s ≤ 2
        · rw [if_pos hs]
          simp only [Option.bind_some, t2]
          by_cases hd : d ≤ 8
          · rw [if_pos hd]
            simp only [Option.bind_some]
            cases o : ((decide (0 ≤ ks.length) && decide (ks.length ≤ 3)) && ks.all rng19) with
            | false =>
              have t3 : ((tkN 0 3 r2).bind fun n => times (tkN 1 19) n.1 n.2) = none := kinds_tell.off e3 o
              rw [t3]
              rw [if_neg]
              · rfl
              · intro z
                obtain ⟨_, _, h3, h4⟩ := okWx_parts z
                rw [h4] at o
                simp at o
                omega
            | true =>
              have t3 : ((tkN 0 3 r2).bind fun n => times (tkN 1 19) n.1 n.2) = some (ks.map id, r3) := kinds_tell.hit e3 o
              rw [t3, List.map_id]
              simp only [Option.bind_some]
              simp only [Bool.and_eq_true] at o
              rw [okWx_num hs hd o.2, wxWord_eq]
              show _ = if _ then some (signW s ++ (dname d ++ ks.flatMap nmK), r3) else none
              rw [List.flatMap_def]
          · rw [if_neg hd, if_neg (fun z => hd (okWx_parts z).2.1)]; rfl
        · rw [if_neg hs, if_neg (fun z => hs (okWx_parts z).1)]; rfl
def tlWeather : From (List T) := fun l => (tkN 0 3 l).bind fun n => times tlWx n.1 n.2
theorem weather_tells : Tells tlWeather (counted aWx) (fun xs => (decide (0 ≤ xs.length) && decide (xs.length ≤ 3)) && xs.all Kwc.okWx) (fun xs => xs.map Kwc.wxWord) := tells_counted wx_tells (by decide)
def tlChWx : From (List T) := fun l => (tkN 0 1 l).bind fun n => if n.1 = 0 then some ([Kwc.text "NSW"], n.2) else (tlWx n.2).map fun w => ([w.1], w.2)
theorem chwx_tells : Tells tlChWx (counted aWx) (fun xs => decide (xs.length ≤ 1) && xs.all Kwc.okWx) (fun xs => if xs.isEmpty then [Kwc.text "NSW"] else xs.map Kwc.wxWord) := fun l => by
  unfold tlChWx Kwc.counted tkN
  cases e1 : aNat l with
  | none => rfl
  | some n =>
    obtain ⟨n, r⟩ := n
    simp only [Option.bind_some]
    match n with
    | 0 => rfl
    | 1 =>
      simp only [show (0 ≤ 1 ∧ 1 ≤ 1) = True from by simp, if_true, Option.bind_some, show ¬ (1 = 0) from by decide, if_false, show (1 ≤ 16) = True from by simp]
      rw [times1, wx_tells r]
      cases aWx r with
      | none => rfl
      | some x =>
        simp only [Option.map_some, Option.bind_some]
        cases o : Kwc.okWx x.1 <;> simp [o]
    | n + 2 =>
      rw [if_neg (by omega)]
      simp only [Option.bind_none]
      split
      · cases e2 : times aWx (n + 2) r with
        | none => rfl
        | some y =>
          have := times_len _ _ _ _ _ e2
          simp only [Option.bind_some]
          rw [if_neg]
          simp; omega
      · rfl
def layersTk : Nat → List Cloud → From (List Cloud)
  | 0, acc, l => some (acc, l)
  | n + 1, acc, l => (tkN 1 4 l).bind fun a => (tkN 0 300 a.2).bind fun h => (tkN 0 2 h.2).bind fun k => if follows acc ⟨a.1, h.1, k.1⟩ = true then layersTk n (acc ++ [⟨a.1, h.1, k.1⟩]) k.2 else none
theorem aCloud_eq (l : List Int) : aCloud l = (aNat l).bind fun a => (aNat a.2).bind fun h => (aNat h.2).map fun k => (⟨a.1, h.1, k.1⟩, k.2) := by
  unfold Kwc.aCloud
  rw [times3]
  cases aNat l with
  | none => rfl
  | some a =>
    simp only [Option.bind_some]
    cases aNat a.2 with
    | none => rfl
    | some h =>
      simp only [Option.bind_some]
      cases aNat h.2 <;> rfl
theorem cloud_tk (l : List Int) (f : Cloud × List Int → Option (List Cloud × List Int)) : ((tkN 1 4 l).bind fun a => (tkN 0 300 a.2).bind fun h => (tkN 0 2 h.2).bind fun k => f (⟨a.1, h.1, k.1⟩, k.2)) = (aCloud l).bind fun c => if rngC c.1 = true then f c else none := by
  rw [aCloud_eq]
  unfold tkN
  cases e1 : aNat l with
  | none => rfl
  | some a =>
    obtain ⟨a, r1⟩ := a
    simp only [Option.bind_some]
    cases e2 : aNat r1 with
    | none =>
      simp only [Option.bind_none]
      split
      · simp [e2]
      · rfl
    | some h =>
      obtain ⟨h, r2⟩ := h
      simp only [Option.bind_some]
      cases e3 : aNat r2 with
      | none =>
        simp only [Option.map_none, Option.bind_none]
        split
        · simp only [Option.bind_some, e2]
          split
          · simp [e3]
          · rfl
        · rfl
      | some k =>
        obtain ⟨k, r3⟩ := k
        simp only [Option.map_some, Option.bind_some]
        by_cases h1 : 1 ≤ a ∧ a ≤ 4
        · by_cases h2 : h ≤ 300
          · by_cases h3 : k ≤ 2
            · simp [h1, e2, h2, e3, h3, rngC]
            · simp [h1, e2, h2, e3, h3, rngC]
          · simp [h1, e2, h2, rngC]
        · rw [if_neg h1, if_neg]
          · rfl
          · intro z; simp [rngC] at z; exact h1 ⟨z.1.1.1, z.1.1.2⟩
theorem layersTk_eq : ∀ (n : Nat) (acc : List Cloud) (l : List Int), Kwc.okLayers 0 acc = true → acc.length + n ≤ 4 → layersTk n acc l = (times aCloud n l).bind fun y => if Kwc.okLayers 0 (acc ++ y.1) = true then some (acc ++ y.1, y.2) else none
  | 0, acc, l, h, _ => by
    show some (acc, l) = if Kwc.okLayers 0 (acc ++ []) = true then some (acc ++ [], l) else none
    rw [List.append_nil, if_pos h]
  | n + 1, acc, l, h, hl => by
    rw [layersTk, cloud_tk l (fun c => if follows acc c.1 = true then layersTk n (acc ++ [c.1]) c.2 else none), Kwc.times]
    cases e : aCloud l with
    | none => rfl
    | some c =>
      obtain ⟨c, r⟩ := c
      simp only [Option.bind_some]
      by_cases hr : rngC c = true ∧ follows acc c = true
      · rw [if_pos hr.1, if_pos hr.2]
        have hf : ∀ b, acc.getLast? = some b → b.amount ≠ 4 ∧ b.height ≤ c.height := by
          intro b hb
          have := hr.2
          unfold follows at this
          rw [hb] at this
          simp at this
          exact this.2
        have ok := okLayers_snoc acc 0 c h hr.1 hf (fun _ => Nat.zero_le _)
        rw [layersTk_eq n (acc ++ [c]) r ok (by simp; omega)]
        cases times aCloud n r with
        | none => rfl
        | some y => simp only [Option.map_some, Option.bind_some, List.append_assoc, List.singleton_append]
      · have z : (if rngC c = true then if follows acc c = true then layersTk n (acc ++ [c]) r else none else none) = none := by
          split
          · split
            · exact absurd ⟨by assumption, by assumption⟩ hr
            · rfl
          · rfl
        rw [z]
        cases times aCloud n r with
        | none => rfl
        | some y =>
          simp only [Option.map_some, Option.bind_some]
          rw [if_neg]
          intro q
          obtain ⟨q1, q2⟩ := okLayers_mid acc 0 c y.1 q
          refine hr ⟨q1, ?_⟩
          unfold follows
          cases g : acc.getLast? with
          | none => rfl
          | some b =>
            have := q2 b g
            simp [this]; omega
def tlSky : From (List T) := fun l => (tkN 0 2 l).bind fun k => if k.1 = 0 then some ([Kwc.text "NSC"], k.2) else if k.1 = 1 then (tkN 0 100 k.2).map fun h => ([Kwc.text "VV" ++ Kwc.digits 3 h.1], h.2) else (tkN 1 4 k.2).bind fun n => (layersTk n.1 [] n.2).map fun p => (p.1.map Kwc.cloudWord, p.2)
theorem lay_tells (r : List Int) : ((tkN 1 4 r).bind fun n => (layersTk n.1 [] n.2).map fun p => (p.1.map Kwc.cloudWord, p.2)) = (counted aCloud r).bind fun y => if (!y.1.isEmpty && decide (y.1.length ≤ 4) && Kwc.okLayers 0 y.1) = true then some (y.1.map Kwc.cloudWord, y.2) else none := by
  unfold tkN Kwc.counted
  cases e : aNat r with
  | none => rfl
  | some n =>
    obtain ⟨n, r1⟩ := n
    simp only [Option.bind_some]
    by_cases h : 1 ≤ n ∧ n ≤ 4
    · rw [if_pos h, if_pos (by omega)]
      simp only [Option.bind_some]
      rw [layersTk_eq n [] r1 rfl (by simp; omega)]
      cases e2 : times aCloud n r1 with
      | none => rfl
      | some y =>
        obtain ⟨y, r2⟩ := y
        have hn := times_len _ _ _ _ _ e2
        simp only [Option.bind_some, List.nil_append]
        have h1 : y.isEmpty = false := by cases y with | nil => simp at hn; omega | cons _ _ => rfl
        have h2 : decide (y.length ≤ 4) = true := by simp; omega
        rw [h1, h2]
        cases Kwc.okLayers 0 y <;> rfl
    · rw [if_neg h]
      simp only [Option.bind_none]
      split
      · cases e2 : times aCloud n r1 with
        | none => rfl
        | some y =>
          obtain ⟨y, r2⟩ := y
          have hn := times_len _ _ _ _ _ e2
          simp only [Option.bind_some]
          rw [if_neg]
          intro z
          simp only [Bool.and_eq_true] at z
          have h2 : y.length ≤ 4 := by simpa using z.1.2
          cases y with
          | nil => cases z.1.1
          | cons c y => simp at hn h2; omega
      · rfl
theorem sky_tells : Tells tlSky aSky Kwc.okSky Kwc.skyWords := fun l => by
  cases l with
  | nil => rfl
  | cons z r =>
    unfold tlSky
    have t : tkN 0 2 (z :: r) = if 0 ≤ z ∧ z ≤ 2 then some (z.toNat, r) else none := by
      show ((if 0 ≤ z then some (z.toNat, r) else none).bind fun x => if 0 ≤ x.1 ∧ x.1 ≤ 2 then some x else none) = _
      by_cases h : 0 ≤ z
      · rw [if_pos h]
        simp only [Option.bind_some]
        by_cases q : z ≤ 2
        · rw [if_pos (by omega), if_pos ⟨h, q⟩]
        · rw [if_neg (by omega), if_neg (by omega)]
      · rw [if_neg h, if_neg (by omega)]; rfl
    rw [t]
    by_cases h0 : z = 0
    · subst h0; rfl
    by_cases h1 : z = 1
    · subst h1
      show ((tkN 0 100 r).map fun h => ([Kwc.text "VV" ++ Kwc.digits 3 h.1], h.2)) = ((aNat r).map fun h => (Sky.up h.1, h.2)).bind _
      unfold tkN
      cases aNat r with
      | none => rfl
      | some x =>
        simp only [Option.bind_some, Option.map_some]
        by_cases q : x.1 ≤ 100
        · rw [if_pos ⟨Nat.zero_le _, q⟩, if_pos (by simpa [Kwc.okSky] using q)]; rfl
        · rw [if_neg (fun z => q z.2), if_neg (by simpa [Kwc.okSky] using q)]; rfl
    by_cases h2 : z = 2
    · subst h2
      show ((tkN 1 4 r).bind fun n => (layersTk n.1 [] n.2).map fun p => (p.1.map Kwc.cloudWord, p.2)) = ((counted aCloud r).map fun m => (Sky.layers m.1, m.2)).bind _
      rw [lay_tells]
      cases counted aCloud r with
      | none => rfl
      | some y => rfl
    · have : aSky (z :: r) = none := by
        unfold Kwc.aSky
        split
        · rename_i q; cases q; exact absurd rfl h0
        · rename_i q; cases q; exact absurd rfl h1
        · rename_i q; cases q; exact absurd rfl h2
        · rfl
      rw [this, if_neg (by omega)]; rfl
end My
end
section
set_option linter.all false
set_option autoImplicit false
namespace My
open Kwc (Bytes Wind Wx Cloud Sky Change Report From aNat times counted aWx aCloud aSky orNot aWind aChange reportOf)
def told (f : From (List T)) : From (List T) := fun l => if l.head? = some (-1) then some ([], l.tail) else f l
def tlChWind : From (List T) := fun l => (tkN 0 1 l).bind fun k => if k.1 = 0 then some ([], k.2) else (fitWind k.2).map fun w => ([wText w.1], w.2)
theorem chwind_tells : Tells tlChWind aWind (Kwc.optional (Kwc.okWind false)) (Kwc.listOf fun w => [Kwc.windWord w]) := fun l => by
  cases l with
  | nil => rfl
  | cons z r =>
    unfold tlChWind
    have t : tkN 0 1 (z :: r) = if 0 ≤ z ∧ z ≤ 1 then some (z.toNat, r) else none := by
      show ((if 0 ≤ z then some (z.toNat, r) else none).bind fun x => if 0 ≤ x.1 ∧ x.1 ≤ 1 then some x else none) = _
      by_cases h : 0 ≤ z
      · rw [if_pos h]
        simp only [Option.bind_some]
        by_cases q : z ≤ 1
        · rw [if_pos (by omega), if_pos ⟨h, q⟩]
        · rw [if_neg (by omega), if_neg (by omega)]
      · rw [if_neg h, if_neg (by omega)]; rfl
    rw [t]
    by_cases h0 : z = 0
    · subst h0; rfl
    by_cases h1 : z = 1
    · subst h1
      show ((fitWind r).map fun w => ([wText w.1], w.2)) = ((times aNat 3 r).map fun w => (some (w3 w.1), w.2)).bind _
      rw [fit_tells r]
      cases times aNat 3 r with
      | none => rfl
      | some x =>
        simp only [Option.bind_some, Option.map_some]
        cases o : Kwc.okWind false (w3 x.1) with
        | false => simp [Kwc.optional, o]
        | true => simp only [Kwc.optional, o, if_true, Kwc.listOf, wText, Option.map_some]
    · have : aWind (z :: r) = none := by
        unfold Kwc.aWind
        split
        · rename_i q; cases q; exact absurd rfl h0
        · rename_i q; cases q; exact absurd rfl h1
        · rfl
      rw [this, if_neg (by omega)]; rfl
def tlClock (mark : T) : From (List T) := fun l => (tkN 0 1439 l).map fun m => ([mark ++ Kwc.clock m.1], m.2)
theorem clock_tells (mark : T) : Tells (tlClock mark) aNat (fun t => decide (t < 1440)) (fun t => [mark ++ Kwc.clock t]) := fun l => by
  unfold tlClock tkN
  cases aNat l with
  | none => rfl
  | some x =>
    simp only [Option.bind_some]
    by_cases h : x.1 ≤ 1439
    · rw [if_pos ⟨Nat.zero_le _, h⟩, if_pos (by simp; omega)]; rfl
    · rw [if_neg (fun z => h z.2), if_neg (by simp; omega)]; rfl
def tlSightL : From (List T) := fun l => (tlSight l).map fun x => ([x.1], x.2)
theorem sightL_tells : Tells tlSightL aNat (fun n => n == Kwc.cavok || Kwc.okSight n) (fun n => [Kwc.sightWord n]) := tells_map sight_tells fun w => [w]
theorem told_tells {A : Type} {t : From (List T)} {a : From A} {ok : A → Bool} {wd : A → List T} (h : Tells t a ok wd) : Tells (told t) (orNot a) (Kwc.optional ok) (Kwc.listOf wd) := fun l => by
  have := tells_orNot h l
  unfold told
  refine this.trans ?_
  cases orNot a l with
  | none => rfl
  | some x =>
    obtain ⟨x, r⟩ := x
    cases x <;> rfl
abbrev cavT : T := Kwc.text "CAVOK"
def tlChanged : From (List T) := fun l => (tlChWind l).bind fun w => (told tlSightL w.2).bind fun s => (told tlChWx s.2).bind fun x => (told tlSky x.2).bind fun z =>
  if s.1 ≠ [cavT] ∨ (x.1 ++ z.1).length = 0 then if 0 < (w.1 ++ s.1 ++ x.1 ++ z.1).length then some (w.1 ++ s.1 ++ x.1 ++ z.1, z.2) else none else none
def tlChange : From (List T) := fun l => (tkN 1 2 l).bind fun m => (told (tlClock (Kwc.text "FM")) m.2).bind fun a => (told (tlClock (Kwc.text "TL")) a.2).bind fun t => (tlChanged t.2).map fun c => ([Kwc.text (if m.1 = 1 then "BECMG" else "TEMPO")] ++ a.1 ++ t.1 ++ c.1, c.2)
theorem sightWord_cav (n : Nat) : Kwc.sightWord n = cavT ↔ n = Kwc.cavok := by
  unfold Kwc.sightWord
  constructor
  · intro h
    split at h
    · assumption
    · have := congrArg List.length h
      rw [digits_length] at this
      cases this
  · intro h; rw [if_pos h]
abbrev kWind : Option Wind → List T := Kwc.listOf fun w => [Kwc.windWord w]
abbrev kSight : Option Nat → List T := Kwc.listOf fun n => [Kwc.sightWord n]
abbrev kWx : Option (List Wx) → List T := Kwc.listOf fun l => if l.isEmpty then [Kwc.text "NSW"] else l.map Kwc.wxWord
abbrev kSky : Option Sky → List T := Kwc.listOf Kwc.skyWords
theorem kSight_cav (s : Option Nat) : kSight s = [cavT] ↔ s = some Kwc.cavok := by
  cases s with
  | none => constructor <;> intro h <;> cases h
  | some n =>
    show [Kwc.sightWord n] = [cavT] ↔ _
    rw [List.cons.injEq, sightWord_cav]
    simp
theorem kWx_nil (x : Option (List Wx)) : (kWx x).length = 0 ↔ x = none := by
  cases x with
  | none => simp [kWx, Kwc.listOf]
  | some l =>
    cases l with
    | nil => simp [kWx, Kwc.listOf]
    | cons a l => simp [kWx, Kwc.listOf]
theorem kSky_nil {z : Option Sky} (h : Kwc.optional Kwc.okSky z = true) : (kSky z).length = 0 ↔ z = none := by
  cases z with
  | none => simp [kSky, Kwc.listOf]
  | some s =>
    cases s with
    | clear => simp [kSky, Kwc.listOf, Kwc.skyWords]
    | up n => simp [kSky, Kwc.listOf, Kwc.skyWords]
    | layers cs =>
      have h' : Kwc.okSky (.layers cs) = true := h
      obtain ⟨h1, _, _⟩ := okSky_layers h'
      cases cs with
      | nil => exact absurd rfl h1
      | cons c cs => simp [kSky, Kwc.listOf, Kwc.skyWords]
theorem changed_cond {w : Option Wind} {s : Option Nat} {x : Option (List Wx)} {z : Option Sky} (hz : Kwc.optional Kwc.okSky z = true) :
    (((s != some Kwc.cavok || (x.isNone && z.isNone)) && (w.isSome || s.isSome || x.isSome || z.isSome)) = true) ↔
    ((kSight s ≠ [cavT] ∨ (kWx x ++ kSky z).length = 0) ∧ 0 < (kWind w ++ kSight s ++ kWx x ++ kSky z).length) := by
  have e1 : kSight s = [cavT] ↔ s = some Kwc.cavok := kSight_cav s
  have e2 : (kWx x ++ kSky z).length = 0 ↔ x = none ∧ z = none := by
    rw [List.length_append, Nat.add_eq_zero_iff, kWx_nil, kSky_nil hz]
  have e3 : (kWind w ++ kSight s ++ kWx x ++ kSky z).length = 0 ↔ w = none ∧ s = none ∧ x = none ∧ z = none := by
    simp only [List.length_append, Nat.add_eq_zero_iff]
    rw [kWx_nil, kSky_nil hz]
    have a : (kWind w).length = 0 ↔ w = none := by cases w <;> simp [kWind, Kwc.listOf]
    have b : (kSight s).length = 0 ↔ s = none := by cases s <;> simp [kSight, Kwc.listOf]
    rw [a, b]
    constructor
    · rintro ⟨⟨⟨h1, h2⟩, h3⟩, h4⟩; exact ⟨h1, h2, h3, h4⟩
    · rintro ⟨h1, h2, h3, h4⟩; exact ⟨⟨⟨h1, h2⟩, h3⟩, h4⟩
  rw [Nat.pos_iff_ne_zero]
  simp only [ne_eq]
  rw [e1, e2, e3, Bool.and_eq_true]
  refine and_congr ?_ ?_
  · simp
  · cases w <;> cases s <;> cases x <;> cases z <;> simp
theorem change_hit {l r : List Int} {c : Change} (e : aChange l = some (c, r)) (o : Kwc.okChange c = true) : tlChange l = some (Kwc.changeWords c, r) := by
  unfold Kwc.aChange at e
  simp only [Option.bind_eq_some_iff, Option.map_eq_some_iff] at e
  obtain ⟨⟨k, l1⟩, e1, ⟨a, l2⟩, e2, ⟨t, l3⟩, e3, ⟨w, l4⟩, e4, ⟨s, l5⟩, e5, ⟨x, l6⟩, e6, ⟨z, l7⟩, e7, e8⟩ := e
  simp only [Prod.mk.injEq] at e8
  obtain ⟨rfl, rfl⟩ := e8
  unfold Kwc.okChange at o
  simp only [Bool.and_eq_true] at o
  obtain ⟨⟨⟨⟨⟨⟨⟨⟨o1, o2⟩, o3⟩, o4⟩, o5⟩, o6⟩, o7⟩, o8⟩, o9⟩ := o
  have hc := (changed_cond (w := w) (s := s) (x := x) o7).mp (by rw [Bool.and_eq_true]; exact ⟨o8, o9⟩)
  have hk : k = 1 ∨ k = 2 := by simpa using o1
  unfold tlChange
  rw [(tkN_tells 1 2).hit e1 (by rcases hk with rfl | rfl <;> rfl)]
  simp only [Option.bind_some]
  rw [(told_tells (clock_tells _)).hit e2 o2]
  simp only [Option.bind_some]
  rw [(told_tells (clock_tells _)).hit e3 o3]
  simp only [Option.bind_some]
  unfold tlChanged
  rw [chwind_tells.hit e4 o4]
  simp only [Option.bind_some]
  rw [(told_tells sightL_tells).hit e5 o5]
  simp only [Option.bind_some]
  rw [(told_tells chwx_tells).hit e6 o6]
  simp only [Option.bind_some]
  rw [(told_tells sky_tells).hit e7 o7]
  simp only [Option.bind_some]
  rw [if_pos hc.1, if_pos hc.2]
  unfold Kwc.changeWords
  simp only [Option.map_some, id]
  simp only [List.append_assoc]
theorem change_inv {l r : List Int} {ws : List T} (e : tlChange l = some (ws, r)) : ∃ c, aChange l = some (c, r) ∧ Kwc.okChange c = true ∧ Kwc.changeWords c = ws := by
  unfold tlChange tlChanged at e
  simp only [Option.bind_eq_some_iff, Option.map_eq_some_iff] at e
  obtain ⟨⟨k, l1⟩, e1, ⟨a, l2⟩, e2, ⟨t, l3⟩, e3, ⟨cw, l8⟩, ⟨⟨w, l4⟩, e4, ⟨s, l5⟩, e5, ⟨x, l6⟩, e6, ⟨z, l7⟩, e7, e9⟩, e8⟩ := e
  obtain ⟨k, d1, o1, rfl⟩ := (tkN_tells 1 2).inv e1
  obtain ⟨a, d2, o2, rfl⟩ := (told_tells (clock_tells _)).inv e2
  obtain ⟨t, d3, o3, rfl⟩ := (told_tells (clock_tells _)).inv e3
  obtain ⟨w, d4, o4, rfl⟩ := chwind_tells.inv e4
  obtain ⟨s, d5, o5, rfl⟩ := (told_tells sightL_tells).inv e5
  obtain ⟨x, d6, o6, rfl⟩ := (told_tells chwx_tells).inv e6
  obtain ⟨z, d7, o7, rfl⟩ := (told_tells sky_tells).inv e7
  dsimp only at d1 d2 d3 d4 d5 d6 d7 e9
  split at e9
  · rename_i h1
    split at e9
    · rename_i h2
      simp only [Option.some.injEq, Prod.mk.injEq] at e9
      obtain ⟨rfl, rfl⟩ := e9
      simp only [Prod.mk.injEq] at e8
      obtain ⟨rfl, rfl⟩ := e8
      have hc := (changed_cond (w := w) (s := s) (x := x) o7).mpr ⟨h1, h2⟩
      rw [Bool.and_eq_true] at hc
      refine ⟨⟨k, a, t, w, s, x, z⟩, ?_, ?_, ?_⟩
      · unfold Kwc.aChange
        rw [d1]; simp only [Option.bind_some]
        rw [d2]; simp only [Option.bind_some]
        rw [d3]; simp only [Option.bind_some]
        rw [d4]; simp only [Option.bind_some]
        rw [d5]; simp only [Option.bind_some]
        rw [d6]; simp only [Option.bind_some]
        rw [d7]; rfl
      · unfold Kwc.okChange
        simp only [Bool.and_eq_true]
        refine ⟨⟨⟨⟨⟨⟨⟨⟨?_, o2⟩, o3⟩, o4⟩, o5⟩, o6⟩, o7⟩, hc.1⟩, hc.2⟩
        have : 1 ≤ k ∧ k ≤ 2 := by simpa using o1
        have : k = 1 ∨ k = 2 := by omega
        simpa using this
      · unfold Kwc.changeWords
        simp only [id, List.append_assoc]
    · cases e9
  · cases e9
theorem change_tells : Tells tlChange aChange Kwc.okChange Kwc.changeWords := fun l => by
  cases e : tlChange l with
  | some y =>
    obtain ⟨ws, r⟩ := y
    obtain ⟨c, e1, o, rfl⟩ := change_inv e
    rw [e1]; simp [o]
  | none =>
    cases q : aChange l with
    | none => rfl
    | some c =>
      obtain ⟨c, r⟩ := c
      simp only [Option.bind_some]
      cases o : Kwc.okChange c with
      | false => rfl
      | true => rw [change_hit q o] at e; cases e
def tlTrend : From (List T) := fun l => (tkN 0 2 l).bind fun k => if k.1 = 2 then (tkN 1 3 k.2).bind fun n => (times tlChange n.1 n.2).map fun x => (x.1.flatten, x.2) else (tkN 0 0 k.2).map fun z => (if k.1 = 0 then [] else [Kwc.text "NOSIG"], z.2)
def aTrend : From (Nat × List Change) := fun l => (aNat l).bind fun k => (counted aChange k.2).map fun c => ((k.1, c.1), c.2)
def okTrend (p : Nat × List Change) : Bool := decide (p.1 ≤ 2) && p.2.all Kwc.okChange && (if p.1 = 2 then decide (1 ≤ p.2.length) && decide (p.2.length ≤ 3) else p.2.isEmpty)
def trendW (p : Nat × List Change) : List T := if p.1 = 1 then [Kwc.text "NOSIG"] else p.2.flatMap Kwc.changeWords
theorem zero_tells (l : List Int) : tkN 0 0 l = (counted aChange l).bind fun c => if c.1.isEmpty = true then some (0, c.2) else none := by
  unfold tkN Kwc.counted
  cases aNat l with
  | none => rfl
  | some n =>
    obtain ⟨n, r⟩ := n
    simp only [Option.bind_some]
    match n with
    | 0 => rfl
    | n + 1 =>
      rw [if_neg (by omega)]
      split
      · cases e : times aChange (n + 1) r with
        | none => rfl
        | some y =>
          have := times_len _ _ _ _ _ e
          simp only [Option.bind_some]
          rw [if_neg]
          intro z
          cases y.1 with
          | nil => simp_all
          | cons _ _ => simp_all
      · rfl
theorem trend_tells : Tells tlTrend aTrend okTrend trendW := fun l => by
  unfold tlTrend aTrend
  cases e1 : aNat l with
  | none => unfold tkN; rw [e1]; rfl
  | some k =>
    obtain ⟨k, r⟩ := k
    have t1 : tkN 0 2 l = if k ≤ 2 then some (k, r) else none := by unfold tkN; rw [e1]; simp
    rw [t1]
    simp only [Option.bind_some]
    by_cases h : k ≤ 2
    · rw [if_pos h]
      simp only [Option.bind_some]
      by_cases h2 : k = 2
      · subst h2
        rw [if_pos rfl]
        have z := tells_map (tells_counted change_tells (lo := 1) (hi := 3) (by decide)) List.flatten r
        have z' : ((tkN 1 3 r).bind fun n => (times tlChange n.1 n.2).map fun x => (x.1.flatten, x.2)) = ((tkN 1 3 r).bind fun n => times tlChange n.1 n.2).map fun x => (x.1.flatten, x.2) := by
          cases tkN 1 3 r <;> rfl
        rw [z']
        refine z.trans ?_
        cases counted aChange r with
        | none => rfl
        | some c =>
          simp only [Option.map_some, Option.bind_some]
          show (if (decide (1 ≤ c.1.length) && decide (c.1.length ≤ 3) && c.1.all Kwc.okChange) = true then some ((c.1.map Kwc.changeWords).flatten, c.2) else none) = if okTrend (2, c.1) = true then some (trendW (2, c.1), c.2) else none
          have eo : okTrend (2, c.1) = (decide (1 ≤ c.1.length) && decide (c.1.length ≤ 3) && c.1.all Kwc.okChange) := by
            unfold okTrend
            simp [Bool.and_comm]
          rw [eo]
          unfold trendW
          rw [if_neg (by decide : ¬ (2 = 1)), List.flatMap_def]
      · rw [if_neg h2, zero_tells]
        cases counted aChange r with
        | none => rfl
        | some c =>
          simp only [Option.map_some, Option.bind_some]
          have eo : okTrend (k, c.1) = c.1.isEmpty := by
            unfold okTrend
            simp only [h, decide_true, Bool.true_and, if_neg h2]
            cases c.1 <;> simp
          rw [eo]
          cases hc : c.1 with
          | cons _ _ => rfl
          | nil =>
            simp only [List.isEmpty_nil, if_true, Option.map_some]
            have : k = 0 ∨ k = 1 := by omega
            rcases this with rfl | rfl <;> rfl
    · rw [if_neg h]
      cases counted aChange r with
      | none => rfl
      | some c =>
        simp only [Option.map_some, Option.bind_some, Option.bind_none]
        rw [if_neg]
        unfold okTrend
        simp [h]
end My
end
section
set_option linter.all false
set_option autoImplicit false
namespace My
open Kwc (Bytes Wind Wx Cloud Sky Change Report From aNat times counted aWx aCloud aSky orNot aWind aChange reportOf)
theorem Tells.of {A W : Type} {t : From W} {a : From A} {ok : A → Bool} {wd : A → W} (hit : ∀ {l r x}, a l = some (x, r) → ok x = true → t l = some (wd x, r))
    (inv : ∀ {l r y}, t l = some (y, r) → ∃ x, a l = some (x, r) ∧ ok x = true ∧ wd x = y) : Tells t a ok wd := fun l => by
  cases e : t l with
  | some y =>
    obtain ⟨ws, r⟩ := y
    obtain ⟨c, e1, o, rfl⟩ := inv e
    rw [e1]; simp [o]
  | none =>
    cases q : a l with
    | none => rfl
    | some c =>
      obtain ⟨c, r⟩ := c
      simp only [Option.bind_some]
      cases o : ok c with
      | false => rfl
      | true => rw [hit q o] at e; cases e
def tlStation : From T := times (tkN 65 90) 4
theorem station_tells : Tells tlStation (times aNat 4) (fun xs => xs.all Kwc.letter) id := fun l => by
  have := tells_times (tkN_tells 65 90) 4 l
  unfold tlStation
  refine this.trans ?_
  cases times aNat 4 l with
  | none => rfl
  | some x =>
    simp only [Option.bind_some, List.map_id]
    rfl
def momW (d h m : Nat) : T := Kwc.digits 2 d ++ Kwc.digits 2 h ++ Kwc.digits 2 m ++ Kwc.text "Z"
def tlMoment : From T := fun l => (tkN 1 31 l).bind fun d => (tkN 0 23 d.2).bind fun h => (tkN 0 59 h.2).map fun m => (momW d.1 h.1 m.1, m.2)
def okMom (a : List Nat) : Bool := (decide (1 ≤ a.getD 0 0) && decide (a.getD 0 0 ≤ 31)) && ((decide (0 ≤ a.getD 1 0) && decide (a.getD 1 0 ≤ 23)) && (decide (0 ≤ a.getD 2 0) && decide (a.getD 2 0 ≤ 59)))
theorem moment_tells : Tells tlMoment (times aNat 3) okMom (fun a => momW (a.getD 0 0) (a.getD 1 0) (a.getD 2 0)) := by
  refine Tells.of ?_ ?_
  · intro l r x e o
    rw [times3] at e
    simp only [Option.bind_eq_some_iff, Option.map_eq_some_iff] at e
    obtain ⟨⟨d, l1⟩, e1, ⟨h, l2⟩, e2, ⟨m, l3⟩, e3, e4⟩ := e
    simp only [Prod.mk.injEq] at e4
    obtain ⟨rfl, rfl⟩ := e4
    unfold okMom at o
    simp only [Bool.and_eq_true] at o
    unfold tlMoment
    rw [(tkN_tells 1 31).hit e1 (by rw [Bool.and_eq_true]; exact o.1)]
    simp only [Option.bind_some]
    rw [(tkN_tells 0 23).hit e2 (by rw [Bool.and_eq_true]; exact o.2.1)]
    simp only [Option.bind_some]
    rw [(tkN_tells 0 59).hit e3 (by rw [Bool.and_eq_true]; exact o.2.2)]
    rfl
  · intro l r y e
    unfold tlMoment at e
    simp only [Option.bind_eq_some_iff, Option.map_eq_some_iff] at e
    obtain ⟨⟨d, l1⟩, e1, ⟨h, l2⟩, e2, ⟨m, l3⟩, e3, e4⟩ := e
    obtain ⟨d, d1, o1, rfl⟩ := (tkN_tells 1 31).inv e1
    obtain ⟨h, d2, o2, rfl⟩ := (tkN_tells 0 23).inv e2
    obtain ⟨m, d3, o3, rfl⟩ := (tkN_tells 0 59).inv e3
    simp only [Prod.mk.injEq] at e4
    obtain ⟨rfl, rfl⟩ := e4
    dsimp only at d2 d3
    refine ⟨[d, h, m], ?_, ?_, rfl⟩
    · rw [times3, d1]; simp only [Option.bind_some]; rw [d2]; simp only [Option.bind_some]; rw [d3]; rfl
    · unfold okMom
      simp only [Bool.and_eq_true]
      rw [Bool.and_eq_true] at o1 o2 o3
      exact ⟨o1, o2, o3⟩
def degPair (u v : Int) : T := Kwc.degrees u ++ Kwc.text "/" ++ Kwc.degrees v
def tlDegrees : From T := fun l => (tk (-60) 60 l).bind fun u => (tk (-60) u.1 u.2).map fun v => (degPair u.1 v.1, v.2)
def aDeg : From (Int × Int) := fun l => match l with
  | t :: d :: r => some ((t, d), r)
  | _ => none
theorem degrees_tells : Tells tlDegrees aDeg (fun p => Kwc.okDegrees p.1 && Kwc.okDegrees p.2 && decide (p.2 ≤ p.1)) (fun p => degPair p.1 p.2) := fun l => by
  unfold tlDegrees aDeg
  match l with
  | [] => rfl
  | [t] =>
    show (tk (-60) 60 [t]).bind _ = none
    unfold tk
    simp only
    split <;> rfl
  | t :: d :: r =>
    simp only [Option.bind_some]
    show ((if (-60 : Int) ≤ t ∧ t ≤ 60 then some (t, d :: r) else none).bind fun u => (tk (-60) u.1 u.2).map fun v => (degPair u.1 v.1, v.2)) = _
    by_cases h1 : (-60 : Int) ≤ t ∧ t ≤ 60
    · rw [if_pos h1]
      show (if (-60 : Int) ≤ d ∧ d ≤ t then some (d, r) else none).map (fun v => (degPair t v.1, v.2)) = _
      by_cases h2 : (-60 : Int) ≤ d ∧ d ≤ t
      · rw [if_pos h2, if_pos]
        · rfl
        · simp [Kwc.okDegrees]; omega
      · rw [if_neg h2, if_neg]
        · rfl
        · simp [Kwc.okDegrees]; omega
    · rw [if_neg h1, if_neg]
      · rfl
      · simp [Kwc.okDegrees]; omega
def prT (n : Nat) : T := Kwc.text "Q" ++ Kwc.digits 4 n
def tlPress : From T := fun l => (tkN 850 1100 l).map fun p => (prT p.1, p.2)
theorem press_tells : Tells tlPress aNat (fun n => decide (850 ≤ n) && decide (n ≤ 1100)) prT := tells_map (tkN_tells 850 1100) prT
def tlMid (s : T) (x z : List T) : Option (List T) := if s ≠ cavT then some (x ++ z) else if x.length = 0 ∧ z = [Kwc.text "NSC"] then some [] else none
def tlReport (l : List Int) : Option (List T) := (tlStation l).bind fun st => (tlMoment st.2).bind fun mo => (tlWindSector mo.2).bind fun w => (tlSight w.2).bind fun s => (tlDegrees s.2).bind fun dg => (tlPress dg.2).bind fun p => (tlWeather p.2).bind fun x => (tlSky x.2).bind fun z =>
  (tlMid s.1 x.1 z.1).bind fun ms => (tlTrend z.2).bind fun t => if t.2 = [] then some ([st.1] ++ [mo.1] ++ w.1 ++ [s.1] ++ ms ++ [dg.1] ++ [p.1] ++ t.1) else none
theorem sky_nsc {s : Sky} (h : Kwc.okSky s = true) : Kwc.skyWords s = [Kwc.text "NSC"] ↔ Kwc.isClear s = true := by
  cases s with
  | clear => simp [Kwc.skyWords, Kwc.isClear]
  | up n =>
    simp only [Kwc.skyWords, Kwc.isClear]
    constructor
    · intro q
      have := congrArg List.length (List.cons.inj q).1
      rw [List.length_append, digits_length] at this
      cases this
    · intro q; cases q
  | layers cs =>
    obtain ⟨h1, _, _⟩ := okSky_layers h
    simp only [Kwc.skyWords, Kwc.isClear]
    constructor
    · intro q
      match cs, h1 with
      | c :: cs, _ =>
        have q1 := (List.cons.inj q).1
        have tq := congrArg List.length q1
        unfold Kwc.cloudWord at tq
        rw [List.length_append, List.length_append, digits_length] at tq
        obtain ⟨_, _, hl⟩ := okSky_layers h
        simp [Kwc.okLayers] at hl
        have ha : 1 ≤ c.amount ∧ c.amount ≤ 4 := by omega
        have : (Kwc.nameOf Kwc.amounts c.amount).length = 3 := by
          have : ∀ a, a < 5 → 1 ≤ a → (Kwc.nameOf Kwc.amounts a).length = 3 := by decide
          exact this _ (by omega) ha.1
        have tl : (Kwc.text "NSC").length = 3 := rfl
        rw [tl] at tq
        omega
    · intro q; cases q
theorem mid_eq {n : Nat} {x : List Wx} {z : Sky} (hz : Kwc.okSky z = true) : tlMid (Kwc.sightWord n) (x.map Kwc.wxWord) (Kwc.skyWords z) = if (n != Kwc.cavok || (x.isEmpty && Kwc.isClear z)) = true then some (if n = Kwc.cavok then [] else x.map Kwc.wxWord ++ Kwc.skyWords z) else none := by
  unfold tlMid
  by_cases h : n = Kwc.cavok
  · have hs := (sightWord_cav n).mpr h
    rw [if_neg (by simp [hs])]
    have e : (x.map Kwc.wxWord).length = 0 ↔ x.isEmpty = true := by cases x <;> simp
    have hb : (n != Kwc.cavok) = false := by simp [h]
    rw [hb, Bool.false_or, if_pos h]
    by_cases q : x.isEmpty = true ∧ Kwc.isClear z = true
    · rw [if_pos ⟨e.mpr q.1, (sky_nsc hz).mpr q.2⟩, if_pos (by rw [Bool.and_eq_true]; exact q)]
    · rw [if_neg (fun c => q ⟨e.mp c.1, (sky_nsc hz).mp c.2⟩), if_neg (by rw [Bool.and_eq_true]; exact q)]
  · have hs : Kwc.sightWord n ≠ cavT := fun q => h ((sightWord_cav n).mp q)
    have hb : (n != Kwc.cavok) = true := by simpa using h
    rw [if_pos hs, hb, if_neg h]; rfl
theorem times13 (l : List Int) : times aNat 13 l = (times aNat 4 l).bind fun a => (times aNat 3 a.2).bind fun b => (times aNat 5 b.2).bind fun c => (aNat c.2).map fun d => (a.1 ++ (b.1 ++ (c.1 ++ [d.1])), d.2) := by
  rw [show (13 : Nat) = 4 + (3 + (5 + 1)) from rfl, times_add]
  cases times aNat 4 l with
  | none => rfl
  | some a =>
    simp only [Option.bind_some]
    rw [times_add]
    cases times aNat 3 a.2 with
    | none => rfl
    | some b =>
      simp only [Option.bind_some]
      rw [times_add]
      cases times aNat 5 b.2 with
      | none => rfl
      | some c =>
        simp only [Option.bind_some]
        rw [times1]
        cases aNat c.2 <;> rfl
def repOf (st mo wi : List Nat) (s : Nat) (t d : Int) (q : Nat) (x : List Wx) (z : Sky) (k : Nat) (c : List Change) : Report :=
  ⟨st, mo.getD 0 0, mo.getD 1 0, mo.getD 2 0, w5 wi, s, x, z, t, d, q, k, c⟩
theorem reportOf_some {l : List Int} {r : Report} : reportOf l = some r ↔ ∃ st l1 mo l2 wi l3 s t d l5 q l6 x l7 z l8 k l9 c, times aNat 4 l = some (st, l1) ∧ times aNat 3 l1 = some (mo, l2) ∧ times aNat 5 l2 = some (wi, l3) ∧ aNat l3 = some (s, t :: d :: l5) ∧ aNat l5 = some (q, l6) ∧ counted aWx l6 = some (x, l7) ∧ aSky l7 = some (z, l8) ∧
    aNat l8 = some (k, l9) ∧ counted aChange l9 = some (c, []) ∧ r = repOf st mo wi s t d q x z k c := by
  unfold Kwc.reportOf
  rw [times13]
  constructor
  · intro e
    simp only [Option.bind_eq_some_iff, Option.map_eq_some_iff] at e
    obtain ⟨⟨a, la⟩, ⟨⟨st, l1⟩, e1, ⟨mo, l2⟩, e2, ⟨wi, l3⟩, e3, ⟨s, l4⟩, e4, e5⟩, e6⟩ := e
    simp only [Prod.mk.injEq] at e5
    obtain ⟨rfl, rfl⟩ := e5
    split at e6
    · rename_i t d r5 el
      dsimp only at el
      subst el
      simp only [Option.bind_eq_some_iff] at e6
      obtain ⟨⟨q, l6⟩, e7, ⟨x, l7⟩, e8, ⟨z, l8⟩, e9, ⟨k, l9⟩, e10, ⟨c, l10⟩, e11, e12⟩ := e6
      dsimp only at e12
      split at e12
      · rename_i he
        have : l10 = [] := by simpa using he
        subst this
        refine ⟨st, l1, mo, l2, wi, l3, s, t, d, r5, q, l6, x, l7, z, l8, k, l9, c, e1, e2, e3, e4, e7, e8, e9, e10, e11, ?_⟩
        have h1 := times_len _ _ _ _ _ e1
        have h2 := times_len _ _ _ _ _ e2
        have h3 := times_len _ _ _ _ _ e3
        match st, h1, mo, h2, wi, h3 with
        | [_, _, _, _], _, [_, _, _], _, [_, _, _, _, _], _ => cases e12; rfl
      · cases e12
    · cases e6
  · rintro ⟨st, l1, mo, l2, wi, l3, s, t, d, l5, q, l6, x, l7, z, l8, k, l9, c, e1, e2, e3, e4, e7, e8, e9, e10, e11, rfl⟩
    have h1 := times_len _ _ _ _ _ e1
    have h2 := times_len _ _ _ _ _ e2
    have h3 := times_len _ _ _ _ _ e3
    rw [e1]; simp only [Option.bind_some]
    rw [e2]; simp only [Option.bind_some]
    rw [e3]; simp only [Option.bind_some]
    rw [e4]; simp only [Option.map_some, Option.bind_some]
    rw [e7]; simp only [Option.bind_some]
    rw [e8]; simp only [Option.bind_some]
    rw [e9]; simp only [Option.bind_some]
    rw [e10]; simp only [Option.bind_some]
    rw [e11]; simp only [Option.bind_some]
    match st, h1, mo, h2, wi, h3 with
    | [_, _, _, _], _, [_, _, _], _, [_, _, _, _, _], _ => rfl
theorem ok_parts {st mo wi : List Nat} {s : Nat} {t d : Int} {q : Nat} {x : List Wx} {z : Sky} {k : Nat} {c : List Change} (h1 : st.length = 4) :
    Kwc.ok (repOf st mo wi s t d q x z k c) = true ↔ st.all Kwc.letter = true ∧ okMom mo = true ∧ Kwc.okWind true (w5 wi) = true ∧ (s == Kwc.cavok || Kwc.okSight s) = true ∧ (Kwc.okDegrees t && Kwc.okDegrees d && decide (d ≤ t)) = true ∧ (decide (850 ≤ q) && decide (q ≤ 1100)) = true ∧
      ((decide (0 ≤ x.length) && decide (x.length ≤ 3)) && x.all Kwc.okWx) = true ∧ Kwc.okSky z = true ∧ (s != Kwc.cavok || (x.isEmpty && Kwc.isClear z)) = true ∧ okTrend (k, c) = true := by
  unfold Kwc.ok repOf okMom okTrend
  simp only [Bool.and_eq_true, h1, beq_self_eq_true, true_and, Nat.zero_le, decide_true]
  constructor
  · rintro ⟨⟨⟨⟨⟨⟨⟨⟨⟨⟨⟨⟨⟨⟨⟨⟨⟨⟨a1, a2⟩, a3⟩, a4⟩, a5⟩, a6⟩, a7⟩, a8⟩, a9⟩, a10⟩, a11⟩, a12⟩, a13⟩, a14⟩, a15⟩, a16⟩, a17⟩, a18⟩, a19⟩
    exact ⟨a1, ⟨⟨a2, a3⟩, a4, a5⟩, a6, a7, ⟨⟨a12, a13⟩, a14⟩, ⟨a15, a16⟩, ⟨a8, a9⟩, a10, a11, ⟨⟨a17, a18⟩, a19⟩⟩
  · rintro ⟨a1, ⟨⟨a2, a3⟩, a4, a5⟩, a6, a7, ⟨⟨a12, a13⟩, a14⟩, ⟨a15, a16⟩, ⟨a8, a9⟩, a10, a11, ⟨⟨a17, a18⟩, a19⟩⟩
    exact ⟨⟨⟨⟨⟨⟨⟨⟨⟨⟨⟨⟨⟨⟨⟨⟨⟨⟨a1, a2⟩, a3⟩, a4⟩, a5⟩, a6⟩, a7⟩, a8⟩, a9⟩, a10⟩, a11⟩, a12⟩, a13⟩, a14⟩, a15⟩, a16⟩, a17⟩, a18⟩, a19⟩
theorem words_eq (st mo wi : List Nat) (s : Nat) (t d : Int) (q : Nat) (x : List Wx) (z : Sky) (k : Nat) (c : List Change) :
    Kwc.wordsOf (repOf st mo wi s t d q x z k c) = [st] ++ [momW (mo.getD 0 0) (mo.getD 1 0) (mo.getD 2 0)] ++ (Kwc.windWord (w5 wi) :: Kwc.sector (w5 wi)) ++ [Kwc.sightWord s] ++ (if s = Kwc.cavok then [] else x.map Kwc.wxWord ++ Kwc.skyWords z) ++ [degPair t d] ++ [prT q] ++ trendW (k, c) := by
  unfold Kwc.wordsOf Kwc.trendWords repOf trendW momW degPair prT
  simp
theorem report_hit {l : List Int} {r : Report} (e : reportOf l = some r) (o : Kwc.ok r = true) : tlReport l = some (Kwc.wordsOf r) := by
  obtain ⟨st, l1, mo, l2, wi, l3, s, t, d, l5, q, l6, x, l7, z, l8, k, l9, c, e1, e2, e3, e4, e7, e8, e9, e10, e11, rfl⟩ := reportOf_some.mp e
  obtain ⟨a1, a2, a3, a4, a5, a6, a7, a8, a9, a10⟩ := (ok_parts (times_len _ _ _ _ _ e1)).mp o
  unfold tlReport
  rw [station_tells.hit e1 a1]; simp only [Option.bind_some]
  rw [moment_tells.hit e2 a2]; simp only [Option.bind_some]
  rw [ws_tells.hit e3 a3]; simp only [Option.bind_some]
  rw [sight_tells.hit e4 a4]; simp only [Option.bind_some]
  rw [degrees_tells.hit (x := (t, d)) (r := l5) rfl a5]; simp only [Option.bind_some]
  rw [press_tells.hit e7 a6]; simp only [Option.bind_some]
  rw [weather_tells.hit e8 a7]; simp only [Option.bind_some]
  rw [sky_tells.hit e9 a8]; simp only [Option.bind_some]
  rw [mid_eq a8, if_pos a9]; simp only [Option.bind_some]
  have et : aTrend l8 = some ((k, c), []) := by unfold aTrend; rw [e10]; simp only [Option.bind_some]; rw [e11]; rfl
  rw [trend_tells.hit et a10]; simp only [Option.bind_some, if_true]
  rw [words_eq]; rfl
theorem report_inv {l : List Int} {ws : List T} (e : tlReport l = some ws) : ∃ r, reportOf l = some r ∧ Kwc.ok r = true ∧ Kwc.wordsOf r = ws := by
  unfold tlReport at e
  simp only [Option.bind_eq_some_iff] at e
  obtain ⟨⟨st, l1⟩, e1, ⟨mo, l2⟩, e2, ⟨wi, l3⟩, e3, ⟨s, l4⟩, e4, ⟨dg, l5⟩, e5, ⟨p, l6⟩, e6, ⟨x, l7⟩, e7, ⟨z, l8⟩, e8, ms, e9, ⟨t, l9⟩, e10, e11⟩ := e
  obtain ⟨st, d1, o1, rfl⟩ := station_tells.inv e1
  obtain ⟨mo, d2, o2, rfl⟩ := moment_tells.inv e2
  obtain ⟨wi, d3, o3, rfl⟩ := ws_tells.inv e3
  obtain ⟨s, d4, o4, rfl⟩ := sight_tells.inv e4
  obtain ⟨⟨t1, t2⟩, d5, o5, rfl⟩ := degrees_tells.inv e5
  obtain ⟨p, d6, o6, rfl⟩ := press_tells.inv e6
  obtain ⟨x, d7, o7, rfl⟩ := weather_tells.inv e7
  obtain ⟨z, d8, o8, rfl⟩ := sky_tells.inv e8
  obtain ⟨⟨k, c⟩, d10, o10, rfl⟩ := trend_tells.inv e10
  dsimp only at e9 e11 d2 d3 d4 d5 d6 d7 d8 d10
  rw [mid_eq o8] at e9
  split at e9
  · rename_i o9
    cases e9
    split at e11
    · rename_i h9
      subst h9
      cases e11
      have hl : l4 = t1 :: t2 :: l5 := by
        unfold aDeg at d5
        split at d5
        · cases d5; rfl
        · cases d5
      unfold aTrend at d10
      simp only [Option.bind_eq_some_iff, Option.map_eq_some_iff] at d10
      obtain ⟨⟨k', lk⟩, f1, ⟨c', lc⟩, f2, f3⟩ := d10
      simp only [Prod.mk.injEq] at f3
      obtain ⟨⟨rfl, rfl⟩, rfl⟩ := f3
      refine ⟨repOf st mo wi s t1 t2 p x z k' c', ?_, ?_, ?_⟩
      · exact reportOf_some.mpr ⟨st, l1, mo, l2, wi, l3, s, t1, t2, l5, p, l6, x, l7, z, l8, k', lk, c', d1, d2, d3, by rw [d4, hl], d6, d7, d8, f1, f2, rfl⟩
      · exact (ok_parts (times_len _ _ _ _ _ d1)).mpr ⟨o1, o2, o3, o4, o5, o6, o7, o8, o9, o10⟩
      · rw [words_eq]; rfl
    · cases e11
  · cases e9
end My
end
section
set_option linter.all false
set_option autoImplicit false
namespace My
open Kwc (Bytes Wind Wx Cloud Sky Change Report From aNat times counted aWx aCloud aSky orNot aWind aChange reportOf)
def cost (ws : List T) : Nat := (ws.map fun t => t.length + 1).sum
theorem cost_app (a b : List T) : cost (a ++ b) = cost a + cost b := by unfold cost; rw [List.map_append, List.sum_append]
theorem cost_cons (a : T) (b : List T) : cost (a :: b) = a.length + 1 + cost b := rfl
theorem cost_nil : cost [] = 0 := rfl
theorem joined_le : ∀ ws : List T, (Kwc.joined ws).length ≤ cost ws
  | [] => Nat.le_refl _
  | [w] => by rw [Kwc.joined, cost_cons]; omega
  | w :: v :: l => by
    rw [Kwc.joined, List.length_append, List.length_cons, cost_cons]
    have := joined_le (v :: l)
    omega
    intro h; cases h
theorem cost_le (ws : List T) (n m : Nat) (h1 : ws.length ≤ n) (h2 : ∀ t ∈ ws, t.length ≤ m) : cost ws ≤ n * (m + 1) := by
  have : ∀ ws : List T, (∀ t ∈ ws, t.length ≤ m) → cost ws ≤ ws.length * (m + 1) := by
    intro ws
    induction ws with
    | nil => intro _; simp [cost]
    | cons a l ih =>
      intro h
      have h1 := ih fun t ht => h t (.tail _ ht)
      have h2 := h a (.head _)
      rw [cost_cons, List.length_cons, Nat.succ_mul]
      omega
  exact Nat.le_trans (this ws h2) (Nat.mul_le_mul_right _ h1)
theorem nm2 : ∀ k : Nat, k < 20 → (Kwc.nameOf Kwc.kinds k).length ≤ 2 := by decide
theorem dn2 : ∀ k : Nat, k < 9 → (dname k).length ≤ 2 := by decide
theorem wxWord_len {x : Wx} (h : Kwc.okWx x = true) : (Kwc.wxWord x).length ≤ 9 := by
  obtain ⟨s, d, ns⟩ := x
  obtain ⟨h1, h2, h3, h4⟩ := okWx_parts h
  rw [wxWord_eq]
  have a1 : (signW s).length ≤ 1 := by unfold signW; split; decide; split <;> decide
  have a2 := dn2 d (by omega)
  have a3 : ∀ ns : List Nat, ns.all rng19 = true → (ns.flatMap (Kwc.nameOf Kwc.kinds)).length ≤ 2 * ns.length := by
    intro ns
    induction ns with
    | nil => intro _; simp
    | cons k l ih =>
      intro h
      rw [List.all_cons, Bool.and_eq_true] at h
      have i := ih h.2
      have hk : 1 ≤ k ∧ k ≤ 19 := by have := h.1; simp [rng19] at this; exact this
      have := nm2 k (by omega)
      rw [List.flatMap_cons, List.length_append, List.length_cons]
      omega
  have := a3 ns h4
  simp only [List.length_append]
  omega
theorem am3 : ∀ k : Nat, k < 5 → (Kwc.nameOf Kwc.amounts k).length ≤ 3 := by decide
theorem ck3 : ∀ k : Nat, k < 3 → (Kwc.nameOf Kwc.cloudKinds k).length ≤ 3 := by decide
theorem lay_len : ∀ {h : Nat} {cs : List Cloud}, Kwc.okLayers h cs = true → ∀ c ∈ cs, (Kwc.cloudWord c).length ≤ 9
  | _, [], _ => fun c hc => by cases hc
  | h, c :: cs, ok => by
    rw [Kwc.okLayers] at ok
    simp only [Bool.and_eq_true] at ok
    intro x hx
    rcases List.mem_cons.mp hx with z | z
    · subst z
      have := ok.1
      simp at this
      have a1 := am3 x.amount (by omega)
      have a2 := ck3 x.kind (by omega)
      unfold Kwc.cloudWord
      rw [List.length_append, List.length_append, digits_length]
      omega
    · exact lay_len ok.2 x z
theorem sky_cost {s : Sky} (h : Kwc.okSky s = true) : cost (Kwc.skyWords s) ≤ 40 := by
  cases s with
  | clear => decide
  | up n => show (Kwc.text "VV" ++ Kwc.digits 3 n).length + 1 + 0 ≤ 40; rw [List.length_append, digits_length]; decide
  | layers cs =>
    obtain ⟨_, h2, h3⟩ := okSky_layers h
    exact cost_le _ 4 9 (by show (cs.map _).length ≤ 4; rw [List.length_map]; exact h2) fun t ht => by
      obtain ⟨c, hc, rfl⟩ := List.mem_map.mp (show t ∈ cs.map Kwc.cloudWord from ht)
      exact lay_len h3 c hc
theorem wx_cost {xs : List Wx} (h1 : xs.length ≤ 3) (h2 : xs.all Kwc.okWx = true) : cost (xs.map Kwc.wxWord) ≤ 30 :=
  cost_le _ 3 9 (by rw [List.length_map]; exact h1) fun t ht => by
    obtain ⟨c, hc, rfl⟩ := List.mem_map.mp ht
    exact wxWord_len (List.all_eq_true.mp h2 c hc)
theorem windWord_len (x : Wind) : (Kwc.windWord x).length ≤ 10 := by
  unfold Kwc.windWord
  simp only [List.length_append, digits_length]
  have a : (if x.dir = 999 then Kwc.text "VRB" else Kwc.digits 3 x.dir).length = 3 := by split; rfl; exact digits_length ..
  have b : (if x.gust = 0 then [] else Kwc.text "G" ++ Kwc.digits 2 x.gust).length ≤ 3 := by
    split
    · decide
    · rw [List.length_append, digits_length]; decide
  rw [a]
  show 3 + 2 + _ + 2 ≤ 10
  omega
theorem sightWord_len (n : Nat) : (Kwc.sightWord n).length ≤ 5 := by
  unfold Kwc.sightWord
  split
  · decide
  · rw [digits_length]; decide
theorem clock_ln (n : Nat) : (Kwc.clock n).length = 4 := by unfold Kwc.clock; rw [List.length_append, digits_length, digits_length]
theorem change_cost {c : Change} (h : Kwc.okChange c = true) : cost (Kwc.changeWords c) ≤ 87 := by
  unfold Kwc.okChange at h
  simp only [Bool.and_eq_true] at h
  obtain ⟨⟨⟨⟨⟨⟨⟨⟨o1, o2⟩, o3⟩, o4⟩, o5⟩, o6⟩, o7⟩, o8⟩, o9⟩ := h
  unfold Kwc.changeWords
  simp only [cost_app]
  have a0 : cost [Kwc.text (if c.kind = 1 then "BECMG" else "TEMPO")] ≤ 6 := by split <;> decide
  have a1 : ∀ (p : T) (o : Option Nat), p.length = 2 → cost (Kwc.listOf (fun t => [p ++ Kwc.clock t]) o) ≤ 7 := fun p o hp => by
    cases o with
    | none => exact Nat.zero_le _
    | some t => show (p ++ Kwc.clock t).length + 1 + 0 ≤ 7; rw [List.length_append, clock_ln, hp]; decide
  have a3 : cost (Kwc.listOf (fun w => [Kwc.windWord w]) c.wind) ≤ 11 := by
    cases c.wind with
    | none => decide
    | some x => show (Kwc.windWord x).length + 1 + 0 ≤ 11; have := windWord_len x; omega
  have a4 : cost (Kwc.listOf (fun n => [Kwc.sightWord n]) c.sight) ≤ 6 := by
    cases c.sight with
    | none => decide
    | some x => show (Kwc.sightWord x).length + 1 + 0 ≤ 6; have := sightWord_len x; omega
  have a5 : cost (Kwc.listOf (fun l => if l.isEmpty then [Kwc.text "NSW"] else l.map Kwc.wxWord) c.wx) ≤ 10 := by
    cases e : c.wx with
    | none => decide
    | some l =>
      rw [e] at o6
      have o6 : (decide (l.length ≤ 1) && l.all Kwc.okWx) = true := o6
      rw [Bool.and_eq_true] at o6
      show cost (if l.isEmpty then [Kwc.text "NSW"] else l.map Kwc.wxWord) ≤ 10
      split
      · decide
      · exact cost_le _ 1 9 (by rw [List.length_map]; exact of_decide_eq_true o6.1) fun t ht => by
          obtain ⟨c, hc, rfl⟩ := List.mem_map.mp ht
          exact wxWord_len (List.all_eq_true.mp o6.2 c hc)
  have a6 : cost (Kwc.listOf Kwc.skyWords c.sky) ≤ 40 := by
    cases e : c.sky with
    | none => decide
    | some s => rw [e] at o7; exact sky_cost o7
  have b1 := a1 (Kwc.text "FM") c.fm rfl
  have b2 := a1 (Kwc.text "TL") c.tl rfl
  omega
theorem words_cost {r : Report} (h : Kwc.ok r = true) : cost (Kwc.wordsOf r) ≤ 390 := by
  have o := rok h
  rw [wordsOf_eq]
  simp only [cost_cons, cost_app]
  have a1 := o.st4
  have a2 : (timeW r).length = 7 := by unfold timeW; simp only [List.length_append, digits_length]; rfl
  have a3 := windWord_len r.wind
  have a4 : cost (Kwc.sector r.wind) ≤ 8 := by
    unfold Kwc.sector
    split
    · decide
    · rw [cost_cons, cost_nil]; simp only [List.length_append, digits_length]; decide
  have a5 := sightWord_len r.sight
  have a6 : cost (midL r) ≤ 70 := by
    unfold midL
    split
    · decide
    · rw [cost_app]
      have := wx_cost o.wx3 o.wx
      have := sky_cost o.sky
      omega
  have dl : ∀ z : Int, (Kwc.degrees z).length ≤ 3 := fun z => by
    unfold Kwc.degrees
    split
    · rw [List.length_append, digits_length]; decide
    · rw [digits_length]; decide
  have a7 : (degW r).length ≤ 7 := by
    unfold degW
    simp only [List.length_append]
    have := dl r.temp
    have := dl r.dew
    show _ + 1 + _ ≤ 7
    omega
  have a8 : (prW r).length = 5 := by unfold prW; rw [List.length_append, digits_length]; rfl
  have a9 : cost (Kwc.trendWords r) ≤ 261 := by
    unfold Kwc.trendWords
    split
    · decide
    · have hc := o.cn
      have hl : r.changes.length ≤ 3 := by
        split at hc
        · rw [Bool.and_eq_true] at hc; exact of_decide_eq_true hc.2
        · have : r.changes = [] := by simpa using hc
          rw [this]; decide
      have : ∀ cs : List Change, cs.all Kwc.okChange = true → cost (cs.flatMap Kwc.changeWords) ≤ 87 * cs.length := by
        intro cs
        induction cs with
        | nil => intro _; simp [cost]
        | cons c l ih =>
          intro h
          rw [List.all_cons, Bool.and_eq_true] at h
          have := ih h.2
          have := change_cost h.1
          rw [List.flatMap_cons, cost_app, List.length_cons]
          omega
      have := this r.changes o.ch
      omega
  rw [a1, a2, a8]
  omega
theorem written_le {r : Report} (h : Kwc.ok r = true) : (Kwc.written r).length ≤ 400 := by
  unfold Kwc.written
  rw [List.length_append]
  have := joined_le (Kwc.wordsOf r)
  have := words_cost h
  show _ + 1 ≤ 400
  omega
theorem write_py (r : List Int) : PyKwc.write r = if 256 < r.length then [-22] else match tlReport r with
    | some ws => (((Kwc.joined ws ++ [61]).length : Nat) : Int) :: (Kwc.joined ws ++ [61]).map fun (b : Nat) => (b : Int)
    | none => [-22] := by
  show (Kwc.answer (.write (if 256 < r.length then [] else r))).value :: (Kwc.answer (.write (if 256 < r.length then [] else r))).out = _
  by_cases h : 256 < r.length
  · rw [if_pos h, if_pos h]; rfl
  · rw [if_neg h, if_neg h]
    unfold Kwc.answer
    dsimp only
    cases e : reportOf r with
    | none =>
      cases e2 : tlReport r with
      | none => rfl
      | some ws =>
        obtain ⟨x, k, _⟩ := report_inv e2
        rw [e] at k; cases k
    | some x =>
      dsimp only
      cases o : Kwc.ok x with
      | false =>
        cases e2 : tlReport r with
        | none => rfl
        | some ws =>
          obtain ⟨y, k, o2, _⟩ := report_inv e2
          rw [e] at k; cases k
          rw [o] at o2; cases o2
      | true =>
        rw [report_hit e o]
        rw [if_neg (by decide), if_neg (by have := written_le o; unfold Kwc.most; omega)]
        rfl
end My
end
section
set_option Elab.async false
set_option linter.all false
set_option maxRecDepth 100000
set_option maxHeartbeats 2000000
namespace L2
open PySem PySem.Spec PyProof.Rows
def bmV : List Value := [.type "ValueError", .type "Exception", .type "BaseException", .type "object"]
structure ExcC (K : PySem.W.Frag) (mg : Str → Option Value) (x : Str) (C : Addr) : Prop where
  bound : mg x = some (.ref C)
  exc : PySem.W.excIn K C bmV "ValueError.__new__" = true
theorem ExcC.own {K : PySem.W.Frag} {mg : Str → Option Value} {x : Str} {C : Addr} {h : Heap} (e : ExcC K mg x C) (X : K.In h) : OwnCls x C bmV "ValueError.__new__" mg h := by
  refine ⟨e.bound, ?_⟩
  have w := e.exc
  unfold PySem.W.excIn at w
  split at w
  · rename_i d0 c0 sl0 look0
    split at w
    · rename_i C1 tl0 y0 y1 y2 y3 nw0 y5 mro0 sls0
      simp only [Bool.and_eq_true, beq_iff_eq, Bool.not_eq_true'] at w
      obtain ⟨⟨⟨⟨⟨e1, e2⟩, e3⟩, e4⟩, e5⟩, e6⟩ := w
      subst e1 e2
      cases c0 with
      | mk a1 a2 a3 a4 a5 a6 a7 a8 a9 a10 a11 =>
        dsimp only at mro0 e3 e5 e6
        subst mro0 e3
        have es : sl0 = #[y0, y1, y2, y3, some (.builtin "ValueError.__new__"), y5] := by
          cases sl0 with
          | mk l0 =>
            simp only at sls0
            rw [sls0]
        subst es
        exact ⟨tl0, a4, a1, a5, a2, a6, a7, a8, a9, a10, d0, y0, y1, y2, y3, y5, _, X _ _ look0, .of_isNs (PySem.W.isNs_of_in X e5), PySem.W.nsMap_none_of_in X e5 e6, PySem.W.tail_of_in X e4⟩
    · cases w
  · cases w
theorem ObjOk.obj {P : Program} {w : World} {H : Hp} {h : Heap} {a : Addr} {o : HO} (x : ObjOk P w H h a o) : ∃ ob, h.get? a = some ob := by
  cases o with
  | lst xs => obtain ⟨_, its, n, _, e⟩ := x; exact ⟨_, e⟩
  | tup xs => obtain ⟨_, its, _, ob, e, _⟩ := x; exact ⟨_, e⟩
  | dK kvs => obtain ⟨_, _, vs, _, ob, _, _, e, _⟩ := x; exact ⟨_, e⟩
  | dT kvs => obtain ⟨_, _, vs, _, ob, _, _, e, _⟩ := x; exact ⟨_, e⟩
  | set S n => obtain ⟨ob, _, _, _, e, _⟩ := x; exact ⟨_, e⟩
  | ins C dx fs => obtain ⟨_, _, _, e, _⟩ := x; exact ⟨_, e⟩
  | own y => exact x
  | xd fs => obtain ⟨_, ⟨ob, _, _, e, _⟩, _⟩ := x; exact ⟨_, e⟩
  | rng lo hi => obtain ⟨_, _, _, e⟩ := x; exact ⟨_, e⟩
  | frz ob u => obtain ⟨e, _⟩ := x; exact ⟨_, e⟩
  | tbl ps => exact ⟨_, (show h.get? a = some _ from x)⟩
  | met f y => exact ⟨_, (show h.get? a = some _ from x)⟩
  | ext φ => obtain ⟨_, e, _⟩ := x; exact e
theorem HOk.part {P : Program} {w : World} {H : Hp} {h h' : Heap} (x : HOk P w H h) (k : ∀ b o, (∃ u, H b = some u) → h.get? b = some o → h'.get? b = some o) : HOk P w H h' := fun a o e =>
  (x a o e).stay (fun b u hb q => k b u (by
    rcases hb with z | z
    · exact ⟨o, by rw [z]; exact e⟩
    · exact ⟨_, z⟩) q) (fun _ q => q) fun _ _ q => q
def Cover (fs : List Addr) (H : Hp) (h0 G h : Heap) : Prop := ∀ b o, h.get? b = some o → b ∉ fs → ((∃ u, H b = some u) ∨ ∃ o0, h0.get? b = some o0) → G.get? b = some o
def Fly (outer : List Env) (H : Hp) (h0 : Heap) (C ea : Addr) (h : Heap) : Prop :=
  ∃ (G : Heap) (a0 : Value), Heap.FlyingW G outer ea (.ref C) a0 h ∧ Cover (frs outer) H h0 G h
def CXe (P : Program) (w : World) (C : Addr) : CXT := fun outer H s E e s' =>
  ∃ ea H', e = .ref ea ∧ s'.os = s.os ∧ AllBare s'.gens ∧ Un (frs outer) [] H H' s.heap s'.heap ∧ HOk P w H' s'.heap ∧ Fly outer H' s.heap C ea s'.heap ∧ E (.ref C) none H'
def NoRec (fs : List Addr) (h : Heap) : Prop := ∀ b ∈ fs, ∀ o, h.get? b = some o → ∀ vs, o.data ≠ .fields vs
theorem norec_of {h base : Heap} {l : List Env} (f : h.FunFrames base l) : NoRec (frs l) h := fun b hb o e vs q => by
  obtain ⟨_, o', e', hn⟩ := f.mem hb
  rw [e] at e'
  cases e'
  exact hn vs q
theorem Un.touch {fs : List Addr} {H H' : Hp} {h h' h'' G : Heap} (u : Un fs [] H H' h h') (c : Cover fs H' h G h') (nr : NoRec fs h') (st : G.StaysIn h'') (sl : h'.UpToSlots h'') : Un fs [] H H' h h'' where
  keep := fun b o e n hb hx => st b o (c b o (u.keep b o e n hb hx) hb (.inr ⟨o, e⟩))
  slot := fun b o e n hb hx => by
    obtain ⟨s1, q⟩ := u.slot b o e n hb hx
    obtain ⟨s2, q2⟩ := sl b _ q (nr b hb _ q)
    exact ⟨s2, q2⟩
  free := u.free
  there := fun b o e hx => by
    obtain ⟨o', q⟩ := u.there b o e hx
    by_cases hb : b ∈ fs
    · obtain ⟨s2, q2⟩ := sl b _ q (nr b hb _ q)
      exact ⟨_, q2⟩
    · exact ⟨o', st b o' (c b o' q hb (.inr ⟨o, e⟩))⟩
  tups := u.tups
  frzs := u.frzs
  tbls := u.tbls
theorem HOk.touch {P : Program} {w : World} {fs : List Addr} {H : Hp} {h h0 h' G : Heap} (x : HOk P w H h) (c : Cover fs H h0 G h) (fr : ∀ b ∈ fs, H b = none) (st : G.StaysIn h') : HOk P w H h' :=
  x.part fun b o ⟨u, hu⟩ e => st b o (c b o e (fun hb => by rw [fr b hb] at hu; cases hu) (.inl ⟨u, hu⟩))
theorem noch {X : Cx} {pins : List (Addr × Obj)} : ∀ b ∈ ([] : List Addr), (b ∈ X.ex ∨ X.s_0.heap.objs.size ≤ b) ∧ b ≠ X.env.locals ∧ (∀ x c, X.env.cells.lookup x = some c → c ≠ b) ∧ ∀ p ∈ X.pn ++ pins, p.1 ≠ b := fun _ z => nomatch z
structure Leaves (X : Cx) (C : Addr) (E : XK) (outer : List Env) : Prop where
  stk : X.stack = X.env :: outer
  out : X.outer = outer
  fr : X.env.frame = some X.env.locals
  ex : X.ex = []
  xe : ∀ (ea : Addr) (s : Shared), wpAny (model X.prog X.w) X.A (leaving X.env (.ref ea)) (fun _ s'' => CXe X.prog X.w C outer X.H_0 X.s_0 E (.ref ea) s'') (fun e' s'' => CXe X.prog X.w C outer X.H_0 X.s_0 E e' s'') s → X.xe (.ref ea) s
theorem leaves_cxOf {P : Program} {w : World} {K : PySem.W.Frag} {mg : Str → Option Value} {base : Heap} {N : List Str} {qual : Str} {scope : Scope} {f : Addr} {cd : Value} {A : Around} {outer : List Env} {s : Shared} {H : Hp} {E : XK} {C : Addr} :
    Leaves (cxOf (CXe P w C) P w K mg base N qual scope f cd A outer s H E) C E outer := ⟨rfl, rfl, rfl, rfl, fun _ _ h => h⟩
section
variable {X : Cx} {C : Addr} {E : XK} {outer : List Env} {pins : List (Addr × Obj)} {σ : St} {H H' : Hp} {s s' : Shared}
theorem Inv.left {ea : Addr} {a0 : Value} {h'' G : Heap} (L : Leaves X C E outer) (I : Inv X pins σ H s) (ho : s'.os = s.os) (hg : AllBare s'.gens) (u : Un (frs X.stack) [] H H' s.heap s'.heap) (hok : HOk X.prog X.w H' s'.heap)
    (c : Cover (frs X.stack) H' s.heap G s'.heap) (fl : Heap.FlyingW G outer ea (.ref C) a0 h'') (sl : s'.heap.UpToSlots h'') (hE : E (.ref C) none H') : CXe X.prog X.w C outer X.H_0 X.s_0 E (.ref ea) { s' with heap := h'' } := by
  have I1 : Inv X pins σ H' s' := I.call' ho u hok hg noch
  have nr : NoRec (frs X.stack) s'.heap := norec_of I1.stack
  have u2 : Un (frs X.stack) [] H H' s.heap h'' := u.touch c nr fl.1 sl
  have hok2 : HOk X.prog X.w H' h'' := hok.touch c I1.stkFree fl.1
  have I2 : Inv X pins σ H' { s' with heap := h'' } := I.call' (s' := { s' with heap := h'' }) ho u2 hok2 hg noch
  have b2 := I2.base
  rw [show X.fs = frs outer by show frs X.outer = _; rw [L.out], L.ex] at b2
  refine ⟨ea, H', rfl, I2.os, hg, b2, hok2, ⟨G, a0, fl, fun b o e hb ht => ?_⟩, hE⟩
  have hbL : b ≠ X.env.locals := fun z => by
    rcases ht with ⟨v, hv⟩ | ⟨o0, h0⟩
    · rw [z, I1.free] at hv; cases hv
    · exact absurd (Nat.lt_of_lt_of_le (Heap.lt_size h0) I.ok.above) (by rw [z]; exact Nat.lt_irrefl _)
  have hbs : b ∉ frs X.stack := fun z => by
    rcases List.mem_cons.mp (I.stkSub b z) with q | q
    · exact hbL q
    · exact hb (by rw [show X.fs = frs outer by show frs X.outer = _; rw [L.out]] at q; exact q)
  obtain ⟨o1, e1, t1⟩ : ∃ o1, s'.heap.get? b = some o1 ∧ ((∃ u, H' b = some u) ∨ ∃ o0, s.heap.get? b = some o0) := by
    rcases ht with ⟨v, hv⟩ | ⟨o0, h0⟩
    · obtain ⟨o1, e1⟩ := (hok b v hv).obj
      exact ⟨o1, e1, .inl ⟨v, hv⟩⟩
    · obtain ⟨o1, e1⟩ := I1.base.there b o0 h0 (by rw [L.ex]; simp)
      obtain ⟨o2, e2⟩ := I.base.there b o0 h0 (by rw [L.ex]; simp)
      exact ⟨o1, e1, .inr ⟨o2, e2⟩⟩
  have q1 := c b o1 e1 hbs t1
  have q2 := fl.1 b o1 q1
  rw [q2] at e
  cases e
  exact q1
theorem passes_on (L : Leaves X C E outer) : Passes (CXe X.prog X.w C) X E := by
  intro pins σ H s e s' I h
  obtain ⟨ea, H', rfl, ho, hg, u, hok, ⟨G, a0, fl, c⟩, hE⟩ := h
  refine L.xe ea s' ?_
  have hst := L.stk
  rw [hst] at fl
  refine wpAny_leaves_onW (by rw [I.ok.frames, hst]) L.fr fl fun h'' f2 sl => ?_
  exact I.left L ho hg u hok c f2 sl hE
def tRaise (C : Addr) (E : XK) (t : TA) : TS := fun _ σ H => t σ H fun xs H1 => xs.length ≤ sizeLine ∧ E (.ref C) none H1
theorem ps_raise {x : Str} {np cpos pos : Pos} {e₀ : Expr} {rest : List Expr} {ta : TA} (L : Leaves X C E outer) (hc : X.calm = true) (O : ExcC X.K X.mg x C) (hg : Gl X x) (ha : PA X (e₀ :: rest) ta)
    (he : starEach (e₀ :: rest) X.env = (false, eval e₀ X.env) :: starEach rest X.env := by rfl) (hpl : (backTo cpos (starEach rest X.env)).any (·.1) = false := by rfl) (hd : (x == ("__debug__" : Str)) = false := by decide) :
    PS X (.Raise (some (.Call (.Name x np) (e₀ :: rest) [] cpos)) none pos) (tRaise C E ta) := by
  intro pins s σ H D I h
  obtain ⟨tl, N, nm, qn, bs, hdct, sn, sub, ab, col, dd, k0, k1, k2, k3, k5, mN, hC, hN, hni, T⟩ := (O.own I.ok.mod.kin).obj
  refine wpAny_Raise_call_subT (C := C) (nm := nm) (q := qn) (N := N) (bs := bs) (bm := tl) (hdct := hdct) (sn := sn) (sub := sub) (ab := ab)
    (col := col) (dd := dd) (k0 := k0) (k1 := k1) (k2 := k2) (k3 := k3) (k5 := k5) PySem.F.excBase_ValueError (mN := mN) (T.hasType (by decide +kernel)) (I.ok.hd hc)
    (by rw [he]; show (false || (backTo cpos (starEach rest X.env)).any (·.1)) = false; rw [hpl]; rfl) hni ?_
  refine ld_glob I hg O.bound ⟨rfl, ?_⟩ hd
  have hA := ha cpos pins s σ H _ I h
  rw [he] at hA ⊢
  refine Calls.evalArgs_plain (thn hA fun us s2 ⟨vs, H2, I2, r2, hz, hE⟩ => ?_)
  refine ⟨rfl, by rw [← r2.length]; exact hz, I2.bk _ _ hC, hN.keeps I2.bk, T.keeps I2.bk, fun h' ea hm => ?_⟩
  refine L.xe ea _ ?_
  have hin : ∀ env ∈ X.stack, ∀ b, env.frame = some b → b ∈ frs X.stack := fun env hv b hb => List.mem_filterMap.mpr ⟨env, hv, hb⟩
  have ff := PySem.W.funFrames_hide I2.stack hin
  rw [L.stk] at ff
  refine wpAny_leaves_madeW (h := s2.heap) (by rw [I.ok.frames, L.stk]) L.fr (fun b o q => PySem.W.of_hideAll _ q) ff hm fun h'' t x1 x2 x3 x4 => ?_
  have cov : Cover (frs X.stack) H2 s2.heap (PySem.W.hideAll s2.heap (frs X.stack)) h' := fun b o e hb ht => by
    obtain ⟨o1, e1⟩ : ∃ o1, s2.heap.get? b = some o1 := by
      rcases ht with ⟨v, hv⟩ | z
      · exact (I2.hok b v hv).obj
      · exact z
    have e2 := hm.keeps b o1 e1
    rw [e2] at e
    cases e
    exact PySem.W.hideAll_get _ e1 hb
  have fl := x1
  rw [← L.stk] at fl
  exact I2.left (s' := { s2 with heap := h' }) L rfl I2.bare (Un.kept hm.keeps) (I2.hok.kept hm.keeps) cov fl x4 hE
abbrev Cx.inEx (X : Cx) (ea : Addr) : Cx := { X with A := X.A.mark (some (.ref ea)), calm := false, xe := fun _ _ => False }
abbrev Cx.tries (X : Cx) (pins : List (Addr × Obj)) (E' : Value → Shared → Prop) : Cx := { X with pn := X.pn ++ pins, xe := E' }
theorem Inv.tries (I : Inv X pins σ H s) (E' : Value → Shared → Prop) : Inv (X.tries pins E') [] σ H s :=
  ⟨⟨I.ok.mod, I.ok.kind, I.ok.glob, I.ok.blt, I.ok.above, I.ok.inj, I.ok.has, I.ok.cab, I.ok.hd, I.ok.frames, I.ok.stk, I.ok.exf, I.ok.bs, I.ok.bsz, I.ok.noex, I.ok.exfs, I.ok.funs, I.ok.frf⟩,
    I.os, I.bare, I.base, I.loc, I.cell, I.free, I.freeC, fun p hp => I.pin p (by simpa using hp), I.hok, I.len⟩
theorem Inv.untries {E' : Value → Shared → Prop} {pins' : List (Addr × Obj)} (I : Inv (X.tries pins E') pins' σ H s) : Inv X pins σ H s :=
  ⟨⟨I.ok.mod, I.ok.kind, I.ok.glob, I.ok.blt, I.ok.above, I.ok.inj, I.ok.has, I.ok.cab, I.ok.hd, I.ok.frames, I.ok.stk, I.ok.exf, I.ok.bs, I.ok.bsz, I.ok.noex, I.ok.exfs, I.ok.funs, I.ok.frf⟩,
    I.os, I.bare, I.base, I.loc, I.cell, I.free, I.freeC, fun p hp => I.pin p (List.mem_append_left _ hp), I.hok, I.len⟩
theorem Inv.inEx (I : Inv X pins σ H s) (ea : Addr) : Inv (X.inEx ea) pins σ H s :=
  ⟨⟨I.ok.mod, I.ok.kind, I.ok.glob, I.ok.blt, I.ok.above, I.ok.inj, I.ok.has, I.ok.cab, fun z => (by cases z), I.ok.frames, I.ok.stk, I.ok.exf, I.ok.bs, I.ok.bsz, I.ok.noex, I.ok.exfs, I.ok.funs, I.ok.frf⟩,
    I.os, I.bare, I.base, I.loc, I.cell, I.free, I.freeC, I.pin, I.hok, I.len⟩
theorem Inv.unEx {ea : Addr} (hd : X.calm = true → X.A.handled = none) (I : Inv (X.inEx ea) pins σ H s) : Inv X pins σ H s :=
  ⟨⟨I.ok.mod, I.ok.kind, I.ok.glob, I.ok.blt, I.ok.above, I.ok.inj, I.ok.has, I.ok.cab, hd, I.ok.frames, I.ok.stk, I.ok.exf, I.ok.bs, I.ok.bsz, I.ok.noex, I.ok.exfs, I.ok.funs, I.ok.frf⟩,
    I.os, I.bare, I.base, I.loc, I.cell, I.free, I.freeC, I.pin, I.hok, I.len⟩
theorem SP.unEx {ea : Addr} {D : Ends} {f : Flow} (hd : X.calm = true → X.A.handled = none) (h : SP (X.inEx ea) pins D f s') : SP X pins D f s' := by
  cases f with
  | next => obtain ⟨a, b, I, q⟩ := h; exact ⟨a, b, I.unEx hd, q⟩
  | brk => obtain ⟨a, b, I, q⟩ := h; exact ⟨a, b, I.unEx hd, q⟩
  | cont => obtain ⟨a, b, I, q⟩ := h; exact ⟨a, b, I.unEx hd, q⟩
  | ret u => obtain ⟨v, a, b, I, r, q⟩ := h; exact ⟨v, a, b, I.unEx hd, r, q⟩
theorem SP.untries {E' : Value → Shared → Prop} {D : Ends} {f : Flow} (h : SP (X.tries pins E') [] D f s') : SP X pins D f s' := by
  cases f with
  | next => obtain ⟨a, b, I, q⟩ := h; exact ⟨a, b, I.untries, q⟩
  | brk => obtain ⟨a, b, I, q⟩ := h; exact ⟨a, b, I.untries, q⟩
  | cont => obtain ⟨a, b, I, q⟩ := h; exact ⟨a, b, I.untries, q⟩
  | ret u => obtain ⟨v, a, b, I, r, q⟩ := h; exact ⟨v, a, b, I.untries, r, q⟩
def exTry (th : TS) (D : Ends) (n : Nat) : XK := fun _ _ H' => ∀ σ' : St, σ'.length = n → th D σ' H'
def tTry (tb : XK → TS) (th : TS) : TS := fun D σ H => tb (exTry th D σ.length) D σ H
theorem ps_try {x : Str} {np hpos pos : Pos} {body suite : List Stmt} {b₀ : Stmt} {tb : XK → TS} {th : TS} (hstk : X.stack = X.env :: outer) (hfr : X.env.frame = some X.env.locals) (O : ExcC X.K X.mg x C) (hg : Gl X x)
    (hb : ∀ pins E' EX, Passes (CXe X.prog X.w C) (X.tries pins E') EX → PSs (X.tries pins E') body (tb EX)) (hs : ∀ ea, PSs (X.inEx ea) (b₀ :: suite) th) (hd : (x == ("__debug__" : Str)) = false := by decide) :
    PS X (.Try body [.ExceptHandler (some (.Name x np)) none (b₀ :: suite) hpos] [] [] pos) (tTry tb th) := by
  intro pins s σ H D I h
  refine wpAny_Try_except (wpAny_mono (hb pins _ (exTry th D σ.length) ?_ [] s σ H D (I.tries _) h) (fun f s1 q => ?_) fun e s1 q => q)
  · intro pins1 σ1 H1 s1 e s1' I1 hcx
    obtain ⟨ea, H', rfl, ho, hgn, u, hok, ⟨G, a0, fl, c⟩, hE⟩ := hcx
    have I0 : Inv X pins σ1 H1 s1 := I1.untries
    have c : Cover (frs X.stack) H' s1.heap G s1'.heap := c
    have u : Un (frs X.stack) [] H1 H' s1.heap s1'.heap := u
    have fl : Heap.FlyingW G (X.env :: outer) ea (.ref C) a0 s1'.heap := hstk ▸ fl
    have I1' : Inv X pins σ1 H' s1' := I0.call' ho u hok hgn noch
    have nr : NoRec (frs X.stack) s1'.heap := norec_of I1'.stack
    have back : ∀ h6, G.StaysIn h6 → s1'.heap.UpToSlots h6 → Inv X pins σ1 H' { s1' with heap := h6 } := fun h6 st sl =>
      I0.call' (s' := { s1' with heap := h6 }) ho (u.touch c nr st sl) (hok.touch c I1'.stkFree st) hgn noch
    refine wpAny_looks_onW (by rw [I.ok.frames, hstk]) hfr fl fun h4 hd4 sl4 => ?_
    refine wpAny_landsW hd4 fun h5 fl5 sl5 => ?_
    have I5 := back h5 fl5.1 (sl4.trans sl5)
    have I5' : Inv (X.inEx ea) pins σ1 H' { s1' with heap := h5 } := I5.inEx ea
    refine wpAny_handleBy_cons (codeAny_handlers_test ?_) (by intro z; cases z)
    refine ld_glob (X := X.inEx ea) I5' hg O.bound ?_ hd
    obtain ⟨ob, hob, hobc⟩ := fl5.there
    obtain ⟨tl, N, nm, qn, bs, hdct, sn, sub, ab, col, dd, k0, k1, k2, k3, k5, mN, hC, hN, hni, T⟩ := (O.own I5.kIn).obj
    refine wpAny_excMatches_sub_self hC hob hobc (T.hasType (by decide +kernel)) (codeAny_handlers_suite ?_)
    refine lands_againW fl5 fun h6 fl6 sl6 => ?_
    have I6 := back h6 fl6.1 ((sl4.trans sl5).trans sl6)
    refine wpAny_mono (hs ea pins _ σ1 H' D (I6.inEx ea) (hE σ1 (by rw [I6.len, I.len]))) (fun f s2 q => ?_) fun _ _ z => False.elim z
    exact q.unEx I.ok.hd
  · have q' := q.untries
    cases f with
    | next =>
      obtain ⟨a, b, J, w⟩ := q'
      exact wpAny_execs_nil ⟨a, b, J, w⟩
    | brk => exact q'
    | cont => exact q'
    | ret v => exact q'
end
section
variable {P : Program} {w : World} {K : PySem.W.Frag} {mg : Str → Option Value} {base : Heap} {C : Addr}
theorem Fun.okE {x qual : Str} {st : Stmt} {f : Addr} {fd : FuncData} {N ps : List Str} {k : Nat} {sp : Sp} (F : Fun K x qual st f fd) (S : FnScope N ps (defScope st)) (len : ∀ vs H Q E, sp vs H Q E → vs.length = ps.length)
    (hbody : ∀ (X : Cx) (outer : List Env) (cdv : Value) (A : Around) (s : Shared) (H : Hp) (vs : List V) (Q : VK) (E : XK), Room k (A.deeper (envOfC qual (defScope st) s.heap.objs.size f cdv)) → sp vs H Q E →
      X = cxOf (CXe P w C) P w K mg base N qual (defScope st) f cdv A outer s H E → Leaves X C E outer →
      ∃ t, PSs X (defBody st) t ∧ t { nx := fun _ H' => Q .non H', rt := Q } (start N vs) H) : FnOk P w K mg base (CXe P w C) (k + 1) f fd ps sp := by
  obtain ⟨oc, od, kV, doc, pm, an, cdv, ct, osl, rfl, lk, hcd⟩ := F.ex
  exact fn_of lk hcd S len fun A outer s H vs Q E hr hsp => hbody _ outer cdv A s H vs Q E hr hsp rfl leaves_cxOf
end
section
variable {X : Cx} {CX : CXT} {E : XK} {x : Str} {p pos : Pos} {e : Expr} {es : List Expr} {t : TA}
structure Callee (X : Cx) (CX : CXT) (f : Addr) (sp : Sp) : Prop where
  ok : ∃ (k : Nat) (fd : FuncData) (ps : List Str), FnOk X.prog X.w X.K X.mg X.base CX k f fd ps sp ∧ Room k X.A ∧ Binds X.K fd ps []
  kp : PySem.W.keepIn X.K (.ref f) = true
def tCallV (X : Cx) (CX : CXT) (E : XK) (i : Nat) (t : TA) : TE := fun σ H Q => ∃ f sp, σ[i]? = some (some (.ref f)) ∧ Callee X CX f sp ∧ t σ H fun vs H1 => sp vs H1 Q E
theorem pe_callV {i : Nat} (hN : X.N[i]? = some x) (hv : Vis X.env.scope x) (hx : Passes CX X E) (ha : PA X (e :: es) t) (hd : (x == ("__debug__" : Str)) = false := by decide) (hcd : (x == ("__classdict__" : Str)) = false := by decide)
    (he : starEach (e :: es) X.env = (false, eval e X.env) :: starEach es X.env := by rfl) (hpl : (backTo pos (starEach es X.env)).any (·.1) = false := by rfl) : PE X (.Call (.Name x p) (e :: es) [] pos) (tCallV X CX E i t) := by
  intro pins s σ H Q I h
  obtain ⟨f, sp, hi, ⟨⟨k, fd, ps, F, hr, hb⟩, hk⟩, h⟩ := h
  refine wpAny_Call_Name_kw ?_
  refine thn (pe_var (pos := p) hN hv hd hcd pins s σ H (fun v H1 => v = .ref f ∧ H1 = H) I ⟨_, hi, rfl, rfl⟩) fun u s0 ⟨v, H0, I0, r0, e0, e1⟩ => ?_
  subst e0 e1
  cases r0
  refine PySem.W.callWith_K (h₀ := X.base) I.ok.mod.kin hk (thn (ha pos pins s0 σ H0 _ I0 h) fun us s1 ⟨vs, H1, I1, r, q⟩ => ⟨I1.kIn, ?_⟩) he hpl
  exact run_fn (dvs := []) (ds := []) F hr hb .nil hx I1 r (by rw [List.append_nil]; exact q)
end
end L2
end
section
set_option Elab.async false
set_option linter.all false
set_option maxRecDepth 100000
set_option maxHeartbeats 4000000
namespace L2
open PySem PySem.Spec PyProof.Rows
section
variable {X : Cx}
theorem bools_at : ∀ {bs : List Bool} {us : List Value}, Vals (bs.map V.bl) us → ∀ (i : Nat) (v : Value), us[i]? = some v → ∃ b, bs[i]? = some b ∧ v = .bool b
  | [], us, r, i, v, h => by cases r; simp at h
  | b :: bs, us, r, 0, v, h => by
    cases r with
    | cons r1 r2 =>
      have e : _ = Value.bool b := r1
      subst e
      simp at h
      exact ⟨b, rfl, h.symm⟩
  | b :: bs, us, r, i + 1, v, h => by
    cases r with
    | cons r1 r2 =>
      simp only [List.getElem?_cons_succ] at h ⊢
      exact bools_at r2 i v h
theorem range_getD : ∀ bs : List Bool, ((List.range bs.length).all fun i => (bs[i]?).getD true) = bs.all id := by
  intro bs
  rw [Bool.eq_iff_iff, List.all_eq_true, List.all_eq_true]
  constructor
  · intro h b hb
    obtain ⟨i, hi, e⟩ := List.mem_iff_getElem.mp hb
    have := h i (by simpa using hi)
    rw [List.getElem?_eq_getElem hi, e] at this
    exact this
  · intro h i hi
    have hi' : i < bs.length := by simpa using hi
    rw [List.getElem?_eq_getElem hi']
    exact h _ (List.getElem_mem hi')
theorem call_allB (hcalm : X.calm = true) : CallR X (.builtin "all") (fun xs H Q => ∃ (p : Addr) (bs : List Bool), xs = [.ref p] ∧ SqL X.K H p (bs.map V.bl) ∧ Q (.bl (bs.all id)) H) := by
  intro pins s σ H xs us Q I r h
  obtain ⟨p, bs, rfl, hs, q⟩ := h
  obtain ⟨u, rfl, rx⟩ := vals1 r
  cases rx
  obtain ⟨its, rv, hl, hz⟩ := I.list hs
  have hlen : bs.length = its.length := by have := rv.length; rwa [List.length_map] at this
  have hlt : p < s.heap.objs.size := by
    obtain ⟨_, e, _⟩ := hl.isList
    exact Heap.lt_size e
  refine call_all_walk (wpAny_pyIter_list hl.isList ?_)
  have W := Walks.list (prog := X.prog) (w := X.w) (A := X.A.in1) (I.ok.hd hcalm) s.heap.objs.size p (Nat.ne_of_lt hlt) its.toArray
  refine ⟨s.heap.objs.size, _, _, _, _, _, fun i => (bs[i]?).getD true, rfl, W, ⟨⟨_, Heap.get?_push_size _ rfl, rfl, rfl⟩, hl.isList.push _⟩, ?_, ?_⟩
  · intro i v s' Q' E' hP hQ
    obtain ⟨b, e, rfl⟩ := bools_at rv i v (by simpa using hP)
    simp only [e, Option.getD_some] at hQ
    exact wpAny_truthy_bool hQ
  · intro h' tk hk
    have e : ((List.range its.toArray.size).all fun i => (bs[i]?).getD true) = bs.all id := by
      rw [List.size_toArray, ← hlen, range_getD]
    rw [e]
    refine ⟨.bl _, H, I.kept (h' := h') (t' := tk) (fun b o eb => hk b o (fun hm => ?_) (Heap.get?_push_of_some _ eb)), rfl, q⟩
    have : b = s.heap.objs.size := by simpa using hm
    subst this
    exact Nat.lt_irrefl _ (Heap.lt_size eb)
end
def ddS (acc : List Str) (v : Str) : List Str := if acc.any (· == v) then acc else acc ++ [v]
def metS (val : Nat → Str) (i : Nat) : List Str := ((List.range i).map val).foldl ddS []
theorem metS_succ (val : Nat → Str) (i : Nat) : metS val (i + 1) = ddS (metS val i) (val i) := by
  unfold metS
  rw [List.range_succ, List.map_append, List.foldl_append]
  rfl
theorem ddS_len (acc : List Str) (v : Str) : (ddS acc v).length = if acc.any (· == v) then acc.length else acc.length + 1 := by
  unfold ddS
  split <;> simp
theorem metS_le (val : Nat → Str) : ∀ i, (metS val i).length ≤ i
  | 0 => Nat.le_refl _
  | i + 1 => by
    rw [metS_succ, ddS_len]
    have := metS_le val i
    split <;> omega
theorem ddS_any (acc : List Str) (v k : Str) : (ddS acc v).any (· == k) = (acc.any (· == k) || decide (k = v)) := by
  unfold ddS
  by_cases h : acc.any (· == v) = true
  · rw [if_pos h]
    by_cases e : k = v
    · subst e; rw [h]; rfl
    · rw [decide_eq_false e, Bool.or_false]
  · rw [if_neg h, List.any_append]
    congr 1
    by_cases e : k = v
    · subst e
      simp
    · have hb : (v == k) = false := beq_eq_false_iff_ne.mpr fun q => e q.symm
      rw [List.any_cons, List.any_nil, hb, decide_eq_false e]
      rfl
section
variable {prog : Program} {w : World} {A : Around} {R : Result → Shared → Prop} {I : Addr} {fp wr : List Addr} {G : Array GenState → Array GenState → Prop} {n : Nat} {P : Nat → Value → Prop} {St : Nat → Shared → Prop}
theorem str_scan (x : Str) (t : Tok) : (Value.str x t).scannable = true := rfl
theorem set_loopS (W : WalksS prog w A.in1 I fp wr G n P St) (S : Addr) (hSf : S ∉ fp) (val : Nat → Str) (hval : ∀ i v, P i v → ∃ t, v = .str (val i) t) (hb : n + 1 < scanBound) :
    ∀ (k i : Nat) (s : Shared), n - i = k → i ≤ n → St i s → s.heap.SetOf (strKind prog w) S (fun z => (metS val i).any (· == z)) (metS val i).length →
      (∀ s', Moved (S :: wr) G s s' → s'.heap.SetOf (strKind prog w) S (fun z => (metS val n).any (· == z)) (metS val n).length → R (.ok (.ret .none)) s') →
      codeAny (model prog w) A (.builtin "set.update.loop" ⟨[.ref S, .ref I], []⟩) R s := by
  have hSw : S ∉ wr := fun z => hSf (W.sub _ z)
  have wider : ∀ b ∈ wr, b ∈ S :: wr := fun b z => List.mem_cons_of_mem _ z
  intro k
  induction k with
  | zero =>
    intro i s hk hi hst hS hR
    obtain rfl : i = n := by omega
    refine codeAny_builtin PyProof.Rows.F.entry_set_update_loop ?_
    rw [Around.under_plainId PyProof.Rows.F.plain_set_update_loop _]
    show wpAny _ A.in1 (pyNext (.ref I) >>= _) _ _ s
    refine wpAny_bind (W.done s _ _ hst fun s' hm => ?_)
    refine wpAny_pure (hR s' (hm.mono wider) ?_)
    obtain ⟨o, es, ep, t, ho, more⟩ := hS
    exact ⟨o, es, ep, t, hm.heap S _ hSw ho, more⟩
  | succ k ih =>
    intro i s hk hi hst hS hR
    have hlt : i < n := by omega
    refine codeAny_builtin PyProof.Rows.F.entry_set_update_loop ?_
    rw [Around.under_plainId PyProof.Rows.F.plain_set_update_loop _]
    show wpAny _ A.in1 (pyNext (.ref I) >>= _) _ _ s
    refine wpAny_bind (W.item i s _ _ hlt hst fun v s' hP hst' hm => ?_)
    obtain ⟨t, rfl⟩ := hval i v hP
    have hS' : s'.heap.SetOf (strKind prog w) S (fun z => (metS val i).any (· == z)) (metS val i).length := by
      obtain ⟨o, es, ep, tb, ho, more⟩ := hS
      exact ⟨o, es, ep, tb, hm.heap S _ hSw ho, more⟩
    show wpAny _ A.in1 (holding [Value.str (val i) t] (setAdd S (.str (val i) t)) >>= _) _ _ s'
    refine wpAny_bind (wpAny_holding ?_)
    unfold setAdd
    refine wpAny_holding ?_
    refine wpAny_bind ((strKind prog w).pyHash (k := val i) (strKind_is _ _ _ _) ?_)
    have room : (metS val i).length + 1 < scanBound := by have := metS_le val i; omega
    refine wpAny_setAddHashed_of (knd := strKind prog w) (s := { s' with toks := s'.toks + 1 }) (strKind_is _ _ _ _) (str_scan _ _) hS' room fun h' sb hS2 => ?_
    have hSi : h'.SetOf (strKind prog w) S (fun z => (metS val (i + 1)).any (· == z)) (metS val (i + 1)).length :=
      SetOf_congr hS2 (fun z => by rw [metS_succ, ddS_any]) (by rw [metS_succ, ddS_len])
    refine wpAny_pure ⟨plainId_quiet PyProof.Rows.F.plain_set_update_loop _, ih (i + 1) _ (by omega) hlt (W.frame _ s' _ _ hst' (Nat.le_succ _) fun b hb' o e => ?_) hSi fun s'' hm'' hS'' => ?_⟩
    · rw [sb.2 b (fun z : b = S => hSf (by rw [← z]; exact hb'))]
      exact e
    · refine hR s'' (Moved.trans W.gtrans ((hm.mono wider).then_heap (Nat.le_succ _) fun b o hb' e => ?_) hm'') hS''
      rw [sb.2 b (fun z : b = S => hb' (by rw [z]; exact List.mem_cons_self))]
      exact e
end
theorem strs_at : ∀ {ys : List Str} {us : List Value}, Vals (ys.map V.str) us → ∀ (i : Nat) (v : Value), us[i]? = some v → ∃ t, v = .str (ys.getD i Str.empty) t
  | [], us, r, i, v, h => by cases r; simp at h
  | b :: bs, us, r, 0, v, h => by
    cases r with
    | cons r1 r2 =>
      obtain ⟨t, e⟩ := r1
      subst e
      simp at h
      exact ⟨t, h.symm⟩
  | b :: bs, us, r, i + 1, v, h => by
    cases r with
    | cons r1 r2 =>
      simp only [List.getElem?_cons_succ] at h
      exact strs_at r2 i v h
abbrev freshSet (led : Bool) : Obj := { cls := .type "set", dict := none, data := .set #[] 0 (.fresh 0 0 led) }
section
variable {prog : Program} {w : World} {A : Around} {E : Value → Shared → Prop} {s : Shared}
theorem call_set_texts {l : Addr} {items : Array Value} {val : Nat → Str} {Q : Value → Shared → Prop} (hh : A.handled = none) (hl : s.heap.IsList l items) (hval : ∀ (i : Nat) (v : Value), items[i]? = some v → ∃ t, v = .str (val i) t) (hb : items.size + 1 < scanBound)
    (h : ∀ (h' : Heap) (tk : Nat), h'.SetOf (strKind prog w) s.heap.objs.size (fun z => (metS val items.size).any (· == z)) (metS val items.size).length →
      (∀ b o, b < s.heap.objs.size → s.heap.get? b = some o → h'.get? b = some o) → Q (.ref s.heap.objs.size) { s with heap := h', toks := tk }) : wpAny (model prog w) A (call (.type "set") [.ref l]) Q E s := by
  obtain ⟨c0, tl0, mro0⟩ := PySem.F.called_set.mro
  have made0 := PySem.F.called_set.made
  have sub0 := PySem.F.called_set.sub
  refine wpAny_call (codeAny_of_tree ?_)
  show wpAny _ _ (callAny (.type "set") _) _ _ _
  refine wpAny_pure ⟨Code.quiet_builtin _ (by decide +kernel),
    codeAny_builtin PySem.F.entry_type_call ?_⟩
  rw [Around.under_plain (weight_type_call_type "set" [.ref l] []) (by rfl)]
  have nt0 := PySem.F.called_set.notType
  have cc0 := PySem.F.called_set.canCreate
  have tc0 := PySem.F.typeCall_set_1 (.ref l)
  repeat (any_goals (first | assumption | wp_step))
  refine codeAny_mono (code_set_new_1 (.ref l) (E := E) (Q₁ := fun ob s1 => ∃ led : Bool, ob = .ref s.heap.objs.size ∧ s1 = { s with heap := s.heap.push (freshSet led) })
    fun led => ⟨led, rfl, rfl⟩) fun r s1 hr => ?_
  cases r with
  | error e => exact hr
  | ok fl =>
    cases fl with
    | next => exact hr.elim
    | brk => exact hr.elim
    | cont => exact hr.elim
    | ret ob =>
      obtain ⟨led, rfl, rfl⟩ := hr
      have hS : (s.heap.push (freshSet led)).get? s.heap.objs.size = some (freshSet led) := Heap.get?_push_size _ rfl
      have hT : Shared.TypeIs { s with heap := s.heap.push (freshSet led) } (.ref s.heap.objs.size) "set" := ⟨_, hS, rfl⟩
      have li0 := PySem.F.called_set.init.lookup
      have bi0 := PySem.F.called_set.init.bind (.ref s.heap.objs.size)
      repeat (any_goals (first | assumption | wp_step))
      refine codeAny_mono (codeAny_call_builtin (R := wants (fun r s2 => r = .none ∧ ∃ h' tk, s2 = { s with heap := h', toks := tk } ∧
          h'.SetOf (strKind prog w) s.heap.objs.size (fun z => (metS val items.size).any (· == z)) (metS val items.size).length ∧
          ∀ b o, b < s.heap.objs.size → s.heap.get? b = some o → h'.get? b = some o) E)
        PySem.F.called_set.init.plain PySem.F.entry_set_init (check_set_init_1 hT ?_)) fun r2 s2 hr2 => ?_
      · obtain ⟨ol, hol, hcl, nl, hdl⟩ := hl
        cases ol with
        | mk oc odd odt osl =>
          simp only at hcl hdl
          subst hcl hdl
          have hol1 : (s.heap.push (freshSet led)).get? l = some { cls := .type "list", dict := odd, data := .seq items nl, slots := osl } := Heap.get?_push_of_some _ hol
          have ls0 := PySem.F.sub_list_set
          have lf0 := PySem.F.sub_list_frozenset
          have nd0 : (Value.type "list" == Value.type "dict") = false := by decide
          have hl1 : (s.heap.push (freshSet led)).IsList l items := ⟨_, hol1, rfl, nl, rfl⟩
          unfold Builtin.«set.__init__» noKeywords Builtin.Frozenset.updateFrom
          generalize hPI : pyIter = PI
          wp_walk
          subst hPI
          refine wpAny_pyIter_list hl1 (wpAny_bind (wpAny_runValue ?_))
          have lS : l < s.heap.objs.size := Heap.lt_size hol
          have h3 : A.in1.in1.in1.handled = none := by simp [hh]
          have sz1 : (s.heap.push (freshSet led)).objs.size = s.heap.objs.size + 1 := by rw [Heap.size_push]
          have hne : l ≠ (s.heap.push (freshSet led)).objs.size := by rw [sz1]; exact Nat.ne_of_lt (Nat.lt_succ_of_lt lS)
          have hSf : s.heap.objs.size ∉ [(s.heap.push (freshSet led)).objs.size, l] := by
            rw [sz1]
            simp only [List.mem_cons, List.not_mem_nil, or_false, not_or]
            exact ⟨Nat.ne_of_lt (Nat.lt_succ_self _), Nat.ne_of_gt lS⟩
          refine set_loopS ((Walks.list h3 _ l hne items).toS) s.heap.objs.size hSf val hval hb (items.size - 0) 0 _ (by omega) (Nat.zero_le _)
            ⟨⟨_, Heap.get?_push_size _ rfl, rfl, rfl⟩, (hl1.push _)⟩ ?s0 ?rr
          case s0 =>
            have g0 : ((s.heap.push (freshSet led)).push { cls := .type "list_iterator", data := .fields #[.ref l, .int 0 0] }).get? s.heap.objs.size = some (freshSet led) := Heap.get?_push_of_some _ hS
            exact SetOf_congr ((setObjOf_fresh (knd := strKind prog w) led).setOf g0 (by unfold scanBound; omega)) (fun _ => rfl) rfl
          case rr =>
            intro s' hm hS'
            cases s' with
            | mk h' g' d' tk' os' =>
              have eg : g' = s.gens := hm.gens
              have ed : d' = s.drawn := hm.drawn
              have eo : os' = s.os := hm.os
              subst eg ed eo
              refine wpAny_pure ?_
              refine wpAny_pure ⟨rfl, h', tk', rfl, hS', fun b o hb e => ?_⟩
              refine hm.heap b o ?_ (Heap.get?_push_of_some _ (Heap.get?_push_of_some _ e))
              simp only [List.mem_cons, List.not_mem_nil, or_false, not_or]
              rw [sz1]
              exact ⟨Nat.ne_of_lt hb, Nat.ne_of_lt (Nat.lt_succ_of_lt hb)⟩
      · cases r2 with
        | error e => exact hr2
        | ok fl2 =>
          cases fl2 with
          | next => exact hr2.elim
          | brk => exact hr2.elim
          | cont => exact hr2.elim
          | ret r =>
            obtain ⟨rfl, h', tk, rfl, hS', hk'⟩ := hr2
            repeat (any_goals (first | assumption | wp_step))
            exact h _ _ hS' hk'
end
section
variable {X : Cx}
def sizedSet (P : Program) (w : World) (p : Addr) (n : Nat) : HO := .ext fun h => ∃ S : Str → Bool, h.SetOf (strKind P w) p S n
theorem call_setT (hcalm : X.calm = true) : CallR X (.type "set") (fun xs H Q => ∃ (p : Addr) (ys : List Str), xs = [.ref p] ∧ SqL X.K H p (ys.map V.str) ∧ ys.length + 1 < scanBound ∧
    ∀ l, H l = none → Q (.ref l) (upd H l (sizedSet X.prog X.w l (metS (fun i => ys.getD i Str.empty) ys.length).length))) := by
  intro pins s σ H xs us Q I r h
  obtain ⟨p, ys, rfl, hs, hsz, q⟩ := h
  obtain ⟨u, rfl, rx⟩ := vals1 r
  cases rx
  obtain ⟨its, rv, hl, hz⟩ := I.list hs
  have hlen : ys.length = its.length := by have := rv.length; rwa [List.length_map] at this
  have hn : its.toArray.size = ys.length := by rw [List.size_toArray, hlen]
  refine call_set_texts (val := fun i => ys.getD i Str.empty) (I.ok.hd hcalm) hl.isList (fun i v e => strs_at rv i v (by simpa using e)) (by rw [hn]; exact hsz) fun h' tk hS hk => ?_
  rw [hn] at hS
  have hf : H s.heap.objs.size = none := I.hok.fresh (Nat.le_refl _)
  refine ⟨.ref s.heap.objs.size, _, I.laid (h' := h') (t' := tk) (fun b o e => hk b o (Heap.lt_size e) e) (Nat.le_refl _) ?_, rfl, q _ hf⟩
  refine ⟨⟨_, hS⟩, ?_, ?_⟩
  · obtain ⟨o, _, _, _, e, _⟩ := hS
    exact ⟨o, e⟩
  · rintro h1 h2 ⟨S, o, es, ep, t, e, more⟩ k
    exact ⟨S, o, es, ep, t, k o e, more⟩
theorem call_lenS : CallR X (.builtin "len") (fun xs H Q => ∃ (p : Addr) (n : Nat), xs = [.ref p] ∧ H p = some (sizedSet X.prog X.w p n) ∧ n < 1000 ∧ Q (.int n) H) := by
  intro pins s σ H xs us Q I r h
  obtain ⟨p, n, rfl, hp, hn, q⟩ := h
  obtain ⟨u, rfl, rx⟩ := vals1 r
  cases rx
  obtain ⟨⟨S, o, es, ep, t, e, ex, hd, _, _, _, hf, hsz⟩, _, _⟩ := I.hok p _ hp
  refine call_len_set e ex hd hf (by omega) ?_
  exact ⟨.int n, H, I.tok _, ⟨_, by rw [hsz]⟩, q⟩
end
end L2
end
section
set_option Elab.async false
set_option linter.all false
set_option maxRecDepth 100000
set_option maxHeartbeats 4000000
namespace L2
open PySem PySem.Spec PyProof.Rows
open PySem.SeqAt PySem.AutoSeq1 PySem.MeetsSeq PySem.MeetsSeq2 PySem.MeetsSeq3
end L2
end
section
set_option Elab.async false
set_option linter.all false
set_option maxRecDepth 100000
set_option maxHeartbeats 4000000
namespace L2
open PySem PySem.Spec PyProof.Rows
end L2
end
section
set_option Elab.async false
set_option linter.all false
set_option maxRecDepth 100000
set_option maxHeartbeats 2000000
namespace L2
open PySem PySem.Spec PyProof.Rows
section
variable {M : Model} {A : Around} {E : Value → Shared → Prop} {s : Shared}
def HeldA (base : Heap) (l : List Env) (e : Addr) (cls a0 fl : Value) (h : Heap) : Prop := base.StaysIn h ∧ base.get? e = none ∧ h.FunFrames base l ∧ h.TracedAtW base e cls a0 fl
abbrev markOf (o : Option Addr) : Value := o.elim Value.none fun f => rawInt f
theorem setFlight_any {base : Heap} {l : List Env} {x : Addr} {cls a0 fl : Value} {o : Option Addr} {Q : Unit → Shared → Prop} (R : HeldA base l x cls a0 fl s.heap)
    (k : ∀ h', HeldA base l x cls a0 (markOf o) h' → s.heap.UpToSlots h' → Q () { s with heap := h' }) : wpAny M A (setFlight (.ref x) o) Q E s := by
  obtain ⟨r1, r2, r3, ox, vs, T, oT, ts, gx, gc, gd, g1, gn, gne, gT, gdT, g3⟩ := R
  have z3 : 3 < ts.size := (Array.getElem?_eq_some_iff.mp g3).1
  have oth : ∀ b, b ≠ T → (s.heap.update T (Obj.mapFields (·.setIfInBounds 3 (markOf o)))).get? b = s.heap.get? b := fun b hb => Heap.get?_update_other _ _ (Ne.symm hb)
  have nrc : ∀ b u, s.heap.get? b = some u → (∀ vs, u.data ≠ .fields vs) → b ≠ T := fun b u hb hf q => by
    rw [q, gT] at hb
    cases hb
    exact hf ts gdT
  unfold setFlight
  refine wpAny_bind (wpAny_field gx gd g1 ?_)
  rw [if_pos (by simp : (Value.ref T != Value.none) = true)]
  refine wpAny_setField gT gdT z3 (k _ ⟨fun b u hb => (oth b fun q => by rw [q, gn] at hb; cases hb).trans (r1 b u hb), r2, r3.of_keeps fun b u hb hf => ⟨u, (oth b (nrc b u hb hf)).trans hb, rfl⟩, ?_⟩ fun b u hb hf => ⟨u.slots, (oth b (nrc b u hb hf)).trans hb⟩)
  exact ⟨ox, vs, T, _, _, (oth x (Ne.symm gne)).trans gx, gc, gd, g1, gn, gne, Heap.get?_update_self _ gT (Obj.isFreed_of_fields (Obj.data_mapFields gdT _)), Obj.data_mapFields gdT _, by simp [z3]⟩
theorem passOn_any {base : Heap} {l : List Env} {x : Addr} {cls a0 fl : Value} {what : String} {cenv : Env} (R : HeldA base l x cls a0 fl s.heap)
    (k : ∀ h' fl', HeldA base l x cls a0 fl' h' → s.heap.UpToSlots h' → E (.ref x) { s with heap := h' }) : wpAny M A (PySem.passOn what (.ref x) cenv : Sem Value) (fun _ _ => False) E s := by
  obtain ⟨_, _, _, ox, vs, T, oT, ts, gx, gc, gd, g1, _⟩ := id R
  unfold PySem.passOn
  refine wpAny_bind (wpAny_field gx gd g1 ?_)
  rw [if_neg (by simp : ¬ ((Value.ref T == Value.none) = true))]
  first
    | exact wpAny_bind (wpAny_pure (wpAny_bind (setFlight_any R fun h' hh hs => wpAny_throw (k h' _ hh hs))))
    | exact wpAny_bind (setFlight_any R fun h' hh hs => wpAny_throw (k h' _ hh hs))
theorem leaves_any {base : Heap} {env : Env} {outer : List Env} {L x : Addr} {cls a0 fl : Value} {Q : Unit → Shared → Prop} (hfr : A.frames = some (env :: outer)) (hf : env.frame = some L) (R : HeldA base (env :: outer) x cls a0 fl s.heap)
    (k : ∀ h', Heap.FlyingW base outer x cls a0 h' → s.heap.UpToSlots h' → Q () { s with heap := h' }) : wpAny M A (leaving env (.ref x)) Q E s := by
  obtain ⟨r1, r2, r3, ox, vs, T, oT, ts, gx, gc, gd, g1, gn, gne, gT, gdT, g3⟩ := id R
  unfold leaving noteFrame
  simp only [hf]
  refine wpAny_bind (wpAny_bind (wpAny_field gx gd g1 ?_))
  rw [if_pos (by simp : (Value.ref T != Value.none) = true)]
  refine wpAny_bind (wpAny_field gT gdT g3 ?_)
  by_cases hb : (fl == rawInt L) = true
  · rw [if_pos hb]
    refine wpAny_pure ?_
    refine setFlight_any R fun h' hh up => ?_
    obtain ⟨k1, k2, ⟨_, _, k3⟩, k4⟩ := hh
    exact k h' ⟨k1, k2, k3, k4⟩ up
  · rw [if_neg hb]
    refine wpAny_bind (wpAny_setField gT gdT (Array.getElem?_eq_some_iff.mp g3).1 ?_)
    have oth : ∀ b, b ≠ T → (s.heap.update T (Obj.mapFields (·.setIfInBounds 3 Value.none))).get? b = s.heap.get? b := fun b hb => Heap.get?_update_other _ _ (Ne.symm hb)
    have nrc : ∀ b u, s.heap.get? b = some u → (∀ vs, u.data ≠ .fields vs) → b ≠ T := fun b u hb hf q => by
      rw [q, gT] at hb
      cases hb
      exact hf ts gdT
    obtain ⟨gcl, g0⟩ := gc
    subst gcl
    refine wpAny_newEntryW hfr (r3.of_keeps fun b u hb hf => ⟨u, (oth b (nrc b u hb hf)).trans hb, rfl⟩) hf ((oth x (Ne.symm gne)).trans gx)
      (fun b u hb => (oth b fun q => by rw [q, gn] at hb; cases hb).trans (r1 b u hb)) r2 gd (Array.getElem?_eq_some_iff.mp g1).1 g0 fun h' hl => ?_
    obtain ⟨x1, ⟨_, _, x2⟩, x3, x4⟩ := hl
    exact k h' ⟨x1, r2, x2, x3⟩ fun b u hb hf => x4 b u ((oth b (nrc b u hb hf)).trans hb) hf
theorem noteFrame_like {e : Value} {e1 e2 : Env} (h : e1.frame = e2.frame) : noteFrame e e1 = noteFrame e e2 := by
  unfold noteFrame PySem.frameOf
  rw [h]
end
theorem funFrames_but {h h' base : Heap} {C : Addr} (sb : Heap.SameBut C h h') : ∀ {l : List Env}, h.FunFrames base l → C ∉ frs l → h'.FunFrames base l
  | [], _, _ => trivial
  | env :: l, ⟨hk, ⟨L, o, hf, hn, ho, hd⟩, hr⟩, hC => by
    have e : frs (env :: l) = L :: frs l := by unfold frs; rw [List.filterMap_cons, hf]
    rw [e] at hC
    exact ⟨hk, ⟨L, o, hf, hn, (sb.2 L fun q => hC (by rw [q]; exact .head _)).trans ho, hd⟩, funFrames_but sb hr fun q => hC (.tail _ q)⟩
theorem HeldA.but {base h h' : Heap} {l : List Env} {x C : Addr} {cls a0 fl : Value} (R : HeldA base l x cls a0 fl h) (sb : Heap.SameBut C h h') (hb : base.get? C = none) (hl : C ∉ frs l) {o : Obj} (ho : h.get? C = some o) (hd : ∀ vs, o.data ≠ .fields vs) : HeldA base l x cls a0 fl h' := by
  obtain ⟨r1, r2, r3, ox, vs, T, oT, ts, gx, gc, gd, g1, gn, gne, gT, gdT, g3⟩ := R
  have n1 : x ≠ C := fun q => by rw [q, ho] at gx; cases gx; exact hd vs gd
  have n2 : T ≠ C := fun q => by rw [q, ho] at gT; cases gT; exact hd ts gdT
  exact ⟨fun b u hb' => (sb.2 b fun q => by rw [q, hb] at hb'; cases hb').trans (r1 b u hb'), r2, funFrames_but sb r3 hl, ox, vs, T, oT, ts, (sb.2 x n1).trans gx, gc, gd, g1, gn, gne, (sb.2 T n2).trans gT, gdT, g3⟩
end L2
end
section
set_option Elab.async false
set_option linter.all false
set_option maxRecDepth 100000
set_option maxHeartbeats 4000000
namespace L2
open PySem PySem.Spec PyProof.Rows
abbrev Cx.blkE (X : Cx) (s : Shared) (H : Hp) (scope : Scope) (cenv : Env) (fp : List Addr) (XE : Value → Shared → Prop) : Cx := (X.blk s H scope cenv fp).wish XE
section
variable {X : Cx} {C : Addr} {E : XK} {outer : List Env}
theorem comp_gone {pins pins' : List (Addr × Obj)} {σ σ' : St} {H3 H : Hp} {s3 s s' : Shared} {scope : Scope} {ce : Env} {fp : List Addr} {XE : Value → Shared → Prop} {use : Option (Value → Sem Unit)} {Qf : Value → Shared → Prop} {acc e : Value}
    (L : Leaves X C E outer) (I3 : Inv X pins σ H3 s3) (hcl : ce.locals = s3.heap.objs.size) (hcf : ce.frame = X.env.frame) (f3 : ∀ b ∈ fp, FpOk X pins H3 b)
    (I : Inv (X.blkE s3 H3 scope ce fp XE) pins' σ' H s) (h : CXe X.prog X.w C X.stack H s E e s') :
    notedBy (model X.prog X.w) X.A ce (fun e s'' => compPost (model X.prog X.w) X.A X.xe use Qf acc s3.heap.objs.size (.error e) s'') e s' := by
  obtain ⟨ea, H', rfl, ho, hg, u, hok, ⟨G, a0, fl, c⟩, hE⟩ := h
  have hch : ∀ b ∈ fp, (b ∈ X.ex ∨ X.s_0.heap.objs.size ≤ b) ∧ b ≠ X.env.locals ∧ (∀ x c, X.env.cells.lookup x = some c → c ≠ b) ∧ ∀ p ∈ X.pn ++ pins, p.1 ≠ b := fun b hb => ⟨(f3 b hb).2.2.2.1, (f3 b hb).2.1, (f3 b hb).2.2.2.2.1, (f3 b hb).2.2.2.2.2⟩
  have I1 : Inv (X.blkE s3 H3 scope ce fp XE) pins' σ' H' s' := I.call' ho u hok hg noch
  have nr : NoRec (frs X.stack) s'.heap := norec_of I1.stack
  show wpAny _ X.A (noteFrame (.ref ea) ce) _ _ s'
  rw [noteFrame_like (e2 := X.env) hcf]
  have hfr : X.A.frames = some (X.env :: outer) := by rw [I3.ok.frames, L.stk]
  have flx : Heap.FlyingW G (X.env :: outer) ea (.ref C) a0 s'.heap := L.stk ▸ fl
  refine wpAny_looks_onW hfr L.fr flx fun h4 hd4 sl4 => ?_
  have I4 : Inv (X.blkE s3 H3 scope ce fp XE) pins' σ' H' { s' with heap := h4 } := I.call' (s' := { s' with heap := h4 }) ho (u.touch c nr hd4.1 sl4) (hok.touch c I1.stkFree hd4.1) hg noch
  obtain ⟨m, hn, _⟩ := I4.loc
  have hn : h4.Ns ce.locals m := hn
  have nC : H' s3.heap.objs.size = none := by
    have z : H' ce.locals = none := I4.free
    rw [hcl] at z
    exact z
  rw [hcl] at hn
  refine ⟨m, hn, fun h5 sb cenv _ => ?_⟩
  have fC : FpOk X pins H' s3.heap.objs.size := I3.fpOk (Nat.le_refl _) nC
  have nst : s3.heap.objs.size ∉ frs X.stack := fun q => by
    rcases List.mem_cons.mp (I3.stkSub _ q) with z | z
    · exact fC.2.1 z
    · exact fC.2.2.1 z
  have I4X : Inv X pins σ H' { s' with heap := h4 } := I3.call' (s' := { s' with heap := h4 }) (ch := fp) I4.os I4.base I4.hok I4.bare hch
  have IX : Inv X pins σ H s := I3.call' (ch := fp) I.os I.base I.hok I.bare hch
  obtain ⟨f0, f1, f2, f4, f5, f6⟩ := id fC
  have I5 : Inv X pins σ H' { s' with heap := h5 } := I4X.turned (t' := s'.toks) (fun b o hb e => (sb.2 b hb).trans e) f0 f1 f4 f5 f6
  have held : HeldA (PySem.W.hideAll G [s3.heap.objs.size]) (X.env :: outer) ea (.ref C) a0 (rawInt X.env.locals) h4 := PySem.W.heldW_base (fun b o q => PySem.W.of_hideAll _ q) hd4
  obtain ⟨oc, es, ep, hoc, hdc, _⟩ := id hn
  have held5 := held.but sb (PySem.W.hideAll_none _ (.head _)) (by rw [← L.stk]; exact nst) hoc (fun vs q => by rw [hdc] at q; cases q)
  refine passOn_any held5 fun h6 fl6 held6 up6 => ?_
  refine L.xe ea _ ?_
  refine leaves_any hfr L.fr held6 fun h7 fly7 up7 => ?_
  have efs : X.fs = frs outer := by show frs X.outer = _; rw [L.out]
  have cov : Cover (frs outer) H' X.s_0.heap (PySem.W.hideAll G [s3.heap.objs.size]) h5 := fun b o e hb ht => by
    have hbL : b ≠ X.env.locals := fun z => by
      rcases ht with ⟨v, hv⟩ | ⟨o0, h0⟩
      · rw [z, I5.free] at hv; cases hv
      · exact absurd (Nat.lt_of_lt_of_le (Heap.lt_size h0) I3.ok.above) (by rw [z]; exact Nat.lt_irrefl _)
    have hbs : b ∉ frs X.stack := fun z => by
      rcases List.mem_cons.mp (I3.stkSub b z) with q | q
      · exact hbL q
      · exact hb (by rw [← efs]; exact q)
    have hbC : b ≠ s3.heap.objs.size := fun z => by
      rcases ht with ⟨v, hv⟩ | ⟨o0, h0⟩
      · rw [z, nC] at hv; cases hv
      · obtain ⟨o1, e1⟩ := I3.base.there b o0 h0 (by rw [L.ex]; simp)
        exact absurd (Heap.lt_size e1) (by rw [z]; exact Nat.lt_irrefl _)
    obtain ⟨o1, e1, t1⟩ : ∃ o1, s'.heap.get? b = some o1 ∧ ((∃ u, H' b = some u) ∨ ∃ o0, s.heap.get? b = some o0) := by
      rcases ht with ⟨v, hv⟩ | ⟨o0, h0⟩
      · obtain ⟨o1, e1⟩ := (hok b v hv).obj
        exact ⟨o1, e1, .inl ⟨v, hv⟩⟩
      · obtain ⟨o2, e2⟩ := IX.base.there b o0 h0 (by rw [L.ex]; simp)
        obtain ⟨o1, e1⟩ := u.there b o2 e2 (by simp)
        exact ⟨o1, e1, .inr ⟨o2, e2⟩⟩
    have q1 := c b o1 e1 hbs t1
    have q2 : h5.get? b = some o1 := (sb.2 b hbC).trans (hd4.1 b o1 q1)
    rw [q2] at e
    cases e
    exact PySem.W.hideAll_get _ q1 (by simpa using hbC)
  have nr5 : NoRec (frs outer) h5 := fun b hb => norec_of I5.stack b (by rw [L.stk]; unfold frs; rw [List.filterMap_cons, L.fr]; exact List.mem_cons_of_mem _ hb)
  have b5 := I5.base
  rw [efs, L.ex] at b5
  have up57 : h5.UpToSlots h7 := up6.trans up7
  have fr5 : ∀ b ∈ frs outer, H' b = none := fun b hb => I5.stkFree b (by rw [L.stk]; unfold frs; rw [List.filterMap_cons, L.fr]; exact List.mem_cons_of_mem _ hb)
  refine ⟨ea, H', rfl, I5.os, hg, b5.touch cov nr5 fly7.1 up57, I5.hok.touch cov fr5 fly7.1, ⟨_, a0, fly7, fun b o e hb ht => ?_⟩, hE⟩
  obtain ⟨o1, e1⟩ : ∃ o1, h5.get? b = some o1 := by
    rcases ht with ⟨v, hv⟩ | ⟨o0, h0⟩
    · exact (I5.hok b v hv).obj
    · exact I5.base.there b o0 h0 (by rw [L.ex]; simp)
  have q1 := cov b o1 e1 hb ht
  have q2 := fly7.1 b o1 q1
  rw [q2] at e
  cases e
  exact q1
end
end L2
end
section
set_option Elab.async false
set_option linter.all false
set_option maxRecDepth 100000
set_option maxHeartbeats 4000000
namespace L2
open PySem PySem.Spec PyProof.Rows
section
variable {X : Cx} {Cx0 : Addr} {E0 : XK} {outer : List Env}
theorem lcE_core {pins : List (Addr × Obj)} {s : Shared} {σ : St} {H : Hp} {Q : VK} {elt tg iter : Expr} {ifs : List Expr} {scope : Scope} {own : List (Str × Nat)} {pos pos' : Pos} {wi : TI} {g : TG} {tt : TT} {te : TE} {use : Option (Value → Sem Unit)} {Qf : Value → Shared → Prop}
    (L : Leaves X Cx0 E0 outer) (hc : X.calm = true) (hN : X.N.Nodup) (I : Inv X pins σ H s) (hi : PI X tg iter wi) (ok : BlkOk X.N X.env.scope scope own)
    (hg : ∀ (s : Shared) (H : Hp) (C : Addr) (cl : List (Str × Addr)) (fp : List Addr) (XE : Value → Shared → Prop), PG (X.blkE s H scope (compEnvC scope cl C X.env) fp XE) tg g) (ht : ∀ (s : Shared) (H : Hp) (C : Addr) (cl : List (Str × Addr)) (fp : List Addr) (XE : Value → Shared → Prop), PTs (X.blkE s H scope (compEnvC scope cl C X.env) fp XE) ifs tt)
    (he : ∀ (s : Shared) (H : Hp) (C : Addr) (cl : List (Str × Addr)) (fp : List Addr) (XE : Value → Shared → Prop), Passes (CXe X.prog X.w Cx0) (X.blkE s H scope (compEnvC scope cl C X.env) fp XE) E0 → PE (X.blkE s H scope (compEnvC scope cl C X.env) fp XE) elt te) (hs : ∀ x, foldedSetIterable iter X.env x = pure x)
    (h : tLc wi g tt te (own.map (·.2)) σ H Q)
    (hRR : ∀ D C s' m H', Inv X pins σ H' s' → Q (.ref D) H' → s'.heap.Ns C m → FpOk X pins H' C → compPost (model X.prog X.w) X.A X.xe use Qf (.ref D) C (.ok .next) s') :
    wpAny (model X.prog X.w) X.A (comprehension (.ListComp elt [⟨tg, iter, ifs, 0⟩] scope pos) scope X.env pos' (newList []) false (eval iter X.env) use) Qf X.xe s := by
  have hfree : ∀ y ∈ scope.names, y.2 = .free → ∃ c, X.env.cells.lookup y.1 = some c := fun y hy e => by
    rcases ok.free y hy e with k | k
    · exact I.ok.has _ (.inl k)
    · exact I.ok.has _ (.inr k)
  refine wpAny_comprehension_free (use := use) rfl hs (closure_ok hfree) ok.kind (fun y hy e => by rw [ok.uniq y hy, e])
    (thn (hi pins s σ H _ I h) fun xv s1 hx => thn hx fun itv s2 h2 => ?_)
  obtain ⟨it, fp, tn, J, H2, e, I2, T, st2, f2, q⟩ := h2
  subst e
  refine wpAny_newObj_type (newEnv_comp ?_) (by show 0 ≤ sizeLine; decide)
  generalize hD : s2.heap.objs.size = D
  have hDn : H2 D = none := I2.hok.fresh (Nat.le_of_eq hD)
  obtain ⟨W, ⟨m0, w0⟩, turn⟩ := q D hDn
  generalize hs3 : ({ s2 with heap := s2.heap.push { cls := .type "list", data := .seq ([] : List Value).toArray } } : Shared) = s3
  have I3 : Inv X pins σ (upd H2 D (.lst [])) s3 := by
    rw [← hs3]
    refine I2.laid (t' := s2.toks) (fun b o e => Heap.get?_push_of_some _ e) (Nat.le_of_eq hD) ⟨Nat.zero_le _, [], 0, .nil, ?_⟩
    rw [← hD]
    exact Heap.get?_push_size _ rfl
  have h3 : s3.heap = s2.heap.push { cls := .type "list", data := .seq ([] : List Value).toArray } := by rw [← hs3]
  have sz : ∀ b ∈ fp, b < s2.heap.objs.size := fun b hb => by
    obtain ⟨o, e, _⟩ := T.obj _ _ st2 b hb
    exact Heap.lt_size e
  have f3 : ∀ b ∈ fp, FpOk X pins (upd H2 D (.lst [])) b ∧ b < s3.heap.objs.size := fun b hb => by
    have hlt := sz b hb
    refine ⟨⟨?_, (f2 b hb).2⟩, by rw [h3, Heap.size_push]; exact Nat.lt_succ_of_lt hlt⟩
    rw [upd_ne (by rw [← hD]; exact Nat.ne_of_lt hlt)]
    exact (f2 b hb).1
  have st3 : tn 0 s3.heap := T.keep _ _ _ st2 fun b _ o e => by rw [h3]; exact Heap.get?_push_of_some _ e
  have I4 := block_start I3 ok hN f3
  have pg := fun XE => hg s3 (upd H2 D (.lst [])) s3.heap.objs.size (cellsFrom (s3.heap.objs.size + 1) scope.names (cloFrom X.env.cells scope.names [])) fp XE
  have pt := fun XE => ht s3 (upd H2 D (.lst [])) s3.heap.objs.size (cellsFrom (s3.heap.objs.size + 1) scope.names (cloFrom X.env.cells scope.names [])) fp XE
  have pe := fun XE => he s3 (upd H2 D (.lst [])) s3.heap.objs.size (cellsFrom (s3.heap.objs.size + 1) scope.names (cloFrom X.env.cells scope.names [])) fp XE
  show codeAny _ _ (.compStart (.ListComp elt [⟨tg, iter, ifs, 0⟩] scope pos) 0 (.ref it) (.ref D) (compEnvC scope (cellsFrom (s3.heap.objs.size + 1) scope.names (cloFrom X.env.cells scope.names [])) s3.heap.objs.size X.env)) (compPost (model X.prog X.w) X.A X.xe use Qf (.ref D) s3.heap.objs.size) { s3 with heap := pushCells (s3.heap.push { cls := .type "dict", data := .dict #[] }) scope.names }
  have nfp : ∀ b ∈ fp, (upd H2 D (.lst [])) b = none := fun b hb => (f3 b hb).1.1
  generalize hce : compEnvC scope (cellsFrom (s3.heap.objs.size + 1) scope.names (cloFrom X.env.cells scope.names [])) s3.heap.objs.size X.env = ce at I4 pg pt pe ⊢
  have cL : ce.locals = s3.heap.objs.size := by subst hce; rfl
  have cF : ce.frame = X.env.frame := by subst hce; rfl
  generalize hH3 : upd H2 D (.lst []) = H3 at I3 I4 pg pt pe w0 nfp f3
  generalize hs4 : ({ s3 with heap := pushCells (s3.heap.push { cls := .type "dict", data := .dict #[] }) scope.names } : Shared) = s4 at I4 ⊢
  have st4 : tn 0 s4.heap := T.keep _ _ _ st3 fun b _ o e => by rw [← hs4]; exact pushCells_keeps _ _ _ _ (Heap.get?_push_of_some _ e)
  generalize hXE : (fun e s' => notedBy (model X.prog X.w) X.A ce (fun e s'' => compPost (model X.prog X.w) X.A X.xe use Qf (.ref D) s3.heap.objs.size (.error e) s'') e s') = XE
  have pg := pg XE
  have pt := pt XE
  have hps : Passes (CXe X.prog X.w Cx0) (X.blkE s3 H3 scope ce fp XE) E0 := fun pins1 σ1 H1 s1 e s1' I1 hcx => by
    show XE e s1'
    rw [← hXE]
    exact comp_gone L I3 cL cF (fun b hb => (f3 b hb).1) I1 hcx
  have pe := pe XE hps
  have I4 : Inv (X.blkE s3 H3 scope ce fp XE) [] (wipe σ (own.map (·.2))) H3 s4 := I4.wish XE
  have stat : ∀ {σ' : St} {H' : Hp} {s' : Shared}, Inv (X.blkE s3 H3 scope ce fp XE) [] σ' H' s' → (∀ b ∈ fp, H' b = none) → ∀ b ∈ fp, FpOk (X.blkE s3 H3 scope ce fp XE) [] H' b := fun {σ' H' s'} I' hn b hb =>
    ⟨hn b hb, (I'.ok.exf b hb).1, I'.ok.exfs b hb, .inl hb, fun x c e => (I'.ok.exf b hb).2 x c e, fun p hp => absurd (show p ∈ ([] : List (Addr × Obj)) ++ [] from hp) (by simp)⟩
  have thX : ∀ {α : Type} {t : Sem α} {Q Q' : α → Shared → Prop} {s : Shared}, wpAny (model X.prog X.w) X.A t Q XE s → (∀ a s, Q a s → Q' a s) → wpAny (model X.prog X.w) X.A t Q' (notedBy (model X.prog X.w) X.A ce fun e s' => compPost (model X.prog X.w) X.A X.xe use Qf (.ref D) s3.heap.objs.size (.error e) s') s := fun {α t Q Q' s} h hq => by
    rw [← hXE] at h
    exact wpAny_mono h hq fun _ _ z => z
  have loop : codeAny (model X.prog X.w) X.A (.compLoop (.ListComp elt [⟨tg, iter, ifs, 0⟩] scope pos) 0 (.ref it) (.ref D) ce) (compPost (model X.prog X.w) X.A X.xe use Qf (.ref D) s3.heap.objs.size) s4 := by
    refine compLoop_any (fun n s' => ∃ i H', Inv (X.blkE s3 H3 scope ce fp XE) [] (wipe σ (own.map (·.2))) H' s' ∧ tn i s'.heap ∧ (∀ b ∈ fp, H' b = none) ∧ W i n H') ?_ m0 ⟨0, H3, I4, st4, nfp, w0⟩
    rintro n s5 ⟨i, H5, I5, st5, n5, w5⟩
    rcases turn i n H5 w5 with ⟨stop, qq⟩ | ⟨go, Nx, hNx, step⟩
    · have td := T.done (X.blkE s3 H3 scope ce fp XE) rfl rfl rfl hc i [] s5 _ H5 (fun _ _ => False) I5 (stat I5 n5) st5 stop
      refine thnF td fun r s6 ⟨hr, I6⟩ => ?_
      subst hr
      have I7 : Inv X pins σ H5 s6 := I3.call' (ch := fp) I6.os I6.base I6.hok I6.bare fun b hb => ⟨(f3 b hb).1.2.2.2.1, (f3 b hb).1.2.1, (f3 b hb).1.2.2.2.2.1, (f3 b hb).1.2.2.2.2.2⟩
      have nC : H5 s3.heap.objs.size = none := by
        have z : H5 ce.locals = none := I6.free
        rw [cL] at z
        exact z
      obtain ⟨m, hn, _⟩ := I6.loc
      have hn : s6.heap.Ns ce.locals m := hn
      rw [cL] at hn
      exact hRR D s3.heap.objs.size s6 m H5 I7 qq hn (I3.fpOk (Nat.le_refl _) nC)
    · have ti := T.item (X.blkE s3 H3 scope ce fp XE) rfl rfl rfl hc i [] s5 _ H5 (fun _ _ => False) I5 (stat I5 n5) st5 go
      refine thnF ti fun r s6 ⟨u, hr, h6⟩ => ?_
      subst hr
      refine thnF h6 fun _ s7 ⟨x, H7, I7, r7, y7, st7, n7⟩ => ?_
      have I7' := I7.pinned (stat I7 n7) (T.obj _ _ st7)
      refine thX (pg _ s7 _ H7 x u _ I7' r7 (step x H7 y7)) fun _ s8 ⟨σ8, H8, I8, hw8, q8⟩ => ?_
      refine thX (pt _ s8 σ8 H8 _ I8 q8) fun b s9 ⟨H9, I9, q9⟩ => ?_
      have fin : ∀ {s' : Shared} {H' : Hp}, Inv (X.blkE s3 H3 scope ce fp XE) ([] ++ pinsAt fp s7.heap) σ8 H' s' → Nx H' → ∃ m, m < n ∧ ∃ i H', Inv (X.blkE s3 H3 scope ce fp XE) [] (wipe σ (own.map (·.2))) H' s' ∧ tn i s'.heap ∧ (∀ b ∈ fp, H' b = none) ∧ W i m H' := fun {s' H'} I' nx => by
        obtain ⟨m', hm, w'⟩ := hNx H' nx
        have pin' : ∀ b ∈ fp, ∀ o, s7.heap.get? b = some o → s'.heap.get? b = some o ∧ H' b = none := fun b hb o e =>
          let z := I'.pin (b, o) (List.mem_append_right _ (List.mem_append_right _ (mem_pinsAt hb e)))
          ⟨z.1, z.2.1⟩
        have hl : (wipe σ (own.map (·.2))).length = σ8.length := by rw [← hw8, wipe_length]
        refine ⟨m', hm, i + 1, H', (I'.unpinned (pins := [])).weak hl (fun j v e => ?_), T.keep _ _ _ st7 fun b hb o e => (pin' b hb o e).1, fun b hb => ?_, w'⟩
        · rw [← hw8] at e
          exact (wipe_some e).1
        · obtain ⟨o, e, _⟩ := T.obj _ _ st7 b hb
          exact (pin' b hb o e).2
      cases b with
      | false =>
        simp only [Bool.false_eq_true, if_false] at q9 ⊢
        exact fin I9 q9
      | true =>
        simp only [if_true] at q9 ⊢
        refine thX (pe _ s9 σ8 H9 _ I9 q9) fun z s10 ⟨yv, H10, I10, r10, acc, hD10, hz10, nx⟩ => ?_
        exact app_ok (X := X.blkE s3 H3 scope ce fp XE) I10 hD10 hz10 r10 fun s11 I11 => fin I11 nx
  exact codeAny_compStart_list loop (T.self X.A 0 _ _ _ st4 loop)
theorem pe_lcE {elt tg iter : Expr} {ifs : List Expr} {scope : Scope} {own : List (Str × Nat)} {pos : Pos} {wi : TI} {g : TG} {tt : TT} {te : TE} (L : Leaves X Cx0 E0 outer) (hc : X.calm = true) (hN : X.N.Nodup) (hi : PI X tg iter wi) (ok : BlkOk X.N X.env.scope scope own)
    (hg : ∀ (s : Shared) (H : Hp) (C : Addr) (cl : List (Str × Addr)) (fp : List Addr) (XE : Value → Shared → Prop), PG (X.blkE s H scope (compEnvC scope cl C X.env) fp XE) tg g) (ht : ∀ (s : Shared) (H : Hp) (C : Addr) (cl : List (Str × Addr)) (fp : List Addr) (XE : Value → Shared → Prop), PTs (X.blkE s H scope (compEnvC scope cl C X.env) fp XE) ifs tt)
    (he : ∀ (s : Shared) (H : Hp) (C : Addr) (cl : List (Str × Addr)) (fp : List Addr) (XE : Value → Shared → Prop), Passes (CXe X.prog X.w Cx0) (X.blkE s H scope (compEnvC scope cl C X.env) fp XE) E0 → PE (X.blkE s H scope (compEnvC scope cl C X.env) fp XE) elt te) (hs : ∀ x, foldedSetIterable iter X.env x = pure x := by intro _; rfl) :
    PE X (.ListComp elt [⟨tg, iter, ifs, 0⟩] scope pos) (tLc wi g tt te (own.map (·.2))) := by
  intro pins s σ H Q I h
  rw [eval_ListComp]
  refine lcE_core L hc hN I hi ok hg ht he hs h fun D C s' m H' I' q hn f => ⟨m, hn, fun h'' sb => ?_⟩
  obtain ⟨f0, f1, f2, f3, f4, f5⟩ := f
  exact ⟨.ref D, H', I'.turned (t' := s'.toks) (fun b o hb e => (sb.2 b hb).trans e) f0 f1 f3 f4 f5, rfl, q⟩
theorem ps_setLcE {i : Nat} {y : Str} {py : Pos} {elt tg iter : Expr} {ifs : List Expr} {scope : Scope} {own : List (Str × Nat)} {pos spos : Pos} {wi : TI} {g : TG} {tt : TT} {te : TE} (L : Leaves X Cx0 E0 outer) (hc : X.calm = true) (hN : X.N.Nodup) (hy : X.N[i]? = some y) (hyl : X.env.scope.names.lookup y = some .local)
    (hsw : swapsWith (.ListComp elt [⟨tg, iter, ifs, 0⟩] scope pos) (some (.Name y py)) spos.line X.env = pure true) (hi : PI X tg iter wi) (ok : BlkOk X.N X.env.scope scope own)
    (hg : ∀ (s : Shared) (H : Hp) (C : Addr) (cl : List (Str × Addr)) (fp : List Addr) (XE : Value → Shared → Prop), PG (X.blkE s H scope (compEnvC scope cl C X.env) fp XE) tg g) (ht : ∀ (s : Shared) (H : Hp) (C : Addr) (cl : List (Str × Addr)) (fp : List Addr) (XE : Value → Shared → Prop), PTs (X.blkE s H scope (compEnvC scope cl C X.env) fp XE) ifs tt)
    (he : ∀ (s : Shared) (H : Hp) (C : Addr) (cl : List (Str × Addr)) (fp : List Addr) (XE : Value → Shared → Prop), Passes (CXe X.prog X.w Cx0) (X.blkE s H scope (compEnvC scope cl C X.env) fp XE) E0 → PE (X.blkE s H scope (compEnvC scope cl C X.env) fp XE) elt te) (hs : ∀ x, foldedSetIterable iter X.env x = pure x := by intro _; rfl) :
    PS X (.Assign [.Name y py] (.ListComp elt [⟨tg, iter, ifs, 0⟩] scope pos) spos) (tAsg (tLc wi g tt te (own.map (·.2))) (gName i)) := by
  intro pins s σ H D I h
  rw [exec_Assign_Name_used _ _ _ _ hsw]
  refine wpAny_bind (wpAny_standAt (wpAny_bind ?_))
  show wpAny _ X.A (do let _ ← comprehension (.ListComp elt [⟨tg, iter, ifs, 0⟩] scope pos) scope X.env (firstIterPos [⟨tg, iter, ifs, 0⟩] pos) (newList []) false (eval iter X.env) (some (assign (.Name y py) X.env))) _ _ s
  have h : tLc wi g tt te (own.map (·.2)) σ H (fun x H1 => gName i x σ H1 D.nx) := h
  refine wpAny_bind (thn (lcE_core (Qf := fun _ s' => SP X pins D .next s') L hc hN I hi ok hg ht he hs h fun Dn C s' m H' I' q hn f => ?_) fun _ s' hq => wpAny_pure (wpAny_pure hq))
  show wpAny _ _ (assign (.Name y py) X.env (.ref Dn)) _ _ _
  refine wpAny_assign_Name (store_ok2 (v := V.ref Dn) I' hN hy (.inl hyl) rfl (fun s2 I2 ⟨a, sb, ha⟩ => ?_) (.inr hyl))
  obtain ⟨f0, f1, f2, f3, f4, f5⟩ := f
  have haC : C ≠ a := by
    rcases ha with z | z
    · rw [z]; exact f1
    · exact fun e => f4 y a z e.symm
  refine ⟨m, hn.sameBut sb haC, fun h3 sb3 => ?_⟩
  exact ⟨_, H', I2.turned (t' := s2.toks) (fun b o hb e => (sb3.2 b hb).trans e) f0 f1 f3 f4 f5, q⟩
end
end L2
end
section
set_option Elab.async false
set_option linter.all false
set_option maxRecDepth 100000
set_option maxHeartbeats 4000000
namespace My
open PySem PySem.Spec PyProof.Rows L2 TL
abbrev S (w : T) : Str := ⟨w.toArray⟩
abbrev strV (w : T) : V := .str (S w)
theorem S_len (w : T) : (S w).length = w.length := by rw [len_tl, tl_mk]
theorem S_inj {a b : T} (h : S a = S b) : a = b := by
  have := congrArg tl h
  exact this
theorem ofS (s : String) : Str.ofString s = S (Kwc.text s) := ext_tl (by rw [tl_ofString, tl_mk]; rfl)
theorem strV_dec (a b : T) : decide (strV a = strV b) = decide (a = b) := by
  by_cases h : a = b
  · subst h; simp
  · have : ¬ strV a = strV b := fun q => h (S_inj (V.str.inj q))
    rw [decide_eq_false h, decide_eq_false this]
structure Plain (w : T) : Prop where
  sg : ∀ c ∈ w, sign c = true
  ln : w.length ≤ 500
theorem sign_lt {c : Nat} (h : sign c = true) : c < 128 := by
  simp [sign, wsign, isD, Kwc.letter] at h
  omega
structure Known (P : Program) (w : World) (K : PySem.W.Frag) (mg : Str → Option Value) (base : Heap) (CX : CXT) (k : Nat) (x : Str) (ps : List Str) (sp : Sp) : Prop where
  ex : ∃ (f : Addr) (fd : FuncData), mg x = some (.ref f) ∧ PySem.W.keepIn K (.ref f) = true ∧ Binds K fd ps [] ∧ FnOk P w K mg base CX k f fd ps sp
structure TopFn (K : PySem.W.Frag) (mg : Str → Option Value) (x : Str) (st : Stmt) : Prop where
  ex : ∃ (f : Addr) (fd : FuncData), mg x = some (.ref f) ∧ Fun K x x st f fd
section
variable {X : Cx} {CX : CXT} {E : XK} {x : Str} {p pos : Pos} {e : Expr} {es : List Expr} {t : TA} {k : Nat} {ps : List Str} {sp : Sp}
theorem pe_kn (N : Known X.prog X.w X.K X.mg X.base CX k x ps sp) (hr : Room k X.A) (hg : Gl X x) (hx : Passes CX X E) (ha : PA X (e :: es) t) (hdb : (x == ("__debug__" : Str)) = false := by decide)
    (he : starEach (e :: es) X.env = (false, eval e X.env) :: starEach es X.env := by rfl) (hpl : (backTo pos (starEach es X.env)).any (·.1) = false := by rfl) : PE X (.Call (.Name x p) (e :: es) [] pos) (tCall sp [] E t) := by
  obtain ⟨f, fd, m, kp, b, G⟩ := N.ex
  exact pe_call G hr hg m kp b .nil hx ha hdb he hpl
end
section
variable {P : Program} {w : World} {K : PySem.W.Frag} {mg : Str → Option Value} {base : Heap}
theorem known_of {CX : CXT} {x : Str} {st : Stmt} {ps : List Str} {k : Nat} {sp : Sp} (N : TopFn K mg x st)
    (hb : ∀ (kV doc pm : Value) (an : Option Addr) (cdv ct : Value) (us : List Value), us.length = ps.length → bindArgs (PySem.W.fnOf x x (defArgs st) (defBody st) (defScope st) .none kV doc pm an cdv ct) ⟨us, []⟩ = pure (ps.zip us))
    (h : ∀ f fd, Fun K x x st f fd → FnOk P w K mg base CX k f fd ps sp) : Known P w K mg base CX k x ps sp := by
  obtain ⟨f, fd, m, F⟩ := N.ex
  exact ⟨f, fd, m, F.kp, F.binds hb, h f fd F⟩
end
inductive RV where
  | non
  | i (n : Int)
  | b (c : Bool)
  | l (ns : List Int)
def RetR (H : Hp) (Q : VK) : RV → Prop
  | .non => ∀ H', Same H H' → Q .non H'
  | .i n => ∀ H', Same H H' → Q (.int n) H'
  | .b c => ∀ H', Same H H' → Q (.bl c) H'
  | .l ns => ∀ H' p, Same H H' → H p = none → H' p = some (.lst (ns.map V.int)) → Q (.ref p) H'
theorem RetR.mono {H H1 : Hp} {Q : VK} {r : RV} (h : RetR H Q r) (s : Same H H1) : RetR H1 Q r := by
  cases r with
  | non => exact fun H' s' => h H' (s.trans s')
  | i n => exact fun H' s' => h H' (s.trans s')
  | b c => exact fun H' s' => h H' (s.trans s')
  | l ns => exact fun H' p s' hn hp => h H' p (s.trans s') (s.free hn) hp
theorem same_new {H H1 : Hp} {p : Addr} {o : HO} (s : Same H H1) (hp : H1 p = none) : Same H (upd H1 p o) := fun b u e => by
  rw [upd_ne (ne_of_none (s b u e) hp)]
  exact s b u e
def top (i : Nat) : Stmt := PySem.Challenge.pw_weathercode_s02_write.main.body.getD i (.Pass ⟨0, 0, 0, 0⟩)
end My
end
section
set_option Elab.async false
set_option linter.all false
set_option maxRecDepth 100000
set_option maxHeartbeats 4000000
namespace My
open PySem PySem.Spec PyProof.Rows L2 TL
theorem small500 {n : Nat} (h : n ≤ 500) : n ≤ sizeLine := Nat.le_trans h (by decide)
theorem dec_intV (a b : Int) : decide (V.int a = V.int b) = decide (a = b) := by
  by_cases h : a = b
  · subst h; simp
  · rw [decide_eq_false h, decide_eq_false fun q => h (V.int.inj q)]
theorem bt_all : bootBuiltins "all" = some (.builtin "all") := by decide +kernel
theorem bt_ord : bootBuiltins "ord" = some (.builtin "ord") := by decide +kernel
theorem bt_str : bootBuiltins "str" = some (.type "str") := by decide +kernel
theorem bt_set : bootBuiltins "set" = some (.type "set") := by decide +kernel
structure Bt (mg : Str → Option Value) : Prop where
  len : mg "len" = none
  all : mg "all" = none
  ord : mg "ord" = none
  dict : mg "dict" = none
  int : mg "int" = none
  set : mg "set" = none
  range : mg "range" = none
  str : mg "str" = none
def GV (mg : Str → Option Value) (x : Str) (v : V) : Prop := ∃ u, mg x = some u ∧ RelV v u
theorem pe_gv {X : Cx} {x : Str} {v : V} {pos : Pos} (g : GV X.mg x v) (hg : Gl X x) (hd : (x == ("__debug__" : Str)) = false := by decide) : PE X (.Name x pos) (tC v) := by
  obtain ⟨u, hm, r⟩ := g
  exact pe_glob hg hm r hd
theorem iteB {c : Bool} {A B : Prop} (h1 : c = true → A) (h2 : c = false → B) : if c = true then A else B := by
  cases c with
  | true => exact iteT (h1 rfl)
  | false => exact iteF (h2 rfl)
theorem nt {b : Bool} (h : (!b) = true) : b = false := by cases b <;> first | rfl | cases h
theorem nf {b : Bool} (h : (!b) = false) : b = true := by cases b <;> first | rfl | cases h
theorem text_plain (s : String) (h : (Kwc.text s).all sign = true := by decide) (hl : (Kwc.text s).length ≤ 500 := by decide) : Plain (Kwc.text s) := ⟨List.all_eq_true.mp h, hl⟩
def spMF : Sp := fun vs H Q _ => ∃ n : Nat, vs = [.int n] ∧ RetR H Q (.b (metresFit n))
abbrev cloudN (c : Kwc.Cloud) : List Int := [(c.amount : Int), (c.height : Int), (c.kind : Int)]
def spWF : Sp := fun vs H Q _ => ∃ d s g : Nat, vs = [.int d, .int s, .int g] ∧ RetR H Q (.b (windFits d s g))
abbrev windN (x : Kwc.Wind) : List Int := [(x.dir : Int), (x.speed : Int), (x.gust : Int)]
structure Kinds (K : PySem.W.Frag) (H : Hp) (p : Addr) (ks : List T) : Prop where
  sq : SqL K H p (ks.map strV)
  pl : ∀ k ∈ ks, Plain k
  ln : ks.length ≤ 500
def spAllRain (K : PySem.W.Frag) : Sp := fun vs H Q _ => ∃ p ks, vs = [.ref p] ∧ Kinds K H p ks ∧ RetR H Q (.b (allRain ks))
def spKindsFit (K : PySem.W.Frag) : Sp := fun vs H Q _ => ∃ p ks, vs = [.ref p] ∧ Kinds K H p ks ∧ RetR H Q (.b (kindsFit ks))
def spStrFits (K : PySem.W.Frag) : Sp := fun vs H Q _ => ∃ (s : Nat) (p : Addr) (ks : List T), vs = [.int s, .ref p] ∧ Kinds K H p ks ∧ RetR H Q (.b (strengthFits s ks))
def spMannerFits (K : PySem.W.Frag) : Sp := fun vs H Q _ => ∃ (m : T) (p : Addr) (ks : List T), vs = [strV m, .ref p] ∧ Plain m ∧ Kinds K H p ks ∧ RetR H Q (.b (mannerFits m ks))
def spWxFits (K : PySem.W.Frag) : Sp := fun vs H Q _ => ∃ (s : Nat) (m : T) (p : Addr) (ks : List T), vs = [.int s, strV m, .ref p] ∧ Plain m ∧ Kinds K H p ks ∧ RetR H Q (.b (wxFits s m ks))
def But (p : Addr) (H H' : Hp) : Prop := ∀ b o, H b = some o → b ≠ p → H' b = some o
theorem But.of {p : Addr} {H H' : Hp} (s : Same H H') : But p H H' := fun b o e _ => s b o e
theorem But.trans {p : Addr} {H H1 H2 : Hp} (a : But p H H1) (b : But p H1 H2) : But p H H2 := fun c o e n => b c o (a c o e n) n
structure LaysAt (H : Hp) (p : Addr) (as : List Addr) (cs : List Kwc.Cloud) : Prop where
  lst : H p = some (.lst (as.map V.ref))
  len : as.length = cs.length
  at_ : ∀ (j : Nat) (a : Addr) (c : Kwc.Cloud), as[j]? = some a → cs[j]? = some c → H a = some (.lst ((cloudN c).map V.int))
def spFollows : Sp := fun vs H Q _ => ∃ p q as cs c, vs = [.ref p, .ref q] ∧ LaysAt H p as cs ∧ cs.length ≤ 4 ∧ H q = some (.lst ((cloudN c).map V.int)) ∧ Q (.bl (follows cs c)) H
def TG (K : PySem.W.Frag) (mg : Str → Option Value) (x : Str) (ws : List T) : Prop := ∃ a, mg x = some (.ref a) ∧ ∃ (o : Obj) (its : Array Value) (n : Nat), K.lookup a = some o ∧ o.cls = .type "tuple" ∧ o.dict = none ∧ o.data = .seq its n ∧ its.size ≤ sizeLine ∧ Vals (ws.map strV) its.toList
theorem TG.get {K : PySem.W.Frag} {mg : Str → Option Value} {x : Str} {ws : List T} (g : TG K mg x ws) : ∃ a, GV mg x (.ref a) ∧ (∀ H, SqT K H a (ws.map strV)) ∧ ∃ o, K.lookup a = some o ∧ o.cls = .type "tuple" ∧ o.dict = none := by
  obtain ⟨a, m, o, its, n, h1, h2, h3, h4, h5, h6⟩ := g
  exact ⟨a, ⟨_, m, rfl⟩, fun H => .inr ⟨o, its, n, h1, h2, h4, h5, h6⟩, o, h1, h2, h3⟩
end My
end
section
set_option Elab.async false
set_option linter.all false
set_option maxRecDepth 100000
set_option maxHeartbeats 4000000
namespace My
open PySem PySem.Spec PyProof.Rows L2 TL
theorem wipe1 (σ : L2.St) (j : Nat) (v : Option V) : wipe ((wipe σ [j]).set j v) [j] = wipe σ [j] := by
  show ((σ.set j none).set j v).set j none = σ.set j none
  rw [List.set_set, List.set_set]
def LcR (J : It) (j : Nat) (te : TE) (σ : L2.St) (H1 : Hp) (D : Addr) (Q : VK) : Prop :=
    ∃ W : Nat → Nat → Hp → Prop, (∃ m, W 0 m (upd H1 D (.lst []))) ∧ ∀ i m H, W i m H →
      (J.stop i H ∧ Q (.ref D) H) ∨ (J.go i H ∧ ∃ Nx : Hp → Prop, (∀ H', Nx H' → ∃ m', m' < m ∧ W (i + 1) m' H') ∧ ∀ x H', J.yld i H x H' → gName j x (wipe σ [j]) H' fun σ2 H2 => wipe σ2 [j] = wipe σ [j] ∧ tYes σ2 H2 fun b H3 =>
        if b = true then te σ2 H3 fun y H4 => ∃ acc, H4 D = some (.lst acc) ∧ acc.length < sizeLine ∧ Nx (upd H4 D (.lst (acc ++ [y]))) else Nx H3)
theorem lc_gen {J : It} {n j : Nat} {src : Nat → V} {te : TE} {σ : L2.St} {H1 : Hp} {D : Addr} {Q : VK} (R : Nat → List V → Hp → Prop) (hgo : ∀ i H, i < n → Same H1 H → J.go i H) (hst : ∀ i H, n ≤ i → Same H1 H → J.stop i H) (hy : ∀ i H x H', i < n → Same H1 H → J.yld i H x H' → H' = H ∧ x = src i)
    (hD : H1 D = none) (hn : n < sizeLine) (h0 : R 0 [] (upd H1 D (.lst []))) (hl : ∀ i acc H, R i acc H → acc.length = i)
    (elem : ∀ i acc H' (k : VK), i < n → Same H1 H' → H' D = some (.lst acc) → R i acc H' → (∀ y H4, Same H' H4 → R (i + 1) (acc ++ [y]) (upd H4 D (.lst (acc ++ [y]))) → k y H4) → te ((wipe σ [j]).set j (some (src i))) H' k)
    (fin : ∀ H acc, Same H1 H → H D = some (.lst acc) → R n acc H → Q (.ref D) H) : LcR J j te σ H1 D Q := by
  refine ⟨fun i m H => ∃ acc, i ≤ n ∧ m = n - i ∧ Same H1 H ∧ H D = some (.lst acc) ∧ R i acc H, ⟨n, [], Nat.zero_le _, rfl, fun b o e => by rw [upd_ne (ne_of_none e hD)]; exact e, upd_same, h0⟩, fun i m H ⟨acc, hi, hm, hs, hd, hR⟩ => ?_⟩
  by_cases he : i = n
  · left
    subst he
    exact ⟨hst _ _ (Nat.le_refl _) hs, fin H acc hs hd hR⟩
  · right
    have hlt : i < n := by omega
    refine ⟨hgo i H hlt hs, fun H' => ∃ acc, Same H1 H' ∧ H' D = some (.lst acc) ∧ R (i + 1) acc H', fun H' ⟨acc', q1, q2, q3⟩ => ⟨n - (i + 1), by omega, acc', by omega, rfl, q1, q2, q3⟩, fun x H' hx => ?_⟩
    obtain ⟨rfl, rfl⟩ := hy i H x H' hlt hs hx
    refine ⟨wipe1 σ j _, ?_⟩
    refine elem i acc H' _ hlt hs hd hR fun y H4 s4 r4 => ⟨acc, s4 _ _ hd, by rw [hl i acc _ hR]; omega, acc ++ [y], fun b o e => ?_, upd_same, r4⟩
    rw [upd_ne (ne_of_none e hD)]
    exact s4 _ _ (hs b o e)
theorem lc_read {J : It} {n j : Nat} {src val : Nat → V} {te : TE} {σ : L2.St} {H1 : Hp} {D : Addr} {Q : VK} (hgo : ∀ i H, i < n → Same H1 H → J.go i H) (hst : ∀ i H, n ≤ i → Same H1 H → J.stop i H) (hy : ∀ i H x H', i < n → Same H1 H → J.yld i H x H' → H' = H ∧ x = src i)
    (hD : H1 D = none) (hn : n < sizeLine) (elem : ∀ i H' (k : VK), i < n → Same H1 H' → (∀ H4, Same H' H4 → k (val i) H4) → te ((wipe σ [j]).set j (some (src i))) H' k)
    (fin : ∀ H, Same H1 H → H D = some (.lst ((List.range n).map val)) → Q (.ref D) H) : LcR J j te σ H1 D Q := by
  refine lc_gen (fun i acc _ => acc = (List.range i).map val) hgo hst hy hD hn rfl (fun i acc H e => by rw [e]; simp) (fun i acc H' k hi hs hd hR hk => ?_) fun H acc hs hd hR => fin H hs (by rw [← hR]; exact hd)
  refine elem i H' k hi hs fun H4 s4 => hk _ H4 s4 ?_
  rw [hR, List.range_succ, List.map_append]
  rfl
theorem range_map_getD {A B : Type} (d : A) (f : A → B) : ∀ l : List A, (List.range l.length).map (fun i => f (l.getD i d)) = l.map f
  | [] => rfl
  | a :: l => by
    rw [List.length_cons, List.range_succ_eq_map, List.map_cons, List.map_map, List.map_cons, ← range_map_getD d f l]
    rfl
theorem its_go {w : T} {i : Nat} {H : Hp} (h : i < w.length) : (Its (S w)).go i H := by show i < w.toArray.size; simpa using h
theorem its_stop {w : T} {i : Nat} {H : Hp} (h : w.length ≤ i) : (Its (S w)).stop i H := by show w.toArray.size ≤ i; simpa using h
theorem its_yld {w : T} {i : Nat} {H H' : Hp} {x : V} (hi : i < w.length) (h : (Its (S w)).yld i H x H') : H' = H ∧ x = .str ⟨#[w.getD i 0]⟩ := by
  obtain ⟨e1, c, e2, e3⟩ := h
  refine ⟨e1, ?_⟩
  have e4 : w[i]? = some c := by simpa using e2
  rw [e3, List.getD_eq_getElem?_getD, e4]
  rfl
theorem lc_str {w : T} {val : Nat → V} {j : Nat} {te : TE} {σ : L2.St} {H1 : Hp} {Q : VK} (hw : w.length < sizeLine)
    (elem : ∀ i H' (k : VK), i < w.length → Same H1 H' → (∀ H4, Same H' H4 → k (val (w.getD i 0)) H4) → te ((wipe σ [j]).set j (some (.str ⟨#[w.getD i 0]⟩))) H' k)
    (fin : ∀ H D, Same H1 H → H1 D = none → H D = some (.lst (w.map val)) → Q (.ref D) H) (D : Addr) (hD : H1 D = none) : LcR (Its (S w)) j te σ H1 D Q :=
  lc_read (n := w.length) (src := fun i => .str ⟨#[w.getD i 0]⟩) (val := fun i => val (w.getD i 0)) (fun i H hi _ => its_go hi) (fun i H hi _ => its_stop hi) (fun i H x H' hi _ hx => its_yld hi hx) hD hw elem
    fun H hs hd => fin H D hs hD (by rw [hd, range_map_getD])
theorem lc_list {K : PySem.W.Frag} {a : Addr} {A : Type} {xs : List A} {f : A → V} {d : A} {val : A → V} {j : Nat} {te : TE} {σ : L2.St} {H1 : Hp} {Q : VK} (hs : SqL K H1 a (xs.map f)) (hw : xs.length < sizeLine)
    (elem : ∀ i H' (k : VK), i < xs.length → Same H1 H' → (∀ H4, Same H' H4 → k (val (xs.getD i d)) H4) → te ((wipe σ [j]).set j (some (f (xs.getD i d)))) H' k)
    (fin : ∀ H D, Same H1 H → H1 D = none → H D = some (.lst (xs.map val)) → Q (.ref D) H) (D : Addr) (hD : H1 D = none) : LcR (Itl K a) j te σ H1 D Q := by
  refine lc_read (n := xs.length) (src := fun i => f (xs.getD i d)) (val := fun i => val (xs.getD i d)) (fun i H hi s => ?_) (fun i H hi s => ?_) (fun i H x H' hi s hx => ?_) hD hw elem fun H hs' hd => fin H D hs' hD (by rw [hd, range_map_getD])
  · exact ⟨_, f xs[i], s.seq hs, by rw [List.getElem?_map, List.getElem?_eq_getElem hi]; rfl⟩
  · exact ⟨_, s.seq hs, by rw [List.length_map]; exact hi⟩
  · obtain ⟨e1, e2⟩ := hx
    refine ⟨e1, ?_⟩
    have e3 := e2 _ (s.seq hs)
    rw [List.getElem?_map, List.getElem?_eq_getElem hi] at e3
    rw [List.getD_eq_getElem?_getD, List.getElem?_eq_getElem hi]
    exact (Option.some.inj e3).symm
theorem rd_str {w : T} {i j : Nat} {val : Nat → V} {te : TE} {σ : L2.St} {H1 : Hp} {Q : VK} (hσ : σ[i]? = some (some (strV w))) (hw : w.length < sizeLine)
    (elem : ∀ i H' (k : VK), i < w.length → Same H1 H' → (∀ H4, Same H' H4 → k (val (w.getD i 0)) H4) → te ((wipe σ [j]).set j (some (.str ⟨#[w.getD i 0]⟩))) H' k)
    (fin : ∀ H D, Same H1 H → H1 D = none → H D = some (.lst (w.map val)) → Q (.ref D) H) : tLc (iStr (tVar i)) (gName j) tYes te [j] σ H1 Q :=
  ⟨_, hσ, _, rfl, fun D hD => lc_str hw elem fin D hD⟩
theorem rd_list {K : PySem.W.Frag} {a : Addr} {A : Type} {xs : List A} {f : A → V} {d : A} {val : A → V} {i j : Nat} {te : TE} {σ : L2.St} {H1 : Hp} {Q : VK} (hσ : σ[i]? = some (some (.ref a))) (hs : SqL K H1 a (xs.map f)) (hw : xs.length < sizeLine)
    (elem : ∀ i H' (k : VK), i < xs.length → Same H1 H' → (∀ H4, Same H' H4 → k (val (xs.getD i d)) H4) → te ((wipe σ [j]).set j (some (f (xs.getD i d)))) H' k)
    (fin : ∀ H D, Same H1 H → H1 D = none → H D = some (.lst (xs.map val)) → Q (.ref D) H) : tLc (iList K (tVar i)) (gName j) tYes te [j] σ H1 Q :=
  ⟨_, hσ, _, rfl, ⟨_, hs⟩, fun D hD => lc_list hs hw elem fin D hD⟩
end My
end
section
set_option Elab.async false
set_option linter.all false
set_option maxRecDepth 100000
set_option maxHeartbeats 4000000
namespace My
open PySem PySem.Spec PyProof.Rows L2 TL
end My
end
section
set_option Elab.async false
set_option linter.all false
set_option maxRecDepth 100000
set_option maxHeartbeats 4000000
namespace My
open PySem PySem.Spec PyProof.Rows L2 TL
theorem eqStr (a : T) (s : String) : decide (V.str (S a) = V.str (Str.ofString s)) = decide (a = Kwc.text s) := by rw [ofS s]; exact strV_dec a _
theorem inV_S (c : T) : ∀ ws : List T, inV (strV c) (ws.map strV) = ws.contains c
  | [] => rfl
  | x :: ws => by
    have ih := inV_S c ws
    unfold inV at ih ⊢
    rw [List.map_cons, List.any_cons, ih, List.contains_cons]
    congr 1
    show (S x == S c) = (c == x)
    by_cases e : x = c
    · subst e; simp
    · have h1 : S x ≠ S c := fun q => e (S_inj q)
      rw [beq_eq_false_iff_ne.mpr h1, beq_eq_false_iff_ne.mpr fun q => e q.symm]
theorem op_inK {X : Cx} (K : PySem.W.Frag) (h : X.K = K) : OpR X (compareOp .In) (rIn K false) := by rw [← h]; exact op_in_seq
theorem flat_strs (ws : List T) : (ws.map strV).all flatV = true := by
  rw [List.all_map, List.all_eq_true]
  intro x _
  rfl
theorem at_of' {xs : List Nat} {z : Int} {j : Nat} {v : Nat} (e : z = (j : Int)) (h : xs[j]? = some v) : atI xs z = some v := by
  subst e
  exact atI_nat h
end My
end
section
set_option Elab.async false
set_option linter.all false
set_option maxRecDepth 100000
set_option maxHeartbeats 4000000
namespace My
open PySem PySem.Spec PyProof.Rows L2 TL
def dirFits (n : Nat) : Bool := decide (10 ≤ n) && (decide (n ≤ 360) && (n % 10 == 0))
def spDF : Sp := fun vs H Q _ => ∃ n : Nat, vs = [.int n] ∧ RetR H Q (.b (dirFits n))
section
variable {P : Program} {w : World} {K : PySem.W.Frag} {mg : Str → Option Value} {base : Heap} {C XC : Addr}
abbrev st_metres_fit : Stmt := top 14
theorem sc_metres_fit : FnScope ["metres"] ["metres"] (defScope st_metres_fit) := ⟨rfl, rfl, rfl, by decide +kernel, rfl, by decide +kernel, by decide +kernel⟩
theorem kn_metres (N : TopFn K mg "metres_fit" st_metres_fit) : Known P w K mg base CX0 1 "metres_fit" ["metres"] spMF := by
  refine known_of N (fun _ _ _ _ _ _ us hl => match us, hl with | [_], _ => rfl) fun f fd Fu => ?_
  refine Fu.ok sc_metres_fit (fun vs H Q E h => ?_) (fun cdv A outer s H vs Q E hr h => ?_)
  · obtain ⟨n, rfl, _⟩ := h
    rfl
  · obtain ⟨n, rfl, ret⟩ := h
    refine ⟨_, (pss_cons (ps_if (pt_cmpR op_lt (pv 0) pe_int (nomark _))
      (pss_one (ps_ret (pe_cmpR op_eq (pe_op op_mod (pv 0) pe_int) pe_int (nomark _))))
      pss_nil)
      (pss_cons (ps_if (pt_cmpR op_lt (pv 0) pe_int (nomark _))
      (pss_one (ps_ret (pe_cmpR op_eq (pe_op op_mod (pv 0) pe_int) pe_int (nomark _))))
      pss_nil)
      (pss_one (ps_ret (pe_or (pe_cmpR op_eq (pv 0) pe_int (nomark _)) (pe_one (pe_and (pe_cmpR op_le (pv 0) pe_int (nomark _)) (pe_one (pe_cmpR op_eq (pe_op op_mod (pv 0) pe_int) pe_int (nomark _)))))))))), ?_⟩
    unfold metresFit at ret
    refine ⟨_, rfl, _, _, rfl, rfl, _, rfl, ?_⟩
    refine iteB (fun e => ?_) (fun e => ?_)
    · rw [if_pos (by simp at e; omega)] at ret
      refine ⟨_, rfl, _, _, rfl, rfl, (by show (0 : Int) < 50; decide), rfl, ?_⟩
      rw [dec_intV]
      have : decide ((n : Int) % 50 = 0) = (n % 50 == 0) := by
        rw [Bool.eq_iff_iff]; simp; omega
      rw [this]
      exact ret H (Same.refl H)
    · rw [if_neg (by simp at e; omega)] at ret
      refine ⟨_, rfl, _, _, rfl, rfl, _, rfl, ?_⟩
      refine iteB (fun e2 => ?_) (fun e2 => ?_)
      · rw [if_pos (by simp at e2; omega)] at ret
        refine ⟨_, rfl, _, _, rfl, rfl, (by show (0 : Int) < 100; decide), rfl, ?_⟩
        rw [dec_intV]
        have : decide ((n : Int) % 100 = 0) = (n % 100 == 0) := by
          rw [Bool.eq_iff_iff]; simp; omega
        rw [this]
        exact ret H (Same.refl H)
      · rw [if_neg (by simp at e2; omega)] at ret
        refine ⟨_, rfl, rfl, _, rfl, ?_⟩
        rw [dec_intV]
        have e9 : decide ((n : Int) = 9999) = (n == 9999) := by rw [Bool.eq_iff_iff]; simp; omega
        rw [e9]
        refine iteB (fun e3 => ?_) (fun e3 => ?_)
        · rw [e3] at ret
          exact ret H (Same.refl H)
        · rw [e3, Bool.false_or] at ret
          refine ⟨_, rfl, _, _, rfl, rfl, _, rfl, ?_⟩
          have e90 : decide ((n : Int) ≤ 9000) = decide (n ≤ 9000) := by rw [Bool.eq_iff_iff]; simp; omega
          rw [e90]
          refine iteB (fun e4 => ?_) (fun e4 => ?_)
          · rw [e4, Bool.true_and] at ret
            refine ⟨_, rfl, _, _, rfl, rfl, (by show (0 : Int) < 1000; decide), rfl, ?_⟩
            rw [dec_intV]
            have : decide ((n : Int) % 1000 = 0) = (n % 1000 == 0) := by
              rw [Bool.eq_iff_iff]; simp; omega
            rw [this]
            exact ret H (Same.refl H)
          · rw [e4, Bool.false_and] at ret
            exact ret H (Same.refl H)
abbrev st_direction_fits : Stmt := top 62
theorem sc_direction_fits : FnScope ["degrees"] ["degrees"] (defScope st_direction_fits) := ⟨rfl, rfl, rfl, by decide +kernel, rfl, by decide +kernel, by decide +kernel⟩
theorem kn_dfits (N : TopFn K mg "direction_fits" st_direction_fits) : Known P w K mg base CX0 1 "direction_fits" ["degrees"] spDF := by
  refine known_of N (fun _ _ _ _ _ _ us hl => match us, hl with | [_], _ => rfl) fun f fd Fu => ?_
  refine Fu.ok sc_direction_fits (fun vs H Q E h => ?_) (fun cdv A outer s H vs Q E hr h => ?_)
  · obtain ⟨n, rfl, _⟩ := h
    rfl
  · obtain ⟨n, rfl, ret⟩ := h
    refine ⟨_, (pss_one (ps_ret (pe_and (pe_chain op_le op_le pe_int (pv 0) pe_int) (pe_one (pe_cmpR op_eq (pe_op op_mod (pv 0) pe_int) pe_int (nomark _)))))), ?_⟩
    unfold dirFits at ret
    refine ⟨_, rfl, _, _, rfl, rfl, _, rfl, ?_⟩
    have e10 : decide ((10 : Int) ≤ (n : Int)) = decide (10 ≤ n) := by rw [Bool.eq_iff_iff]; simp; omega
    have e36 : decide ((n : Int) ≤ 360) = decide (n ≤ 360) := by rw [Bool.eq_iff_iff]; simp; omega
    dsimp only
    rw [e10]
    refine iteB (fun e1 => ?_) (fun e1 => ?_)
    · rw [e1, Bool.true_and] at ret
      refine ⟨_, _, rfl, rfl, _, rfl, ?_⟩
      rw [e36]
      refine iteB (fun e2 => ?_) (fun e2 => ?_)
      · rw [e2, Bool.true_and] at ret
        refine ⟨_, rfl, _, _, rfl, rfl, (by show (0 : Int) < 10; decide), rfl, ?_⟩
        rw [dec_intV]
        have : decide ((n : Int) % 10 = 0) = (n % 10 == 0) := by
          rw [Bool.eq_iff_iff]; simp; omega
        rw [this]
        exact ret H (Same.refl H)
      · rw [e2, Bool.false_and] at ret
        exact ret H (Same.refl H)
    · rw [e1, Bool.false_and] at ret
      exact ⟨_, rfl, iteF (ret H (Same.refl H))⟩
abbrev st_wind_fits : Stmt := top 63
theorem sc_wind_fits : FnScope ["degrees", "speed", "gusts"] ["degrees", "speed", "gusts"] (defScope st_wind_fits) := ⟨rfl, rfl, rfl, by decide +kernel, rfl, by decide +kernel, by decide +kernel⟩
theorem kn_wfits (N : TopFn K mg "wind_fits" st_wind_fits) : Known P w K mg base CX0 1 "wind_fits" ["degrees", "speed", "gusts"] spWF := by
  refine known_of N (fun _ _ _ _ _ _ us hl => match us, hl with | [_, _, _], _ => rfl) fun f fd Fu => ?_
  refine Fu.ok sc_wind_fits (fun vs H Q E h => ?_) (fun cdv A outer s H vs Q E hr h => ?_)
  · obtain ⟨d, t, g, rfl, _⟩ := h
    rfl
  · obtain ⟨d, t, g, rfl, ret⟩ := h
    refine ⟨_, (pss_cons (ps_if (pt_cmpR op_eq (pv 1) pe_int (nomark _))
      (pss_one (ps_ret (pe_and (pe_cmpR op_eq (pv 0) pe_int (nomark _)) (pe_one (pe_cmpR op_eq (pv 2) pe_int (nomark _))))))
      pss_nil)
      (pss_one (ps_ret (pe_and (pe_cmpR op_ne (pv 0) pe_int (nomark _)) (pe_one (pe_or (pe_cmpR op_eq (pv 2) pe_int (nomark _)) (pe_one (pe_cmpR op_gt (pv 2) (pv 1) (nomark _))))))))), ?_⟩
    unfold windFits at ret
    have z0 : ∀ n : Nat, decide (V.int (n : Int) = V.int 0) = (n == 0) := fun n => by rw [dec_intV, Bool.eq_iff_iff]; simp
    refine ⟨_, rfl, rfl, _, rfl, ?_⟩
    rw [z0]
    refine iteB (fun e => ?_) (fun e => ?_)
    · rw [if_pos (by simpa using e)] at ret
      refine ⟨_, rfl, rfl, _, rfl, ?_⟩
      rw [z0]
      refine iteB (fun e2 => ?_) (fun e2 => ?_)
      · rw [e2, Bool.true_and] at ret
        refine ⟨_, rfl, rfl, ?_⟩
        rw [z0]
        exact ret H (Same.refl H)
      · rw [e2, Bool.false_and] at ret
        exact ret H (Same.refl H)
    · rw [if_neg (by simpa using e)] at ret
      refine ⟨_, rfl, rfl, _, rfl, ?_⟩
      rw [z0]
      refine iteB (fun e2 => ?_) (fun e2 => ?_)
      · have : (d != 0) = true := e2
        rw [this, Bool.true_and] at ret
        refine ⟨_, rfl, rfl, _, rfl, ?_⟩
        rw [z0]
        refine iteB (fun e3 => ?_) (fun e3 => ?_)
        · rw [e3, Bool.true_or] at ret
          exact ret H (Same.refl H)
        · rw [e3, Bool.false_or] at ret
          refine ⟨_, rfl, _, rfl, _, _, rfl, rfl, ?_⟩
          show Q (.bl (decide ((t : Int) < (g : Int)))) H
          have : decide ((t : Int) < (g : Int)) = decide (t < g) := by rw [Bool.eq_iff_iff]; simp
          rw [this]
          exact ret H (Same.refl H)
      · have : (d != 0) = false := e2
        rw [this, Bool.false_and] at ret
        exact ret H (Same.refl H)
def spMHS (K : PySem.W.Frag) : Sp := fun vs H Q _ => ∃ (q : Addr) (x : Kwc.Wind), vs = [.ref q] ∧ SqL K H q ((windN x).map V.int) ∧ Q (.bl (decide (x.dir ≠ 999) && decide (x.speed ≠ 0))) H
abbrev st_may_have_sector : Stmt := top 64
theorem sc_may_have_sector : FnScope ["wind"] ["wind"] (defScope st_may_have_sector) := ⟨rfl, rfl, rfl, by decide +kernel, rfl, by decide +kernel, by decide +kernel⟩
theorem kn_mhs (N : TopFn K mg "may_have_sector" st_may_have_sector) (g_VARIABLE : GV mg "VARIABLE" (.int 999)) : Known P w K mg base CX0 1 "may_have_sector" ["wind"] (spMHS K) := by
  refine known_of N (fun _ _ _ _ _ _ us hl => match us, hl with | [_], _ => rfl) fun f fd Fu => ?_
  refine Fu.ok sc_may_have_sector (fun vs H Q E h => ?_) (fun cdv A outer s H vs Q E hr h => ?_)
  · obtain ⟨q, x, rfl, _⟩ := h
    rfl
  · obtain ⟨q, x, rfl, hq, ret⟩ := h
    refine ⟨_, (pss_one (ps_ret (pe_and (pe_cmpR op_ne (pe_ix ix_list (pv 0) pe_int (fun _ _ => rfl)) (pe_gv g_VARIABLE (by rfl)) (nomark _)) (pe_one (pe_cmpR op_ne (pe_ix ix_list (pv 0) pe_int (fun _ _ => rfl)) pe_int (nomark _)))))), ?_⟩
    have ea : (!decide (V.int (x.dir : Int) = V.int 999)) = decide (x.dir ≠ 999) := by rw [dec_intV, Bool.eq_iff_iff]; simp; omega
    have eb : (!decide (V.int (x.speed : Int) = V.int 0)) = decide (x.speed ≠ 0) := by rw [dec_intV, Bool.eq_iff_iff]; simp
    refine ⟨_, rfl, q, _, _, _, rfl, rfl, hq, at_of (j := 0) rfl rfl, rfl, _, rfl, ?_⟩
    rw [ea]
    refine iteB (fun e1 => ?_) (fun e1 => ?_)
    · rw [e1, Bool.true_and] at ret
      refine ⟨_, rfl, q, _, _, _, rfl, rfl, hq, at_of (j := 1) rfl rfl, rfl, ?_⟩
      rw [eb]
      exact ret
    · rw [e1, Bool.false_and] at ret
      exact ret
end
end My
end
section
set_option Elab.async false
set_option linter.all false
set_option maxRecDepth 100000
set_option maxHeartbeats 4000000
namespace My
open PySem PySem.Spec PyProof.Rows L2 TL
theorem all_map_id7 {A : Type} (f : A → Bool) : ∀ l : List A, (l.map f).all id = l.all f := fun l => by rw [List.all_map]; rfl
theorem fold_dd : ∀ (l acc : List Str), (l.foldl ddS acc).length ≤ acc.length + l.length ∧ ((l.foldl ddS acc).length = acc.length + l.length ↔ (∀ x ∈ l, x ∉ acc) ∧ l.Nodup)
  | [], acc => by simp
  | v :: l, acc => by
    rw [List.foldl_cons]
    obtain ⟨h1, h2⟩ := fold_dd l (ddS acc v)
    by_cases hm : acc.any (· == v) = true
    · have hv : v ∈ acc := by simpa using hm
      have e : ddS acc v = acc := by unfold ddS; rw [if_pos hm]
      rw [e] at h1 h2 ⊢
      refine ⟨by simp only [List.length_cons]; omega, fun q => ?_, fun q => absurd hv (q.1 v (by simp))⟩
      simp only [List.length_cons] at q
      omega
    · have hv : v ∉ acc := by simpa using hm
      have e : ddS acc v = acc ++ [v] := by unfold ddS; rw [if_neg hm]
      rw [e] at h1 h2 ⊢
      have hl : (acc ++ [v]).length = acc.length + 1 := by simp
      rw [hl] at h1 h2
      refine ⟨by simp only [List.length_cons]; omega, ?_⟩
      have e2 : acc.length + (v :: l).length = acc.length + 1 + l.length := by simp only [List.length_cons]; omega
      rw [e2, h2]
      constructor
      · rintro ⟨a, b⟩
        refine ⟨fun x hx => ?_, List.nodup_cons.mpr ⟨fun hvl => a v hvl (by simp), b⟩⟩
        rcases List.mem_cons.mp hx with q | q
        · rw [q]; exact hv
        · exact fun z => a x q (by simp [z])
      · rintro ⟨a, b⟩
        obtain ⟨b1, b2⟩ := List.nodup_cons.mp b
        refine ⟨fun x hx hm' => ?_, b2⟩
        rcases List.mem_append.mp hm' with z | z
        · exact a x (by simp [hx]) z
        · have : x = v := by simpa using z
          rw [this] at hx; exact b1 hx
theorem noTw_nodup : ∀ ks : List T, noTw ks = true ↔ (ks.map S).Nodup
  | [] => by simp [noTw]
  | k :: ks => by
    rw [noTw, Bool.and_eq_true, noTw_nodup ks, List.map_cons, List.nodup_cons]
    have : (!ks.contains k) = true ↔ S k ∉ ks.map S := by
      constructor
      · intro h hm
        obtain ⟨x, hx, e⟩ := List.mem_map.mp hm
        have : x = k := S_inj e
        subst this
        simp [hx] at h
      · intro h
        have : k ∉ ks := fun hk => h (List.mem_map.mpr ⟨k, hk, rfl⟩)
        simp [this]
    rw [this]
theorem set_size (ks : List T) : decide (((metS (fun i => (ks.map S).getD i Str.empty) (ks.map S).length).length : Int) = (ks.length : Int)) = noTw ks := by
  have e : metS (fun i => (ks.map S).getD i Str.empty) (ks.map S).length = (ks.map S).foldl ddS [] := by
    unfold metS
    rw [range_map_getD Str.empty (fun x => x), List.map_id']
  rw [e]
  have h := (fold_dd (ks.map S) []).2
  simp only [List.length_nil, Nat.zero_add, List.length_map] at h
  rw [Bool.eq_iff_iff, noTw_nodup, decide_eq_true_iff]
  constructor
  · intro q
    exact (h.mp (by omega)).2
  · intro q
    have := h.mpr ⟨fun x _ z => (by cases z), q⟩
    omega
theorem set_size_le (ks : List T) : (metS (fun i => (ks.map S).getD i Str.empty) (ks.map S).length).length ≤ ks.length := by
  have := metS_le (fun i => (ks.map S).getD i Str.empty) (ks.map S).length
  exact Nat.le_trans this (by rw [List.length_map]; exact Nat.le_refl _)
theorem Kinds.same {K : PySem.W.Frag} {H H' : Hp} {p : Addr} {ks : List T} (k : Kinds K H p ks) (s : Same H H') : Kinds K H' p ks := ⟨s.seq k.sq, k.pl, k.ln⟩
theorem Kinds.strs {K : PySem.W.Frag} {H : Hp} {p : Addr} {ks : List T} (k : Kinds K H p ks) : SqL K H p ((ks.map S).map V.str) := by
  rw [List.map_map]; exact k.sq
theorem Kinds.lt {K : PySem.W.Frag} {H : Hp} {p : Addr} {ks : List T} (k : Kinds K H p ks) : ks.length < sizeLine := Nat.lt_of_le_of_lt k.ln (by decide)
section
variable {P : Program} {w : World} {K : PySem.W.Frag} {mg : Str → Option Value} {base : Heap} {C XC : Addr}
abbrev st_all_rain : Stmt := top 50
theorem sc_all_rain : FnScope ["kinds", "kind"] ["kinds"] (defScope st_all_rain) := ⟨rfl, rfl, rfl, by decide +kernel, rfl, by decide +kernel, by decide +kernel⟩
theorem kn_allrain (N : TopFn K mg "all_rain" st_all_rain) (B : Bt mg) (gR : TG K mg "RAIN_KINDS" RAIN) : Known P w K mg base CX0 1 "all_rain" ["kinds"] (spAllRain K) := by
  obtain ⟨aR, g_RAIN_KINDS, sqR, _⟩ := gR.get
  refine known_of N (fun _ _ _ _ _ _ us hl => match us, hl with | [_], _ => rfl) fun f fd Fu => ?_
  refine Fu.ok sc_all_rain (fun vs H Q E h => ?_) (fun cdv A outer s H vs Q E hr h => ?_)
  · obtain ⟨p, ks, rfl, _⟩ := h
    rfl
  · obtain ⟨p, ks, rfl, hk, ret⟩ := h
    refine ⟨_, (pss_one (ps_ret (pe_callB (call_allB rfl) (by rfl) B.all bt_all (pa_cons (pe_lc rfl sc_all_rain.nd (pi_list (pv 0)) (blkOk_by (own := [("kind", 1)]) (by kernel_rfl)) (fun _ _ _ _ _ => pg_name (i := 1) sc_all_rain.nd rfl (Or.inl rfl)) (fun _ _ _ _ _ => pts_nil) (fun _ _ _ _ _ => (pe_cmpR (op_inK K rfl) (pv 1) (pe_gv g_RAIN_KINDS (by rfl)) (by rfl)))) pa_nil)))), ?_⟩
    dsimp only [tRet, tCB, tCons, tNil]
    refine rd_list (d := []) (f := strV) (val := fun k => V.bl (RAIN.contains k)) rfl hk.sq hk.lt (fun i H' k hi hs hkk => ?_) (fun H1 D s1 hD hd => ?_)
    · refine ⟨_, rfl, aR, _, rfl, .inr (sqR H'), rfl, flat_strs _, ?_⟩
      rw [if_neg (by decide), inV_S]
      exact hkk H' (Same.refl _)
    · refine ⟨D, ks.map fun k => RAIN.contains k, rfl, SqL.of (by rw [hd, List.map_map]; rfl), ?_⟩
      rw [all_map_id7]
      exact ret H1 s1
abbrev st_kinds_fit : Stmt := top 51
theorem sc_kinds_fit : FnScope ["kinds"] ["kinds"] (defScope st_kinds_fit) := ⟨rfl, rfl, rfl, by decide +kernel, rfl, by decide +kernel, by decide +kernel⟩
theorem kn_kfit (N : TopFn K mg "kinds_fit" st_kinds_fit) (B : Bt mg) (g_MOST_KINDS : GV mg "MOST_KINDS" (.int 3)) (kn_all_rain : Known P w K mg base CX0 1 "all_rain" ["kinds"] (spAllRain K)) : Known P w K mg base CX0 2 "kinds_fit" ["kinds"] (spKindsFit K) := by
  refine known_of N (fun _ _ _ _ _ _ us hl => match us, hl with | [_], _ => rfl) fun f fd Fu => ?_
  refine Fu.ok sc_kinds_fit (fun vs H Q E h => ?_) (fun cdv A outer s H vs Q E hr h => ?_)
  · obtain ⟨p, ks, rfl, _⟩ := h
    rfl
  · obtain ⟨p, ks, rfl, hk, ret⟩ := h
    refine ⟨_, (pss_cons (ps_if (PW.pt (pw_or (pt_cmpR op_gt (pe_callB call_len_seq (by rfl) B.len PySem.boot_len (pa_cons (pv 0) pa_nil)) (pe_gv g_MOST_KINDS (by rfl)) (nomark _)) (pw_or1 (pt_cmpR op_ne (pe_callB call_lenS (by rfl) B.len PySem.boot_len (pa_cons (pe_callTy (call_setT rfl) (by rfl) B.set bt_set (pa_cons (pv 0) pa_nil)) pa_nil)) (pe_callB call_len_seq (by rfl) B.len PySem.boot_len (pa_cons (pv 0) pa_nil)) (nomark _)))))
      (pss_one (ps_ret pe_bl))
      pss_nil)
      (pss_one (ps_ret (pe_or (pe_cmpR op_lt (pe_callB call_len_seq (by rfl) B.len PySem.boot_len (pa_cons (pv 0) pa_nil)) pe_int (nomark _)) (pe_one (pe_kn kn_all_rain (hr.mono (by decide)) rfl pass0 (pa_cons (pv 0) pa_nil))))))), ?_⟩
    unfold kindsFit at ret
    refine ⟨_, rfl, p, _, rfl, .inl hk.sq, _, _, rfl, rfl, _, rfl, ?_⟩
    rw [List.length_map]
    refine iteB (fun e => ?_) (fun e => ?_)
    · rw [if_pos (.inl (by simp at e; omega))] at ret
      exact ret H (Same.refl H)
    · have h3 : ks.length ≤ 3 := by simp at e; omega
      refine ⟨_, rfl, p, ks.map S, rfl, hk.strs, (by rw [List.length_map]; exact Nat.lt_of_le_of_lt (Nat.succ_le_succ h3) (by unfold scanBound; decide)), fun l hl => ?_⟩
      have s1 : Same H (upd H l (sizedSet P w l (metS (fun i => (ks.map S).getD i Str.empty) (ks.map S).length).length)) := same_new (Same.refl H) hl
      refine ⟨l, _, rfl, upd_same, (by have := set_size_le ks; omega), _, rfl, p, _, rfl, .inl (s1.seq hk.sq), rfl, _, rfl, ?_⟩
      have e5 : decide (V.int (((metS (fun i => (ks.map S).getD i Str.empty) (ks.map S).length).length : Nat) : Int) = V.int (((ks.map strV).length : Nat) : Int)) = noTw ks := by
        rw [dec_intV, show (ks.map strV).length = ks.length from List.length_map ..]
        exact set_size ks
      rw [e5]
      refine iteB (fun e2 => ?_) (fun e2 => ?_)
      · rw [if_pos (.inr (nt e2))] at ret
        exact ret _ s1
      · rw [if_neg (fun z => by
          rcases z with z | z
          · omega
          · rw [nf e2] at z; cases z)] at ret
        refine ⟨_, rfl, p, _, rfl, .inl (s1.seq hk.sq), _, _, rfl, rfl, _, rfl, ?_⟩
        rw [List.length_map]
        have e0 : decide ((ks.length : Int) < 2) = decide (ks.length < 2) := by rw [Bool.eq_iff_iff]; simp; omega
        rw [e0]
        refine iteB (fun e3 => ?_) (fun e3 => ?_)
        · rw [e3, Bool.true_or] at ret
          exact ret _ s1
        · rw [e3, Bool.false_or] at ret
          exact ⟨_, rfl, p, ks, rfl, hk.same s1, ret.mono s1⟩
abbrev st_strength_fits : Stmt := top 52
theorem sc_strength_fits : FnScope ["strength", "kinds"] ["strength", "kinds"] (defScope st_strength_fits) := ⟨rfl, rfl, rfl, by decide +kernel, rfl, by decide +kernel, by decide +kernel⟩
theorem kn_sfit (N : TopFn K mg "strength_fits" st_strength_fits) (B : Bt mg) (g_NEITHER : GV mg "NEITHER" (.int 1)) (gR : TG K mg "RAIN_KINDS" RAIN) : Known P w K mg base CX0 1 "strength_fits" ["strength", "kinds"] (spStrFits K) := by
  obtain ⟨aR, g_RAIN_KINDS, sqR, _⟩ := gR.get
  refine known_of N (fun _ _ _ _ _ _ us hl => match us, hl with | [_, _], _ => rfl) fun f fd Fu => ?_
  refine Fu.ok sc_strength_fits (fun vs H Q E h => ?_) (fun cdv A outer s H vs Q E hr h => ?_)
  · obtain ⟨t, p, ks, rfl, _⟩ := h
    rfl
  · obtain ⟨t, p, ks, rfl, hk, ret⟩ := h
    refine ⟨_, (pss_one (ps_ret (pe_or (pe_cmpR op_eq (pv 0) (pe_gv g_NEITHER (by rfl)) (nomark _)) (pe_one (pe_and (pe_cmpR op_gt (pe_callB call_len_seq (by rfl) B.len PySem.boot_len (pa_cons (pv 1) pa_nil)) pe_int (nomark _)) (pe_one (pe_cmpR op_in_seq (pe_ix ix_list (pv 1) pe_int (fun _ _ => rfl)) (pe_gv g_RAIN_KINDS (by rfl)) (by rfl)))))))), ?_⟩
    unfold strengthFits at ret
    refine ⟨_, rfl, rfl, _, rfl, ?_⟩
    have e1 : decide (V.int (t : Int) = V.int 1) = (t == 1) := by rw [dec_intV, Bool.eq_iff_iff]; simp; omega
    rw [e1]
    refine iteB (fun e => ?_) (fun e => ?_)
    · rw [e, Bool.true_or] at ret
      exact ret H (Same.refl H)
    · rw [e, Bool.false_or] at ret
      refine ⟨_, rfl, p, _, rfl, .inl hk.sq, _, _, rfl, rfl, _, rfl, ?_⟩
      rw [List.length_map]
      have e2 : decide ((0 : Int) < (ks.length : Int)) = decide (0 < ks.length) := by rw [Bool.eq_iff_iff]; simp
      rw [e2]
      refine iteB (fun e3 => ?_) (fun e3 => ?_)
      · rw [e3, Bool.true_and] at ret
        match ks, hk, ret with
        | k :: l, hk, ret =>
          refine ⟨_, rfl, p, _, _, _, rfl, rfl, hk.sq, at_of (j := 0) (v := strV k) rfl rfl, aR, _, rfl, .inr (sqR H), rfl, flat_strs _, ?_⟩
          rw [if_neg (by decide), inV_S]
          exact ret H (Same.refl H)
        | [], hk, ret => simp at e3
      · rw [e3, Bool.false_and] at ret
        exact ret H (Same.refl H)
end
theorem S_ok {k : T} (p : Plain k) : PyData.strOk (S k) = true := by
  unfold PyData.strOk
  have h : ∀ c ∈ k, decide (c < 1114112) = true := fun c hc => decide_eq_true (Nat.lt_of_lt_of_le (sign_lt (p.sg c hc)) (by decide))
  show (k.toArray.all fun x => decide (x < 1114112)) = true
  simpa using h
theorem lay_strs : ∀ {ks : List T}, (∀ k ∈ ks, Plain k) → PyData.canLayAll0 (ks.map fun k => PyData.str (S k)) = true ∧ PyData.depthAll (ks.map fun k => PyData.str (S k)) = 0
  | [], _ => ⟨rfl, rfl⟩
  | k :: ks, h => by
    obtain ⟨h1, h2⟩ := lay_strs (ks := ks) fun x hx => h x (by simp [hx])
    rw [List.map_cons, PyData.canLayAll0.eq_2, PyData.depthAll.eq_2, h1, h2]
    have : PyData.canLay0 (.str (S k)) = true := by simp only [PyData.canLay0]; exact S_ok (h k (by simp))
    rw [this]
    exact ⟨rfl, rfl⟩
theorem shaped_strs {ks : List T} (h : ∀ k ∈ ks, Plain k) : SeqAt.shaped (.list (ks.map fun k => PyData.str (S k))) = true := by
  obtain ⟨h1, h2⟩ := lay_strs h
  unfold SeqAt.shaped
  rw [PyData.depth.eq_1, h2]
  have : PyData.canLay0 (.list (ks.map fun k => PyData.str (S k))) = true := by simp only [PyData.canLay0]; exact h1
  rw [this]
  rfl
theorem dp_strs {K : PySem.W.Frag} {H : Hp} : ∀ ks : List T, DpAll K H (ks.map strV) (ks.map fun k => PyData.str (S k))
  | [] => .nil
  | k :: ks => .cons (.str _) (dp_strs ks)
theorem eqv_strs : ∀ a b : List T, PyData.eqvAll (a.map fun k => PyData.str (S k)) (b.map fun k => PyData.str (S k)) = (a == b)
  | [], [] => rfl
  | [], b :: l => by rw [List.map_cons]; exact PyData.eqvAll.eq_3 _ _
  | a :: l, [] => rfl
  | a :: l, b :: l' => by
    rw [List.map_cons, List.map_cons, PyData.eqvAll.eq_2, eqv_strs l l']
    show (S a == S b && _) = (a == b && l == l')
    congr 1
    by_cases e : a = b
    · subst e; simp
    · have h1 : S a ≠ S b := fun q => e (S_inj q)
      rw [beq_eq_false_iff_ne.mpr h1, beq_eq_false_iff_ne.mpr e]
theorem inT (c : T) (ss : List String) : inV (strV c) (ss.map fun s => V.str (Str.ofString s)) = (ss.map Kwc.text).contains c := by
  rw [← inV_S, List.map_map]
  congr 1
  apply List.map_congr_left
  intro s _
  exact congrArg V.str (ofS s)
theorem in_tup {K : PySem.W.Frag} {H : Hp} {c : T} {Q : VK} (ss : List String) (hl : ss.length ≤ 500) (h : ∀ H', Same H H' → Q (.bl ((ss.map Kwc.text).contains c)) H') :
    (ss.map fun s => V.str (Str.ofString s)).length ≤ sizeLine ∧ ∀ t, H t = none → rIn K false (strV c) (.ref t) (upd H t (.tup (ss.map fun s => V.str (Str.ofString s)))) Q := by
  refine ⟨by rw [List.length_map]; exact small500 hl, fun t ht => ⟨t, _, rfl, .inr (SqT.of upd_same), rfl, ?_, ?_⟩⟩
  · rw [List.all_map, List.all_eq_true]
    intro x _
    rfl
  · rw [if_neg (by decide), inT]
    exact h _ (same_new (Same.refl H) ht)
theorem is_FG {K : PySem.W.Frag} {H : Hp} {p : Addr} {ks : List T} {Q : VK} (hk : Kinds K H p ks) (ret : ∀ H', Same H H' → Q (.bl (ks == [Kwc.text "FG"])) H') :
    ([V.str (Str.ofString "FG")] : List V).length ≤ sizeLine ∧ ∀ t, H t = none → rEqD K (.ref p) (.ref t) (upd H t (.lst [V.str (Str.ofString "FG")])) Q := by
  refine ⟨by decide, fun t ht => ?_⟩
  have s1 : Same H (upd H t (.lst [V.str (Str.ofString "FG")])) := same_new (Same.refl H) ht
  have hq : SqL K (upd H t (.lst [V.str (Str.ofString "FG")])) t [V.str (Str.ofString "FG")] := SqL.of upd_same
  have hk' := hk.same s1
  have r := ret _ s1
  revert hq hk' r
  generalize (upd H t (.lst [V.str (Str.ofString "FG")])) = H1
  intro hq hk r
  rw [ofS "FG"] at hq
  refine ⟨_, _, .lst hk.sq (dp_strs ks), .lst hq (dp_strs [Kwc.text "FG"]), shaped_strs hk.pl, shaped_strs (fun k hk => ?_), ?_⟩
  · have : k = Kwc.text "FG" := by simpa using hk
    rw [this]; exact text_plain "FG"
  · have : PyData.eqv (.list (ks.map fun k => PyData.str (S k))) (.list ([Kwc.text "FG"].map fun k => PyData.str (S k))) = (ks == [Kwc.text "FG"]) := eqv_strs ks [Kwc.text "FG"]
    rw [this]; exact r
section
variable {P : Program} {w : World} {K : PySem.W.Frag} {mg : Str → Option Value} {base : Heap} {C XC : Addr}
abbrev st_manner_fits : Stmt := top 53
theorem sc_manner_fits : FnScope ["manner", "kinds"] ["manner", "kinds"] (defScope st_manner_fits) := ⟨rfl, rfl, rfl, by decide +kernel, rfl, by decide +kernel, by decide +kernel⟩
theorem kn_mfit (N : TopFn K mg "manner_fits" st_manner_fits) (B : Bt mg) (kn_all_rain : Known P w K mg base CX0 1 "all_rain" ["kinds"] (spAllRain K)) : Known P w K mg base CX0 2 "manner_fits" ["manner", "kinds"] (spMannerFits K) := by
  refine known_of N (fun _ _ _ _ _ _ us hl => match us, hl with | [_, _], _ => rfl) fun f fd Fu => ?_
  refine Fu.ok sc_manner_fits (fun vs H Q E h => ?_) (fun cdv A outer s H vs Q E hr h => ?_)
  · obtain ⟨m, p, ks, rfl, _⟩ := h
    rfl
  · obtain ⟨m, p, ks, rfl, hm, hk, ret⟩ := h
    refine ⟨_, (pss_cons (ps_if (pt_cmpR op_eq (pv 0) pe_str (nomark _))
      (pss_one (ps_ret (pe_kn kn_all_rain (hr.mono (by decide)) rfl pass0 (pa_cons (pv 1) pa_nil))))
      pss_nil)
      (pss_cons (ps_if (pt_cmpR op_eq (pe_callB call_len_seq (by rfl) B.len PySem.boot_len (pa_cons (pv 1) pa_nil)) pe_int (nomark _))
      (pss_one (ps_ret pe_bl))
      pss_nil)
      (pss_cons (ps_if (pt_cmpR op_in_seq (pv 0) (pe_tup (pa_cons pe_str (pa_cons pe_str (pa_cons pe_str pa_nil)))) (by rfl))
      (pss_one (ps_ret (pe_cmpR (op_eqD hr.units) (pv 1) (pe_lst (pa_cons pe_str pa_nil)) (nomark _))))
      pss_nil)
      (pss_cons (ps_if (pt_cmpR op_in_seq (pv 0) (pe_tup (pa_cons pe_str (pa_cons pe_str pa_nil))) (by rfl))
      (pss_one (ps_ret (pe_and (pe_cmpR op_eq (pe_callB call_len_seq (by rfl) B.len PySem.boot_len (pa_cons (pv 1) pa_nil)) pe_int (nomark _)) (pe_one (pe_cmpR op_in_seq (pe_ix ix_list (pv 1) pe_int (fun _ _ => rfl)) (pe_tup (pa_cons pe_str (pa_cons pe_str (pa_cons pe_str pa_nil)))) (by rfl))))))
      pss_nil)
      (pss_cons (ps_if (pt_cmpR op_eq (pv 0) pe_str (nomark _))
      (pss_one (ps_ret (pe_and (pe_kn kn_all_rain (hr.mono (by decide)) rfl pass0 (pa_cons (pv 1) pa_nil)) (pe_one (pe_cmpR op_notIn_seq pe_str (pv 1) (by rfl))))))
      pss_nil)
      (pss_cons (ps_if (pt_cmpR op_eq (pv 0) pe_str (nomark _))
      (pss_one (ps_ret (pe_or (pe_cmpR op_in_seq (pe_ix ix_list (pv 1) pe_int (fun _ _ => rfl)) (pe_tup (pa_cons pe_str (pa_cons pe_str pa_nil))) (by rfl)) (pe_one (pe_cmpR (op_eqD hr.units) (pv 1) (pe_lst (pa_cons pe_str pa_nil)) (nomark _))))))
      pss_nil)
      (pss_one (ps_ret pe_bl)))))))), ?_⟩
    unfold mannerFits at ret
    refine ⟨_, rfl, rfl, _, rfl, ?_⟩
    rw [eqStr]
    refine iteB (fun e => ?_) (fun e => ?_)
    · rw [if_pos (of_decide_eq_true e)] at ret
      exact ⟨_, rfl, p, ks, rfl, hk, ret⟩
    · rw [if_neg (of_decide_eq_false e)] at ret
      refine ⟨_, rfl, p, _, rfl, .inl hk.sq, rfl, _, rfl, ?_⟩
      rw [dec_intV, List.length_map]
      have e0 : decide ((ks.length : Int) = 0) = decide (ks.length = 0) := by rw [Bool.eq_iff_iff]; simp
      rw [e0]
      refine iteB (fun e => ?_) (fun e => ?_)
      · rw [if_pos (of_decide_eq_true e)] at ret
        exact ret H (Same.refl H)
      · rw [if_neg (of_decide_eq_false e)] at ret
        match ks, hk, ret, e with
        | [], _, _, e => cases e
        | k :: l, hk, ret, _ =>
        refine ⟨_, rfl, in_tup ["MI", "BC", "PR"] (by decide) fun H1 s1 => ⟨_, rfl, ?_⟩⟩
        refine iteB (fun e => ?_) (fun e => ?_)
        · rw [if_pos (show [Kwc.text "MI", Kwc.text "BC", Kwc.text "PR"].contains m = true from e)] at ret
          exact ⟨_, rfl, is_FG (hk.same s1) fun H2 s2 => ret _ (s1.trans s2)⟩
        · rw [if_neg (by rw [show [Kwc.text "MI", Kwc.text "BC", Kwc.text "PR"].contains m = false from e]; decide)] at ret
          refine ⟨_, rfl, in_tup ["DR", "BL"] (by decide) fun H2 s2 => ⟨_, rfl, ?_⟩⟩
          have s12 := s1.trans s2
          refine iteB (fun e => ?_) (fun e => ?_)
          · rw [if_pos (show [Kwc.text "DR", Kwc.text "BL"].contains m = true from e)] at ret
            refine ⟨_, rfl, p, _, rfl, .inl (s12.seq hk.sq), rfl, _, rfl, ?_⟩
            rw [dec_intV]
            have e1 : decide ((((k :: l).map strV).length : Int) = 1) = ((k :: l).length == 1) := by
              rw [List.length_map, Bool.eq_iff_iff]
              simp
              exact ⟨fun h => List.length_eq_zero_iff.mp (by omega), fun h => by rw [h]; rfl⟩
            rw [e1]
            refine iteB (fun e => ?_) (fun e => ?_)
            · rw [e, Bool.true_and] at ret
              refine ⟨_, rfl, p, _, _, _, rfl, rfl, s12.seq hk.sq, at_of (j := 0) (v := strV k) rfl rfl, in_tup ["SN", "DU", "SA"] (by decide) fun H3 s3 => ?_⟩
              exact ret H3 (s12.trans s3)
            · rw [e, Bool.false_and] at ret
              exact ret H2 s12
          · rw [if_neg (by rw [show [Kwc.text "DR", Kwc.text "BL"].contains m = false from e]; decide)] at ret
            refine ⟨_, rfl, rfl, _, rfl, ?_⟩
            rw [eqStr]
            refine iteB (fun e => ?_) (fun e => ?_)
            · rw [if_pos (of_decide_eq_true e)] at ret
              refine ⟨_, rfl, p, k :: l, rfl, hk.same s12, fun H3 s3 => ⟨_, rfl, ?_⟩⟩
              refine iteB (fun e => ?_) (fun e => ?_)
              · rw [e, Bool.true_and] at ret
                refine ⟨_, rfl, p, _, rfl, .inl ((s12.trans s3).seq hk.sq), rfl, flat_strs _, ?_⟩
                rw [if_pos rfl, ofS "DZ", inV_S]
                exact ret H3 (s12.trans s3)
              · rw [e, Bool.false_and] at ret
                exact ret H3 (s12.trans s3)
            · rw [if_neg (of_decide_eq_false e)] at ret
              refine ⟨_, rfl, rfl, _, rfl, ?_⟩
              rw [eqStr]
              refine iteB (fun e => ?_) (fun e => ?_)
              · rw [if_pos (of_decide_eq_true e)] at ret
                refine ⟨_, rfl, p, _, _, _, rfl, rfl, s12.seq hk.sq, at_of (j := 0) (v := strV k) rfl rfl, in_tup ["DZ", "RA"] (by decide) fun H3 s3 => ⟨_, rfl, ?_⟩⟩
                refine iteB (fun e => ?_) (fun e => ?_)
                · rw [show [Kwc.text "DZ", Kwc.text "RA"].contains ((k :: l).headD []) = true from e, Bool.true_or] at ret
                  exact ret H3 (s12.trans s3)
                · rw [show [Kwc.text "DZ", Kwc.text "RA"].contains ((k :: l).headD []) = false from e, Bool.false_or] at ret
                  exact ⟨_, rfl, is_FG ((hk.same s12).same s3) fun H4 s4 => ret _ ((s12.trans s3).trans s4)⟩
              · rw [if_neg (of_decide_eq_false e)] at ret
                exact ret H2 s12
abbrev st_weather_fits : Stmt := top 54
theorem sc_weather_fits : FnScope ["strength", "manner", "kinds"] ["strength", "manner", "kinds"] (defScope st_weather_fits) := ⟨rfl, rfl, rfl, by decide +kernel, rfl, by decide +kernel, by decide +kernel⟩
theorem kn_wfit (N : TopFn K mg "weather_fits" st_weather_fits) (kn_kinds_fit : Known P w K mg base CX0 2 "kinds_fit" ["kinds"] (spKindsFit K)) (kn_strength_fits : Known P w K mg base CX0 1 "strength_fits" ["strength", "kinds"] (spStrFits K)) (kn_manner_fits : Known P w K mg base CX0 2 "manner_fits" ["manner", "kinds"] (spMannerFits K)) : Known P w K mg base CX0 3 "weather_fits" ["strength", "manner", "kinds"] (spWxFits K) := by
  refine known_of N (fun _ _ _ _ _ _ us hl => match us, hl with | [_, _, _], _ => rfl) fun f fd Fu => ?_
  refine Fu.ok sc_weather_fits (fun vs H Q E h => ?_) (fun cdv A outer s H vs Q E hr h => ?_)
  · obtain ⟨t, m, p, ks, rfl, _⟩ := h
    rfl
  · obtain ⟨t, m, p, ks, rfl, hm, hk, ret⟩ := h
    refine ⟨_, (pss_one (ps_ret (pe_and (pe_kn kn_kinds_fit (hr.mono (by decide)) rfl pass0 (pa_cons (pv 2) pa_nil)) (pe_and (pe_kn kn_strength_fits (hr.mono (by decide)) rfl pass0 (pa_cons (pv 0) (pa_cons (pv 2) pa_nil))) (pe_one (pe_kn kn_manner_fits (hr.mono (by decide)) rfl pass0 (pa_cons (pv 1) (pa_cons (pv 2) pa_nil)))))))), ?_⟩
    unfold wxFits at ret
    refine ⟨_, rfl, p, ks, rfl, hk, fun H1 s1 => ⟨_, rfl, ?_⟩⟩
    refine iteB (fun e => ?_) (fun e => ?_)
    · rw [e, Bool.true_and] at ret
      refine ⟨_, rfl, _, rfl, t, p, ks, rfl, hk.same s1, fun H2 s2 => ⟨_, rfl, ?_⟩⟩
      refine iteB (fun e => ?_) (fun e => ?_)
      · rw [e, Bool.true_and] at ret
        exact ⟨_, rfl, _, rfl, m, p, ks, rfl, hm, hk.same (s1.trans s2), ret.mono (s1.trans s2)⟩
      · rw [e, Bool.false_and] at ret
        exact ret H2 (s1.trans s2)
    · rw [e, Bool.false_and, Bool.false_and] at ret
      exact ret H1 s1
end
end My
end
section
set_option Elab.async false
set_option linter.all false
set_option maxRecDepth 100000
set_option maxHeartbeats 4000000
namespace My
open PySem PySem.Spec PyProof.Rows L2 TL
theorem But.free {p q : Addr} {H H1 : Hp} (b : But p H H1) (hq : H1 q = none) (hp : q ≠ p) : H q = none := by
  cases e : H q with
  | none => rfl
  | some o => rw [b q o e hp] at hq; cases hq
theorem LaysAt.ne {H : Hp} {p a : Addr} {as : List Addr} {cs : List Kwc.Cloud} {c : Kwc.Cloud} (L : LaysAt H p as cs) (h : H a = some (.lst ((cloudN c).map V.int))) : a ≠ p := fun e => by
  rw [e, L.lst] at h
  injection h with h
  injection h with h
  match as, h with
  | [], h => cases h
  | x :: r, h => cases h
theorem LaysAt.add {H H' : Hp} {p a : Addr} {as : List Addr} {cs : List Kwc.Cloud} {c : Kwc.Cloud} (L : LaysAt H p as cs) (h : H a = some (.lst ((cloudN c).map V.int))) : LaysAt (upd H p (.lst (as.map V.ref ++ [.ref a]))) p (as ++ [a]) (cs ++ [c]) := by
  refine ⟨by rw [upd_same, List.map_append]; rfl, by simp [L.len], fun j x y hx hy => ?_⟩
  by_cases hj : j < as.length
  · rw [List.getElem?_append_left hj] at hx
    rw [List.getElem?_append_left (by rw [← L.len]; exact hj)] at hy
    have := L.at_ j x y hx hy
    rw [upd_ne (L.ne this)]
    exact this
  · have hl := L.len
    rw [List.getElem?_append_right (by omega)] at hx
    rw [List.getElem?_append_right (by omega)] at hy
    have ej : j - as.length = 0 := by
      cases e : j - as.length with
      | zero => rfl
      | succ n => rw [e] at hx; cases hx
    rw [ej] at hx
    rw [show j - cs.length = 0 from by omega] at hy
    cases hx
    cases hy
    rw [upd_ne (L.ne h)]
    exact h
theorem LaysAt.same {H H' : Hp} {q : Addr} {as : List Addr} {cs : List Kwc.Cloud} (L : LaysAt H q as cs) (s : Same H H') : LaysAt H' q as cs :=
  ⟨s _ _ L.lst, L.len, fun j x y hx hy => s _ _ (L.at_ j x y hx hy)⟩
theorem follows_lt {cs : List Kwc.Cloud} {c : Kwc.Cloud} (h : follows cs c = true) : cs.length < 4 := by
  unfold follows at h
  split at h
  · rename_i e
    have : cs = [] := by simpa using e
    rw [this]; decide
  · simp at h
    exact h.1
section
variable {P : Program} {w : World} {K : PySem.W.Frag} {mg : Str → Option Value} {base : Heap} {C XC : Addr}
abbrev st_layer_follows : Stmt := top 35
theorem sc_layer_follows : FnScope ["layers", "layer", "before"] ["layers", "layer"] (defScope st_layer_follows) := ⟨rfl, rfl, rfl, by decide +kernel, rfl, by decide +kernel, by decide +kernel⟩
theorem kn_follows (N : TopFn K mg "layer_follows" st_layer_follows) (B : Bt mg) (g_MOST_LAYERS : GV mg "MOST_LAYERS" (.int 4)) (g_OVERCAST : GV mg "OVERCAST" (.int 4)) : Known P w K mg base CX0 1 "layer_follows" ["layers", "layer"] spFollows := by
  refine known_of N (fun _ _ _ _ _ _ us hl => match us, hl with | [_, _], _ => rfl) fun f fd Fu => ?_
  refine Fu.ok sc_layer_follows (fun vs H Q E h => ?_) (fun cdv A outer s H vs Q E hr h => ?_)
  · obtain ⟨p, q, as, cs, c, rfl, _⟩ := h
    rfl
  · obtain ⟨p, q, as, cs, c, rfl, L, hc, hq, ret⟩ := h
    refine ⟨_, (pss_cons (ps_if (pt_cmpR op_eq (pe_callB call_len_seq (by rfl) B.len PySem.boot_len (pa_cons (pv 0) pa_nil)) pe_int (nomark _))
      (pss_one (ps_ret pe_bl))
      pss_nil)
      (pss_cons (ps_set (i := 2) sc_layer_follows.nd rfl (by first | exact Or.inl rfl | exact Or.inr rfl) (pe_ix ix_list (pv 0) (pe_un un_neg pe_int) (fun _ _ => rfl)))
      (pss_one (ps_ret (pe_and (pe_cmpR op_lt (pe_callB call_len_seq (by rfl) B.len PySem.boot_len (pa_cons (pv 0) pa_nil)) (pe_gv g_MOST_LAYERS (by rfl)) (nomark _)) (pe_and (pe_cmpR op_ne (pe_ix ix_list (pv 2) pe_int (fun _ _ => rfl)) (pe_gv g_OVERCAST (by rfl)) (nomark _)) (pe_one (pe_cmpR op_ge (pe_ix ix_list (pv 1) pe_int (fun _ _ => rfl)) (pe_ix ix_list (pv 2) pe_int (fun _ _ => rfl)) (nomark _))))))))), ?_⟩
    refine ⟨_, rfl, p, _, rfl, .inl (SqL.of L.lst), rfl, _, rfl, ?_⟩
    rw [dec_intV, List.length_map]
    rcases List.eq_nil_or_concat cs with e | ⟨cs', b, e⟩
    · subst e
      have : as = [] := List.length_eq_zero_iff.mp L.len
      subst this
      exact iteT ret
    · subst e
      rw [List.concat_eq_append] at *
      have hl := L.len
      rw [List.length_append] at hl
      rw [decide_eq_false (by simp at hl; omega)]
      refine iteF ?_
      rcases List.eq_nil_or_concat as with e | ⟨as', a, e⟩
      · subst e; simp at hl
      subst e
      rw [List.concat_eq_append] at *
      have hll : as'.length = cs'.length := by simpa using hl
      have ha : H a = some (.lst ((cloudN b).map V.int)) := L.at_ as'.length a b (by simp) (by rw [hll]; simp)
      refine ⟨_, rfl, _, rfl, p, _, _, _, rfl, rfl, SqL.of L.lst, (by rw [List.map_append]; exact atI_last _ _), ?_⟩
      have ef : follows (cs' ++ [b]) c = (decide (cs'.length + 1 < 4) && (b.amount != 4 && decide (b.height ≤ c.height))) := by
        unfold follows
        simp
      rw [ef] at ret
      refine ⟨_, rfl, p, _, rfl, .inl (SqL.of L.lst), _, _, rfl, rfl, _, rfl, ?_⟩
      have e1 : decide ((((as' ++ [a]).map V.ref).length : Int) < 4) = decide (cs'.length + 1 < 4) := by
        rw [Bool.eq_iff_iff]; simp; omega
      rw [e1]
      refine iteB (fun e => ?_) (fun e => ?_)
      · rw [e, Bool.true_and] at ret
        refine ⟨_, rfl, a, _, _, _, rfl, rfl, SqL.of ha, at_of (j := 0) rfl rfl, rfl, _, rfl, ?_⟩
        have e2 : (!decide (V.int (b.amount : Int) = V.int 4)) = (b.amount != 4) := by
          rw [dec_intV, Bool.eq_iff_iff]; simp; omega
        rw [e2]
        refine iteB (fun e => ?_) (fun e => ?_)
        · rw [e, Bool.true_and] at ret
          refine ⟨_, rfl, q, _, _, _, rfl, rfl, SqL.of hq, at_of (j := 1) rfl rfl, _, rfl, a, _, _, _, rfl, rfl, SqL.of ha, at_of (j := 1) rfl rfl, _, _, rfl, rfl, ?_⟩
          have e3 : decide ((b.height : Int) ≤ (c.height : Int)) = decide (b.height ≤ c.height) := by rw [Bool.eq_iff_iff]; simp
          show Q (V.bl (decide ((b.height : Int) ≤ (c.height : Int)))) H
          rw [e3]
          exact ret
        · rw [e, Bool.false_and] at ret
          exact ret
      · rw [e, Bool.false_and] at ret
        exact ret
end
end My
end
section
set_option linter.all false
set_option maxRecDepth 100000
namespace My
open PySem
theorem z2 : ∀ n : Nat, n < 100 → (Txt.zfill (Str.ofString (toString (n : Int))) 2).cps.toList = Kwc.digits 2 n := by decide +kernel
theorem z3 : ∀ n : Nat, n < 1000 → (Txt.zfill (Str.ofString (toString (n : Int))) 3).cps.toList = Kwc.digits 3 n := by decide +kernel
theorem z4a : ∀ k : Nat, k < 200 → (Txt.zfill (Str.ofString (toString ((50 * k : Nat) : Int))) 4).cps.toList = Kwc.digits 4 (50 * k) := by decide +kernel
theorem z4b : (Txt.zfill (Str.ofString (toString ((9999 : Nat) : Int))) 4).cps.toList = Kwc.digits 4 9999 := by decide +kernel
theorem z4s (n : Nat) (h : metresFit n = true) : n < 10000 ∧ (Txt.zfill (Str.ofString (toString (n : Int))) 4).cps.toList = Kwc.digits 4 n := by
  by_cases e : n = 9999
  · subst e; exact ⟨by decide, z4b⟩
  · have hk : ∃ k, k < 200 ∧ n = 50 * k := by
      unfold metresFit at h
      split at h
      · exact ⟨n / 50, by omega, by have : n % 50 = 0 := by simpa using h
                                    omega⟩
      · split at h
        · exact ⟨n / 50, by omega, by have : n % 100 = 0 := by simpa using h
                                      omega⟩
        · simp [e] at h
          exact ⟨n / 50, by omega, by omega⟩
    obtain ⟨k, h1, rfl⟩ := hk
    exact ⟨by omega, z4a k h1⟩
theorem z4p0 : ∀ k : Nat, k < 251 → (Txt.zfill (Str.ofString (toString ((850 + k : Nat) : Int))) 4).cps.toList = Kwc.digits 4 (850 + k) := by decide +kernel
theorem z4p (n : Nat) (h1 : n ≤ 1100) (h2 : 850 ≤ n) : (Txt.zfill (Str.ofString (toString (n : Int))) 4).cps.toList = Kwc.digits 4 n := by
  have := z4p0 (n - 850) (by omega)
  rw [show 850 + (n - 850) = n from by omega] at this
  exact this
end My
end
section
set_option Elab.async false
set_option linter.all false
set_option maxRecDepth 100000
set_option maxHeartbeats 4000000
namespace My
open PySem PySem.Spec PyProof.Rows L2 TL
open Kwc (From)
theorem mt_zfill {X : Cx} : MtR X "str.zfill" (fun x xs H Q => ∃ a i, x = .str a ∧ xs = [.int i] ∧ PadOk i = true ∧ Q (.str (Txt.zfill a i)) H) := by
  intro pins s σ H x xs v us Q I rx rs h
  obtain ⟨a, i, rfl, rfl, hp, h⟩ := h
  obtain ⟨t, rfl⟩ := rx
  cases rs with
  | cons r1 rs =>
    cases rs
    obtain ⟨u, rfl⟩ := r1
    exact PySem.SC.zfill hp fun t' k => ⟨.str (Txt.zfill a i), H, I.tok k, ⟨t', rfl⟩, h⟩
theorem pad9 : ∀ k : Nat, k < 10 → PadOk (k : Int) = true := by decide +kernel
theorem tk_cons (lo hi z : Int) (r : List Int) : tk lo hi (z :: r) = if lo ≤ z ∧ z ≤ hi then some (z, r) else none := rfl
theorem tk_some {lo hi z : Int} {l r : List Int} (h : tk lo hi l = some (z, r)) : l = z :: r ∧ lo ≤ z ∧ z ≤ hi := by
  cases l with
  | nil => cases h
  | cons a t =>
    unfold tk at h
    simp only at h
    split at h
    · rename_i q; cases h; exact ⟨rfl, q⟩
    · cases h
structure FigOk (K : PySem.W.Frag) (mg : Str → Option Value) (C : Addr) : Prop where
  cl : Cls K C
  nN : NoAttr K C "numbers"
  nP : NoAttr K C "place"
  mgC : mg "Figures" = some (.ref C)
structure KnM (P : Program) (w : World) (K : PySem.W.Frag) (mg : Str → Option Value) (base : Heap) (CX : CXT) (k : Nat) (C : Addr) (m : Str) (ps : List Str) (sp : Sp) : Prop where
  ex : ∃ (f : Addr) (fd : FuncData), Meth K C m f ∧ Binds K fd ps [] ∧ FnOk P w K mg base CX k f fd ps sp
structure TopM (K : PySem.W.Frag) (C : Addr) (m qual : Str) (st : Stmt) : Prop where
  ex : ∃ (f : Addr) (fd : FuncData), Meth K C m f ∧ Fun K m qual st f fd
theorem knM_of {P : Program} {w : World} {K : PySem.W.Frag} {mg : Str → Option Value} {base : Heap} {CX : CXT} {C : Addr} {m qual : Str} {st : Stmt} {ps : List Str} {k : Nat} {sp : Sp} (N : TopM K C m qual st)
    (hb : ∀ (kV doc pm : Value) (an : Option Addr) (cdv ct : Value) (us : List Value), us.length = ps.length → bindArgs (PySem.W.fnOf m qual (defArgs st) (defBody st) (defScope st) .none kV doc pm an cdv ct) ⟨us, []⟩ = pure (ps.zip us))
    (h : ∀ f fd, Fun K m qual st f fd → FnOk P w K mg base CX k f fd ps sp) : KnM P w K mg base CX k C m ps sp := by
  obtain ⟨f, fd, me, F⟩ := N.ex
  exact ⟨f, fd, me, F.binds hb, h f fd F⟩
def fgF (nl : Addr) (k : Int) : List (Str × V) := putF "place" (.int k) (putF "numbers" (.ref nl) [])
theorem fgF_numbers (nl : Addr) (k : Int) : (fgF nl k).lookup ("numbers" : Str) = some (.ref nl) := by
  unfold fgF
  rw [lookup_putF, if_neg (by decide +kernel), lookup_putF, if_pos rfl]
theorem fgF_place (nl : Addr) (k : Int) : (fgF nl k).lookup ("place" : Str) = some (.int k) := by
  unfold fgF
  rw [lookup_putF, if_pos rfl]
theorem fgF_no (nl : Addr) (k : Int) {m : Str} (h1 : ¬ m = "numbers") (h2 : ¬ m = "place") : (fgF nl k).lookup m = none := by
  unfold fgF
  rw [lookup_putF, if_neg h2, lookup_putF, if_neg h1]
  rfl
theorem fgF_put (nl : Addr) (k z : Int) : putF "place" (.int z) (fgF nl k) = fgF nl z := by
  unfold fgF
  have e : ¬ (("numbers" : Str) = "place") := by decide +kernel
  simp [putF, e]
theorem fgF_len (nl : Addr) (k : Int) : (fgF nl k).length < 1000 := by
  have h1 := length_putF "place" (.int k) (putF "numbers" (.ref nl) [])
  have h2 := length_putF "numbers" (.ref nl) []
  unfold fgF
  simp at h2
  omega
structure FigAt (K : PySem.W.Frag) (C nl : Addr) (ns : List Int) (H : Hp) (p : Addr) (l : List Int) : Prop where
  ex : ∃ (dx : Addr) (k : Nat), H p = some (.ins C dx (fgF nl k)) ∧ l = ns.drop k
  sq : SqL K H nl (ns.map V.int)
section
variable {K : PySem.W.Frag} {C nl : Addr} {ns : List Int} {H H' : Hp} {p q : Addr} {l : List Int}
theorem sq_but {xs : List V} (sq : SqL K H nl xs) (b : But p H H') {dx : Addr} {fs : List (Str × V)} (hp : H p = some (.ins C dx fs)) : SqL K H' nl xs := by
  rcases sq with (h | ⟨o, h⟩) | h
  · exact .inl (.inl (b _ _ h fun e => by rw [e, hp] at h; cases h))
  · exact .inl (.inr ⟨o, b _ _ h fun e => by rw [e, hp] at h; cases h⟩)
  · exact .inr h
theorem sq_off {xs : List V} {H0 : Hp} (sq : SqL K H0 nl xs) (h0 : H0 q = none) {o : HO} (s : SqL K H nl xs) : SqL K (upd H q o) nl xs := by
  rcases sq with (h | ⟨u, h⟩) | h
  · have n : nl ≠ q := ne_of_none h h0
    rcases s with (z | ⟨u, z⟩) | z
    · exact .inl (.inl (by rw [upd_ne n]; exact z))
    · exact .inl (.inr ⟨u, by rw [upd_ne n]; exact z⟩)
    · exact .inr z
  · have n : nl ≠ q := ne_of_none h h0
    rcases s with (z | ⟨u, z⟩) | z
    · exact .inl (.inl (by rw [upd_ne n]; exact z))
    · exact .inl (.inr ⟨u, by rw [upd_ne n]; exact z⟩)
    · exact .inr z
  · exact .inr h
theorem FigAt.same (c : FigAt K C nl ns H p l) (s : Same H H') : FigAt K C nl ns H' p l := by
  obtain ⟨dx, k, h1, h2⟩ := c.ex
  exact ⟨⟨dx, k, s _ _ h1, h2⟩, s.seq c.sq⟩
theorem FigAt.new (c : FigAt K C nl ns H p l) (h : H q = none) : q ≠ p := fun e => by
  obtain ⟨dx, k, h1, _⟩ := c.ex
  rw [e, h1] at h; cases h
theorem FigAt.ne {xs : List V} (c : FigAt K C nl ns H p l) (h : H q = some (.lst xs)) : q ≠ p := fun e => by
  obtain ⟨dx, k, h1, _⟩ := c.ex
  rw [e, h1] at h; cases h
theorem FigAt.obj (c : FigAt K C nl ns H p l) : ∃ (dx : Addr) (fs : List (Str × V)), H p = some (.ins C dx fs) ∧ ∀ m : Str, ¬ m = "numbers" → ¬ m = "place" → fs.lookup m = none := by
  obtain ⟨dx, k, h1, _⟩ := c.ex
  exact ⟨dx, _, h1, fun m => fgF_no _ _⟩
theorem FigAt.put {H0 : Hp} {l0 : List Int} {o : HO} (c : FigAt K C nl ns H p l) (c0 : FigAt K C nl ns H0 p l0) (h0 : H0 q = none) : FigAt K C nl ns (upd H q o) p l := by
  obtain ⟨dx, k, h1, h2⟩ := c.ex
  exact ⟨⟨dx, k, by rw [upd_ne (Ne.symm (c0.new h0))]; exact h1, h2⟩, sq_off c0.sq h0 c.sq⟩
theorem But.put' {H0 : Hp} {o : HO} (b : But p H0 H) (h0 : H0 q = none) : But p H0 (upd H q o) := fun c o e n => by
  rw [upd_ne (ne_of_none e h0)]
  exact b c o e n
end
def spFgInit (K : PySem.W.Frag) (C : Addr) : Sp := fun vs H Q _ => ∃ (p dx nl : Addr) (ns : List Int), vs = [.ref p, .ref nl] ∧ H p = some (.ins C dx []) ∧ SqL K H nl (ns.map V.int) ∧ ∀ H', But p H H' → FigAt K C nl ns H' p ns → Q .non H'
def spFgEnd (K : PySem.W.Frag) (C : Addr) : Sp := fun vs H Q _ => ∃ nl ns p l, vs = [.ref p] ∧ FigAt K C nl ns H p l ∧ Q (.bl l.isEmpty) H
def spTk (K : PySem.W.Frag) (C XC : Addr) : Sp := fun vs H Q E => ∃ nl ns p l lo hi, vs = [.ref p, .int lo, .int hi] ∧ FigAt K C nl ns H p l ∧ (tk lo hi l = none → ∀ H', E (.ref XC) none H') ∧
  (∀ z r, tk lo hi l = some (z, r) → ∀ H', But p H H' → FigAt K C nl ns H' p r → Q (.int z) H')
def spPasses (K : PySem.W.Frag) (C : Addr) : Sp := fun vs H Q _ => ∃ nl ns p l z, vs = [.ref p, .int z] ∧ FigAt K C nl ns H p l ∧ (l.head? = some z → ∀ H', But p H H' → FigAt K C nl ns H' p l.tail → Q (.bl true) H') ∧ (¬ l.head? = some z → Q (.bl false) H)
def spInsist (XC : Addr) : Sp := fun vs H Q E => ∃ b, vs = [.bl b] ∧ (b = false → ∀ H', E (.ref XC) none H') ∧ (b = true → Q .non H)
def spDigits : Sp := fun vs H Q _ => ∃ (n k : Nat), vs = [.int n, .int k] ∧ n < 100000 ∧ k ≤ 9 ∧ Q (.str (Txt.zfill (Str.ofString (toString (n : Int))) k)) H
def spTell (K : PySem.W.Frag) (C XC : Addr) (f : From (List T)) : Sp := fun vs H Q E => ∃ nl ns p l, vs = [.ref p] ∧ FigAt K C nl ns H p l ∧ (f l = none → ∀ H', E (.ref XC) none H') ∧
  (∀ ws r, f l = some (ws, r) → ∀ H' q, But p H H' → FigAt K C nl ns H' p r → H q = none → H' q = some (.lst (ws.map strV)) → Q (.ref q) H')
section
variable {P : Program} {w : World} {K : PySem.W.Frag} {mg : Str → Option Value} {base : Heap} {C XC : Addr}
abbrev st_insist : Stmt := top 2
theorem sc_insist : FnScope ["holds"] ["holds"] (defScope st_insist) := ⟨rfl, rfl, rfl, by decide +kernel, rfl, by decide +kernel, by decide +kernel⟩
theorem kn_insist (N : TopFn K mg "insist" st_insist) (EX : ExcC K mg "NotNumbers" XC) : Known P w K mg base (CXe P w XC) 1 "insist" ["holds"] (spInsist XC) := by
  refine known_of N (fun _ _ _ _ _ _ us hl => match us, hl with | [_], _ => rfl) fun f fd Fu => ?_
  refine Fu.okE sc_insist (fun vs H Q E h => ?_) ?_
  · obtain ⟨v, rfl, _⟩ := h
    rfl
  · rintro X outer cdv A s H vs Q E hr h rfl L
    obtain ⟨b, rfl, r1, r2⟩ := h
    refine ⟨_, (pss_one (ps_if (pt_not (pt_val (pv 0)))
      (pss_one (ps_raise L rfl EX rfl (pa_cons pe_str pa_nil)))
      pss_nil)), ?_⟩
    refine ⟨_, rfl, ?_⟩
    cases b with
    | false =>
      refine ⟨_, rfl, ?_⟩
      exact iteT ⟨(by show 1 ≤ sizeLine; decide), r1 rfl H⟩
    | true =>
      refine ⟨_, rfl, ?_⟩
      exact iteF (r2 rfl)
abbrev st_digits : Stmt := top 3
theorem sc_digits : FnScope ["number", "size"] ["number", "size"] (defScope st_digits) := ⟨rfl, rfl, rfl, by decide +kernel, rfl, by decide +kernel, by decide +kernel⟩
theorem kn_digits (N : TopFn K mg "digits" st_digits) (B : Bt mg) : Known P w K mg base CX0 1 "digits" ["number", "size"] spDigits := by
  refine known_of N (fun _ _ _ _ _ _ us hl => match us, hl with | [_, _], _ => rfl) fun f fd Fu => ?_
  refine Fu.ok sc_digits (fun vs H Q E h => ?_) (fun cdv A outer s H vs Q E hr h => ?_)
  · obtain ⟨n, k, rfl, _⟩ := h
    rfl
  · obtain ⟨n, k, rfl, hn, hk, ret⟩ := h
    refine ⟨_, (pss_one (ps_ret (pe_m1 PySem.F.slot_str_zfill PySem.F.type_str_zfill mt_zfill (pe_callTy call_str_int (by rfl) B.str bt_str (pa_cons (pv 0) pa_nil)) (pv 1)))), ?_⟩
    refine ⟨_, rfl, _, rfl, ?_, ⟨_, rfl⟩, _, rfl, _, _, rfl, rfl, pad9 k (by omega), ret⟩
    show n.log2 < 1920
    by_cases h0 : n = 0
    · subst h0; decide
    · exact (Nat.log2_lt h0).mpr (Nat.lt_of_lt_of_le hn (Nat.le_of_ble_eq_true rfl))
abbrev st_fg___init__ : Stmt := inClass (top 4) 0
theorem sc_fg___init__ : FnScope ["self", "numbers"] ["self", "numbers"] (defScope st_fg___init__) := ⟨rfl, rfl, rfl, by decide +kernel, rfl, by decide +kernel, by decide +kernel⟩
theorem ok_init {f : Addr} {fd : FuncData} (Fu : Fun K "__init__" "Figures.__init__" st_fg___init__ f fd) (CU : FigOk K mg C) : FnOk P w K mg base CX0 1 f fd ["self", "numbers"] (spFgInit K C) := by
  refine Fu.ok sc_fg___init__ (fun vs H Q E h => ?_) (fun cdv A outer s H vs Q E hr h => ?_)
  · obtain ⟨p, dx, nl, ns, rfl, _⟩ := h
    rfl
  · obtain ⟨p, dx, nl, ns, rfl, hp, hw, ret⟩ := h
    refine ⟨_, (pss_cons (ps_fld (pv 0) (pv 1) rfl)
      (pss_one (ps_fld (pv 0) pe_int rfl))), ?_⟩
    refine ⟨_, rfl, _, rfl, p, C, dx, _, rfl, hp, CU.cl, CU.nN, (by show 0 < 1000; decide), ?_⟩
    refine ⟨_, rfl, p, C, dx, _, rfl, upd_same, CU.cl, CU.nP, (by have := length_putF "numbers" (.ref nl) []; simp at this; omega), ?_⟩
    have b : But p H (upd (upd H p (.ins C dx (putF "numbers" (.ref nl) []))) p (.ins C dx (putF "place" (.int 0) (putF "numbers" (.ref nl) [])))) := fun b o e hb => by rw [upd_ne hb, upd_ne hb]; exact e
    exact ret _ b ⟨⟨dx, 0, upd_same, rfl⟩, sq_but hw b hp⟩
abbrev st_fg_at_end : Stmt := inClass (top 4) 1
theorem sc_fg_at_end : FnScope ["self"] ["self"] (defScope st_fg_at_end) := ⟨rfl, rfl, rfl, by decide +kernel, rfl, by decide +kernel, by decide +kernel⟩
theorem kn_at_end (N : TopM K C "at_end" "Figures.at_end" st_fg_at_end) (CU : FigOk K mg C) (B : Bt mg) : KnM P w K mg base CX0 1 C "at_end" ["self"] (spFgEnd K C) := by
  refine knM_of N (fun _ _ _ _ _ _ us hl => match us, hl with | [_], _ => rfl) fun f fd Fu => ?_
  refine Fu.ok sc_fg_at_end (fun vs H Q E h => ?_) (fun cdv A outer s H vs Q E hr h => ?_)
  · obtain ⟨nl, ns, p, l, rfl, _⟩ := h
    rfl
  · obtain ⟨nl, ns, p, l, rfl, ⟨⟨dx, k, h1, h3⟩, h2⟩, ret⟩ := h
    refine ⟨_, (pss_one (ps_ret (pe_cmpR op_ge (pe_fld (pv 0) rfl) (pe_callB call_len_seq (by rfl) B.len PySem.boot_len (pa_cons (pe_fld (pv 0) rfl) pa_nil)) (nomark _)))), ?_⟩
    refine ⟨_, rfl, p, C, dx, _, _, rfl, h1, CU.cl, CU.nP, fgF_place _ _, _, rfl, p, C, dx, _, _, rfl, h1, CU.cl, CU.nN, fgF_numbers _ _, nl, _, rfl, .inl h2, _, _, rfl, rfl, ?_⟩
    show Q (.bl (decide (((ns.map V.int).length : Int) ≤ (k : Int)))) H
    have : decide (((ns.map V.int).length : Int) ≤ (k : Int)) = l.isEmpty := by
      rw [List.length_map, h3, Bool.eq_iff_iff]
      simp
    rw [this]
    exact ret
abbrev st_fg_take : Stmt := inClass (top 4) 2
theorem sc_fg_take : FnScope ["self", "lowest", "highest", "number"] ["self", "lowest", "highest"] (defScope st_fg_take) := ⟨rfl, rfl, rfl, by decide +kernel, rfl, by decide +kernel, by decide +kernel⟩
theorem kn_take (N : TopM K C "take" "Figures.take" st_fg_take) (CU : FigOk K mg C) (M : KnM P w K mg base CX0 1 C "at_end" ["self"] (spFgEnd K C)) (kn_insist : Known P w K mg base (CXe P w XC) 1 "insist" ["holds"] (spInsist XC)) : KnM P w K mg base (CXe P w XC) 2 C "take" ["self", "lowest", "highest"] (spTk K C XC) := by
  obtain ⟨fa, fda, me_at_end, bc_at_end, gc_at_end⟩ := M.ex
  refine knM_of N (fun _ _ _ _ _ _ us hl => match us, hl with | [_, _, _], _ => rfl) fun f fd Fu => ?_
  refine Fu.okE sc_fg_take (fun vs H Q E h => ?_) ?_
  · obtain ⟨nl, ns, p, l, lo, hi, rfl, _⟩ := h
    rfl
  · rintro X outer cdv A s H vs Q E hr h rfl L
    obtain ⟨nl, ns, p, l, lo, hi, rfl, fa, r1, r2⟩ := h
    obtain ⟨⟨dx, k, h1, h3⟩, h2⟩ := id fa
    refine ⟨_, (pss_cons (ps_expr (pe_kn kn_insist (hr.mono (by decide)) rfl (passes_on L) (pa_cons (pe_not (pe_meth0 (pv 0) CU.cl me_at_end gc_at_end (hr.mono (by decide)) bc_at_end .nil pass0)) pa_nil)))
      (pss_cons (ps_set (i := 3) sc_fg_take.nd rfl (by first | exact Or.inl rfl | exact Or.inr rfl) (pe_ix ix_list (pe_fld (pv 0) rfl) (pe_fld (pv 0) rfl) (fun _ _ => rfl)))
      (pss_cons (ps_expr (pe_kn kn_insist (hr.mono (by decide)) rfl (passes_on L) (pa_cons (pe_chain op_le op_le (pv 1) (pv 3) (pv 2)) pa_nil)))
      (pss_cons (ps_fldaug (pv 0) pe_int in_add)
      (pss_one (ps_ret (pv 3))))))), ?_⟩
    refine ⟨_, rfl, p, dx, _, rfl, h1, fgF_no _ _ (by decide +kernel) (by decide +kernel), nl, ns, p, l, rfl, fa, ?_⟩
    refine ⟨_, rfl, !l.isEmpty, rfl, fun e H' => ?_, fun e => ?_⟩
    · have : l = [] := by simpa using e
      exact r1 (by rw [this]; rfl) H'
    · match l, e, h3, fa, r1, r2 with
      | [], e, _, _, _, _ => cases e
      | z :: r, _, h3, fa, r1, r2 =>
      have hk : ns[k]? = some z := by rw [← List.head?_drop, ← h3]; rfl
      refine ⟨_, rfl, p, C, dx, _, _, rfl, h1, CU.cl, CU.nN, fgF_numbers _ _, _, rfl, p, C, dx, _, _, rfl, h1, CU.cl, CU.nP, fgF_place _ _, nl, _, _, _, rfl, rfl, h2, at_of (j := k) (v := .int z) rfl (by rw [List.getElem?_map, hk]; rfl), ?_⟩
      refine ⟨_, rfl, _, rfl, _, _, rfl, rfl, _, rfl, ?_⟩
      refine iteB (fun e1 => ?_) (fun e1 => ?_)
      · refine ⟨_, rfl, _, _, rfl, rfl, decide (z ≤ hi), rfl, fun e2 H' => r1 ?_ H', fun e2 => ?_⟩
        · rw [tk_cons, if_neg (fun q => absurd q.2 (of_decide_eq_false e2))]
        · refine ⟨_, rfl, p, C, dx, _, _, rfl, h1, CU.cl, CU.nP, fgF_place _ _, _, _, rfl, rfl, dx, _, h1, fgF_len _ _, ?_⟩
          have b : But p H (upd H p (.ins C dx (putF "place" (.int ((k : Int) + 1)) (fgF nl k)))) := fun b o e hb => by rw [upd_ne hb]; exact e
          refine ⟨_, rfl, r2 z r ?_ _ b ⟨⟨dx, k + 1, ?_, ?_⟩, sq_but h2 b h1⟩⟩
          · rw [tk_cons, if_pos ⟨of_decide_eq_true e1, of_decide_eq_true e2⟩]
          · rw [upd_same, fgF_put]; rfl
          · rw [← List.tail_drop, ← h3]; rfl
      · refine ⟨false, rfl, fun _ H' => r1 ?_ H', fun e => by cases e⟩
        rw [tk_cons, if_neg (fun q => absurd q.1 (of_decide_eq_false e1))]
abbrev st_fg_passes : Stmt := inClass (top 4) 3
theorem sc_fg_passes : FnScope ["self", "number"] ["self", "number"] (defScope st_fg_passes) := ⟨rfl, rfl, rfl, by decide +kernel, rfl, by decide +kernel, by decide +kernel⟩
theorem kn_passes (N : TopM K C "passes" "Figures.passes" st_fg_passes) (CU : FigOk K mg C) (M : KnM P w K mg base CX0 1 C "at_end" ["self"] (spFgEnd K C)) : KnM P w K mg base CX0 2 C "passes" ["self", "number"] (spPasses K C) := by
  obtain ⟨fa, fda, me_at_end, bc_at_end, gc_at_end⟩ := M.ex
  refine knM_of N (fun _ _ _ _ _ _ us hl => match us, hl with | [_, _], _ => rfl) fun f fd Fu => ?_
  refine Fu.ok sc_fg_passes (fun vs H Q E h => ?_) (fun cdv A outer s H vs Q E hr h => ?_)
  · obtain ⟨nl, ns, p, l, z, rfl, _⟩ := h
    rfl
  · obtain ⟨nl, ns, p, l, z, rfl, fa, r1, r2⟩ := h
    obtain ⟨⟨dx, k, h1, h3⟩, h2⟩ := id fa
    refine ⟨_, (pss_cons (ps_if (PW.pt (pw_or (pt_val (pe_meth0 (pv 0) CU.cl me_at_end gc_at_end (hr.mono (by decide)) bc_at_end .nil pass0)) (pw_or1 (pt_cmpR op_ne (pe_ix ix_list (pe_fld (pv 0) rfl) (pe_fld (pv 0) rfl) (fun _ _ => rfl)) (pv 1) (nomark _)))))
      (pss_one (ps_ret pe_bl))
      pss_nil)
      (pss_cons (ps_fldaug (pv 0) pe_int in_add)
      (pss_one (ps_ret pe_bl)))), ?_⟩
    refine ⟨_, rfl, p, dx, _, rfl, h1, fgF_no _ _ (by decide +kernel) (by decide +kernel), nl, ns, p, l, rfl, fa, _, rfl, ?_⟩
    refine iteB (fun e => ?_) (fun e => ?_)
    · have : l = [] := by simpa using e
      exact r2 (by rw [this]; intro q; cases q)
    · match l, e, h3, fa, r1, r2 with
      | [], e, _, _, _, _ => cases e
      | y :: r, _, h3, fa, r1, r2 =>
      have hk : ns[k]? = some y := by rw [← List.head?_drop, ← h3]; rfl
      refine ⟨_, rfl, p, C, dx, _, _, rfl, h1, CU.cl, CU.nN, fgF_numbers _ _, _, rfl, p, C, dx, _, _, rfl, h1, CU.cl, CU.nP, fgF_place _ _, nl, _, _, _, rfl, rfl, h2, at_of (j := k) (v := .int y) rfl (by rw [List.getElem?_map, hk]; rfl), ?_⟩
      refine ⟨_, rfl, rfl, _, rfl, ?_⟩
      rw [dec_intV]
      refine iteB (fun e1 => ?_) (fun e1 => ?_)
      · exact r2 (by have := of_decide_eq_false (nt e1); intro q; simp at q; exact this q)
      · have ey : y = z := of_decide_eq_true (nf e1)
        refine ⟨_, rfl, p, C, dx, _, _, rfl, h1, CU.cl, CU.nP, fgF_place _ _, _, _, rfl, rfl, dx, _, h1, fgF_len _ _, ?_⟩
        have b : But p H (upd H p (.ins C dx (putF "place" (.int ((k : Int) + 1)) (fgF nl k)))) := fun b o e hb => by rw [upd_ne hb]; exact e
        refine r1 (by rw [ey]; rfl) _ b ⟨⟨dx, k + 1, ?_, ?_⟩, sq_but h2 b h1⟩
        · rw [upd_same, fgF_put]; rfl
        · rw [← List.tail_drop, ← h3]
end
end My
end
section
set_option Elab.async false
set_option linter.all false
set_option maxRecDepth 100000
set_option maxHeartbeats 4000000
namespace My
open PySem PySem.Spec PyProof.Rows L2 TL
open Kwc (From)
theorem S_app (a b : T) : S a ++ S b = S (a ++ b) := ext_tl (by rw [tl_append])
theorem dgs {n k : Nat} {H : Hp} {Q : VK} {E : XK} (hn : n < 100000) (hk : k ≤ 9) (z : (Txt.zfill (Str.ofString (toString (n : Int))) (k : Int)).cps.toList = Kwc.digits k n) (q : Q (strV (Kwc.digits k n)) H) : spDigits [.int n, .int k] H Q E := by
  refine ⟨n, k, rfl, hn, hk, ?_⟩
  have : Txt.zfill (Str.ofString (toString (n : Int))) (k : Int) = S (Kwc.digits k n) := ext_tl (by show _ = Kwc.digits k n; exact z)
  rw [this]
  exact q
theorem dg2 {n : Nat} {H : Hp} {Q : VK} {E : XK} (hn : n < 100) (q : Q (strV (Kwc.digits 2 n)) H) : spDigits [.int n, .int 2] H Q E := dgs (k := 2) (by omega) (by decide) (z2 n hn) q
theorem dg3 {n : Nat} {H : Hp} {Q : VK} {E : XK} (hn : n < 1000) (q : Q (strV (Kwc.digits 3 n)) H) : spDigits [.int n, .int 3] H Q E := dgs (k := 3) (by omega) (by decide) (z3 n hn) q
def rCatS : R2 := fun x y H Q => ∃ i j, x = .str i ∧ y = .str j ∧ i.length + j.length ≤ sizeLine ∧ Q (.str (i ++ j)) H
theorem op_addS {X : Cx} : OpR X (binaryOp .Add) rCatS := op_add_str
theorem catS {a b : T} {H : Hp} {Q : VK} (h : a.length + b.length ≤ 500) (q : Q (strV (a ++ b)) H) : rCatS (strV a) (strV b) H Q :=
  ⟨S a, S b, rfl, rfl, by rw [S_len, S_len]; exact small500 h, by rw [S_app]; exact q⟩
theorem catSL {a : T} {s : String} {H : Hp} {Q : VK} (h : a.length + (Kwc.text s).length ≤ 500) (q : Q (strV (a ++ Kwc.text s)) H) : rCatS (strV a) (.str (Str.ofString s)) H Q := by rw [ofS s]; exact catS h q
theorem catLS {b : T} {s : String} {H : Hp} {Q : VK} (h : (Kwc.text s).length + b.length ≤ 500) (q : Q (strV (Kwc.text s ++ b)) H) : rCatS (.str (Str.ofString s)) (strV b) H Q := by rw [ofS s]; exact catS h q
section
variable {P : Program} {w : World} {K : PySem.W.Frag} {mg : Str → Option Value} {base : Heap} {C XC nl : Addr} {ns : List Int}
theorem tkn {H : Hp} {p : Addr} {l : List Int} {lo hi : Nat} {Q : VK} {E : XK} (fa : FigAt K C nl ns H p l) (kn : tkN lo hi l = none → ∀ H', E (.ref XC) none H')
    (ks : ∀ n r, tkN lo hi l = some (n, r) → lo ≤ n → n ≤ hi → ∀ H', But p H H' → FigAt K C nl ns H' p r → Q (.int (n : Int)) H') : spTk K C XC [.ref p, .int lo, .int hi] H Q E := by
  refine ⟨nl, ns, p, l, lo, hi, rfl, fa, fun e => kn ?_, fun z r e H' b f => ?_⟩
  · rw [tk_nat] at e
    cases q : tkN lo hi l with
    | none => rfl
    | some x => rw [q] at e; cases e
  · have hb := (tk_some e).2
    rw [tk_nat] at e
    cases q : tkN lo hi l with
    | none => rw [q] at e; cases e
    | some x =>
      obtain ⟨n, r'⟩ := x
      rw [q] at e
      cases e
      exact ks n _ q (by omega) (by omega) H' b f
theorem fin_new {H H3 : Hp} {p : Addr} {r : List Int} {ws : List V} {Q : VK} (b : But p H H3) (f3 : FigAt K C nl ns H3 p r)
    (k : ∀ H' q, But p H H' → FigAt K C nl ns H' p r → H q = none → H' q = some (.lst ws) → Q (.ref q) H') : ∀ q, H3 q = none → Q (.ref q) (upd H3 q (.lst ws)) := fun q hq =>
  have h0 := b.free hq (f3.new hq)
  k _ q (b.put' h0) (f3.put f3 hq) h0 upd_same
theorem lc_times {A : Type} {f : From A} {val : A → V} {n j : Nat} {ta : TA} {te : TE} {σ : L2.St} {H1 : Hp} {p : Addr} {l : List Int} {Q : VK} {XX : Prop} (fa : FigAt K C nl ns H1 p l) (hn : n < 1000)
    (ht : ∀ R : List V → Hp → Prop, R [.int (n : Int)] H1 → ta σ H1 R) (hX : Kwc.times f n l = none → XX)
    (elem : ∀ (i : Nat) (H' : Hp) (rest : List Int) (k : VK), But p H1 H' → FigAt K C nl ns H' p rest → (f rest = none → XX) → (∀ x r, f rest = some (x, r) → ∀ H4, But p H' H4 → FigAt K C nl ns H4 p r → k (val x) H4) → te ((wipe σ [j]).set j (some (.int (0 + (i : Nat))))) H' k)
    (fin : ∀ xs r, Kwc.times f n l = some (xs, r) → ∀ H' D, But p H1 H' → FigAt K C nl ns H' p r → H1 D = none → H' D = some (.lst (xs.map val)) → Q (.ref D) H') : tLc (iRng1 ta) (gName j) tYes te [j] σ H1 Q := by
  refine ht _ ⟨n, rfl, by omega, by omega, fun D hD => ?_⟩
  have st : ∀ i, Kwc.times f (i + 1) l = (Kwc.times f i l).bind fun x => (f x.2).map fun y => (x.1 ++ [y.1], y.2) := fun i => by
    rw [times_add f 1 i l]
    cases Kwc.times f i l with
    | none => rfl
    | some x => simp only [Option.bind_some]; rw [times1]; cases f x.2 <;> rfl
  have nn : ∀ i, i ≤ n → Kwc.times f i l = none → XX := fun i hi e => hX (by
    rw [show n = i + (n - i) from by omega, times_add, e]; rfl)
  refine ⟨fun i m H => ∃ xs rest, i ≤ n ∧ m = n - i ∧ Kwc.times f i l = some (xs, rest) ∧ But p H1 H ∧ FigAt K C nl ns H p rest ∧ H D = some (.lst (xs.map val)),
    ⟨n, [], l, Nat.zero_le _, rfl, rfl, (But.of (Same.refl _)).put' hD, fa.put fa hD, upd_same⟩, fun i m H ⟨xs, rest, hi, hm, et, b, fr, hd⟩ => ?_⟩
  by_cases he : i = n
  · left
    subst he
    exact ⟨Nat.le_refl _, fin xs rest et H D b fr hD hd⟩
  · right
    have hlt : i < n := by omega
    refine ⟨hlt, fun H' => ∃ xs rest, Kwc.times f (i + 1) l = some (xs, rest) ∧ But p H1 H' ∧ FigAt K C nl ns H' p rest ∧ H' D = some (.lst (xs.map val)), fun H' ⟨xs', rest', q1, q2, q3, q4⟩ => ⟨n - (i + 1), by omega, xs', rest', by omega, rfl, q1, q2, q3, q4⟩, fun x H' hx => ?_⟩
    obtain ⟨rfl, rfl⟩ := hx
    refine ⟨wipe1 σ j _, ?_⟩
    refine elem i H' rest _ b fr (fun e => nn (i + 1) hlt (by rw [st, et]; simp [e])) fun x r ex H4 b4 f4 => ?_
    have hl := times_len f i l xs rest et
    have hDp : D ≠ p := fa.new hD
    refine ⟨xs.map val, b4 _ _ hd hDp, by rw [List.length_map, hl]; exact Nat.lt_of_lt_of_le hlt (Nat.le_trans (Nat.le_of_lt hn) (by decide)), xs ++ [x], r, ?_, (b.trans b4).put' hD, f4.put fa hD, ?_⟩
    · rw [st, et]; simp [ex]
    · rw [upd_same, List.map_append]; rfl
end
end My
end
section
set_option Elab.async false
set_option linter.all false
set_option maxRecDepth 100000
set_option maxHeartbeats 4000000
namespace My
open PySem PySem.Spec PyProof.Rows L2 TL
open Kwc (From)
def lettersT : T := Kwc.text "ABCDEFGHIJKLMNOPQRSTUVWXYZ"
theorem letters_at : ∀ c : Nat, c < 91 → 65 ≤ c → lettersT[c - 65]? = some c := by decide
theorem joinL_nil : ∀ ps : List (List Nat), TL.joinL [] ps = ps.flatten
  | [] => rfl
  | [p] => by simp [TL.joinL]
  | p :: q :: r => by rw [TL.joinL, joinL_nil (q :: r)]; simp
theorem join_nil (ts : List T) : Txt.join (Str.ofString "") (ts.map S) = S ts.flatten := by
  rw [TL.join_eq]
  refine TL.ext_tl ?_
  rw [TL.tl_join, ofS "", show Kwc.text "" = [] from rfl, TL.tl_mk, joinL_nil, TL.tl_mk, List.map_map]
  have : (TL.tl ∘ S) = (id : T → T) := rfl
  rw [this, List.map_id]
theorem sum_S : ∀ ts : List T, ((ts.map S).map (·.length)).sum = (ts.map List.length).sum
  | [] => rfl
  | b :: t => by rw [List.map_cons, List.map_cons, List.sum_cons, sum_S t, S_len]; rfl
def one1 (f : From T) : From (List T) := fun l => (f l).map fun x => ([x.1], x.2)
section
variable {P : Program} {w : World} {K : PySem.W.Frag} {mg : Str → Option Value} {base : Heap} {C XC nl : Addr} {ns : List Int} {σ : L2.St} {H : Hp} {p : Addr} {l : List Int} {Q : VK} {E : XK}
theorem tk_do {i : Nat} {ta tb : TE} {lo hi : Nat} (fa : FigAt K C nl ns H p l) (hσ : σ[i]? = some (some (.ref p))) (ha : ∀ R : VK, R (.int lo) H → ta σ H R) (hb : ∀ R : VK, R (.int hi) H → tb σ H R) (kn : tkN lo hi l = none → ∀ H', E (.ref XC) none H')
    (ks : ∀ n r, tkN lo hi l = some (n, r) → lo ≤ n → n ≤ hi → ∀ H', But p H H' → FigAt K C nl ns H' p r → Q (.int (n : Int)) H') : tMeth C "take" (spTk K C XC) [] E (tVar i) (tCons ta (tCons tb tNil)) σ H Q := by
  obtain ⟨dx, fs, ho, hno⟩ := fa.obj
  exact ⟨_, hσ, p, dx, fs, rfl, ho, hno _ (by decide +kernel) (by decide +kernel), ha _ (hb _ (tkn fa kn ks))⟩
theorem dg_do2 {ta : TE} {n : Nat} {E' : XK} (h : ∀ R : VK, R (.int (n : Int)) H → ta σ H R) (hn : n < 100) (q : Q (strV (Kwc.digits 2 n)) H) : tCall spDigits [] E' (tCons ta (tCons (tC (.int 2)) tNil)) σ H Q := h _ (dg2 (E := E') hn q)
theorem dg_do3 {ta : TE} {n : Nat} {E' : XK} (h : ∀ R : VK, R (.int (n : Int)) H → ta σ H R) (hn : n < 1000) (q : Q (strV (Kwc.digits 3 n)) H) : tCall spDigits [] E' (tCons ta (tCons (tC (.int 3)) tNil)) σ H Q := h _ (dg3 (E := E') hn q)
theorem dg_do4 {ta : TE} {n : Nat} {E' : XK} (h : ∀ R : VK, R (.int (n : Int)) H → ta σ H R) (hn : n < 10000) (z : (Txt.zfill (Str.ofString (toString (n : Int))) 4).cps.toList = Kwc.digits 4 n) (q : Q (strV (Kwc.digits 4 n)) H) : tCall spDigits [] E' (tCons ta (tCons (tC (.int 4)) tNil)) σ H Q := h _ (dgs (E := E') (k := 4) (by omega) (by decide) z q)
theorem tell_do {f : From (List T)} {i : Nat} (fa : FigAt K C nl ns H p l) (hσ : σ[i]? = some (some (.ref p))) (kn : f l = none → ∀ H', E (.ref XC) none H')
    (ks : ∀ ws r, f l = some (ws, r) → ∀ H' q, But p H H' → FigAt K C nl ns H' p r → H q = none → H' q = some (.lst (ws.map strV)) → Q (.ref q) H') : tCall (spTell K C XC f) [] E (tCons (tVar i) tNil) σ H Q :=
  ⟨_, hσ, nl, ns, p, l, rfl, fa, kn, ks⟩
theorem lst1 {ta : TE} {t : T} {H3 : Hp} {r : List Int} (h : ∀ R : VK, R (strV t) H3 → ta σ H3 R) (b : But p H H3) (f3 : FigAt K C nl ns H3 p r) (k : ∀ H' q, But p H H' → FigAt K C nl ns H' p r → H q = none → H' q = some (.lst ([t].map strV)) → Q (.ref q) H') : tLst (tCons ta tNil) σ H3 Q :=
  h _ ⟨(by show 1 ≤ sizeLine; decide), fin_new b f3 k⟩
end
theorem dlen (k n : Nat) : (Kwc.digits k n).length = k := digits_length k n
def spTellM (K : PySem.W.Frag) (C XC : Addr) : Sp := fun vs H Q E => ∃ nl ns p l mark, vs = [.ref p, strV mark] ∧ mark.length ≤ 100 ∧ FigAt K C nl ns H p l ∧ (tlClock mark l = none → ∀ H', E (.ref XC) none H') ∧
  (∀ ws r, tlClock mark l = some (ws, r) → ∀ H' q, But p H H' → FigAt K C nl ns H' p r → H q = none → H' q = some (.lst (ws.map strV)) → Q (.ref q) H')
def spDeg : Sp := fun vs H Q _ => ∃ z : Int, vs = [.int z] ∧ -60 ≤ z ∧ z ≤ 60 ∧ Q (strV (Kwc.degrees z)) H
section
variable {P : Program} {w : World} {K : PySem.W.Frag} {mg : Str → Option Value} {base : Heap} {C XC : Addr}
abbrev st_tell_station : Stmt := top 15
theorem sc_tell_station : FnScope ["figures", "first", "last", "turn"] ["figures"] (defScope st_tell_station) := ⟨rfl, rfl, rfl, by decide +kernel, rfl, by decide +kernel, by decide +kernel⟩
theorem kn_tstation (N : TopFn K mg "tell_station" st_tell_station) (CU : FigOk K mg C) (B : Bt mg) (g_LETTERS : GV mg "LETTERS" (strV lettersT)) (M : KnM P w K mg base (CXe P w XC) 2 C "take" ["self", "lowest", "highest"] (spTk K C XC)) : Known P w K mg base (CXe P w XC) 3 "tell_station" ["figures"] (spTell K C XC (one1 tlStation)) := by
  obtain ⟨ft, fdt, me_take, bc_take, gc_take⟩ := M.ex
  refine known_of N (fun _ _ _ _ _ _ us hl => match us, hl with | [_], _ => rfl) fun f fd Fu => ?_
  refine Fu.okE sc_tell_station (fun vs H Q E h => ?_) ?_
  · obtain ⟨nl, ns, p, l, rfl, _⟩ := h
    rfl
  · rintro X outer cdv A s H vs Q E hr h rfl L
    obtain ⟨nl, ns, p, l, rfl, fa, r1, r2⟩ := h
    refine ⟨_, (pss_cons (ps_set (i := 1) sc_tell_station.nd rfl (by first | exact Or.inl rfl | exact Or.inr rfl) (pe_callB call_ord (by rfl) B.ord bt_ord (pa_cons (pe_ix ix_str (pe_gv g_LETTERS (by rfl)) pe_int (fun _ _ => rfl)) pa_nil)))
      (pss_cons (ps_set (i := 2) sc_tell_station.nd rfl (by first | exact Or.inl rfl | exact Or.inr rfl) (pe_callB call_ord (by rfl) B.ord bt_ord (pa_cons (pe_ix ix_str (pe_gv g_LETTERS (by rfl)) (pe_un un_neg pe_int) (fun _ _ => rfl)) pa_nil)))
      (pss_one (ps_ret (pe_lst (pa_cons (pe_join pe_str (pe_lcE L rfl sc_tell_station.nd (pi_range1 (by rfl) B.range (pa_cons pe_int pa_nil)) (blkOk_by (own := [("turn", 3)]) (by kernel_rfl)) (fun _ _ _ _ _ _ => pg_name (i := 3) sc_tell_station.nd rfl (Or.inl rfl)) (fun _ _ _ _ _ _ => pts_nil) (fun _ _ _ _ _ _ hps => (pe_ix ix_str (pe_gv g_LETTERS (by rfl)) (pe_op op_sub (pe_meth (pv 0) CU.cl me_take gc_take (hr.mono (by decide)) bc_take .nil hps (pa_cons (pv 1) (pa_cons (pv 2) pa_nil))) (pv 1)) (fun _ _ => rfl))))) pa_nil)))))), ?_⟩
    refine ⟨S lettersT, _, 65, rfl, rfl, (by decide), rfl, _, rfl, rfl, ?_⟩
    refine ⟨_, rfl, S lettersT, _, 90, rfl, rfl, (by decide), rfl, _, rfl, rfl, ?_⟩
    refine ⟨⟨_, rfl⟩, ?_⟩
    refine lc_times (f := tkN 65 90) (val := fun n => strV [n]) (n := 4) (XX := ∀ H', E (.ref XC) none H') fa (by decide) (fun R h => h) (fun e => r1 (by unfold one1 tlStation; rw [e]; rfl)) (fun i H' rest k b fr no hk => ?_) (fun xs r e H' D b fr hD hd => ?_)
    · refine tk_do (lo := 65) (hi := 90) fr rfl (fun _ h => ⟨_, rfl, h⟩) (fun _ h => ⟨_, rfl, h⟩) no (fun c r e h1 h2 H4 b4 f4 => ?_)
      refine ⟨_, rfl, _, _, rfl, rfl, S lettersT, _, c, rfl, rfl, (by decide), ?_, hk c r e H4 b4 f4⟩
      exact at_of' (j := c - 65) (show ((c : Int) - 65) = ((c - 65 : Nat) : Int) by omega) (letters_at c (by omega) h1)
    · have ew : (xs.map fun n => strV [n]) = (xs.map fun b => S [b]).map V.str := by rw [List.map_map]; rfl
      refine ⟨_, D, xs.map fun b => S [b], rfl, rfl, .inl (SqL.of (by rw [hd, ew])), ?_, ?_⟩
      · have h4 := times_len _ _ _ _ _ e
        have : xs.map (fun b => S [b]) = (xs.map fun b => [b]).map S := by rw [List.map_map]; rfl
        rw [this, sum_S, ofS "", S_len, List.length_map, List.map_map]
        match xs, h4 with
        | [_, _, _, _], _ => exact (by show 4 ≤ sizeLine; decide)
      · have : xs.map (fun b => S [b]) = (xs.map fun b => [b]).map S := by rw [List.map_map]; rfl
        rw [this, join_nil]
        have ef : (xs.map fun b => [b]).flatten = xs := by
          clear e hd ew this
          induction xs with
          | nil => rfl
          | cons a t ih => rw [List.map_cons, List.flatten_cons, ih]; rfl
        rw [ef]
        refine ⟨(by show 1 ≤ sizeLine; decide), fin_new (ws := [strV xs]) b fr ?_⟩
        exact fun H'' q b' f' hq hq' => r2 [xs] r (by unfold one1 tlStation; rw [e]; rfl) H'' q b' f' hq hq'
abbrev st_tell_moment : Stmt := top 16
theorem sc_tell_moment : FnScope ["figures", "day", "hour", "minute"] ["figures"] (defScope st_tell_moment) := ⟨rfl, rfl, rfl, by decide +kernel, rfl, by decide +kernel, by decide +kernel⟩
theorem kn_tmoment (N : TopFn K mg "tell_moment" st_tell_moment) (CU : FigOk K mg C) (M : KnM P w K mg base (CXe P w XC) 2 C "take" ["self", "lowest", "highest"] (spTk K C XC)) (kn_digits : Known P w K mg base CX0 1 "digits" ["number", "size"] spDigits) : Known P w K mg base (CXe P w XC) 3 "tell_moment" ["figures"] (spTell K C XC (one1 tlMoment)) := by
  obtain ⟨ft, fdt, me_take, bc_take, gc_take⟩ := M.ex
  refine known_of N (fun _ _ _ _ _ _ us hl => match us, hl with | [_], _ => rfl) fun f fd Fu => ?_
  refine Fu.okE sc_tell_moment (fun vs H Q E h => ?_) ?_
  · obtain ⟨nl, ns, p, l, rfl, _⟩ := h
    rfl
  · rintro X outer cdv A s H vs Q E hr h rfl L
    obtain ⟨nl, ns, p, l, rfl, fa, r1, r2⟩ := h
    refine ⟨_, (pss_cons (ps_set (i := 1) sc_tell_moment.nd rfl (by first | exact Or.inl rfl | exact Or.inr rfl) (pe_meth (pv 0) CU.cl me_take gc_take (hr.mono (by decide)) bc_take .nil (passes_on L) (pa_cons pe_int (pa_cons pe_int pa_nil))))
      (pss_cons (ps_set (i := 2) sc_tell_moment.nd rfl (by first | exact Or.inl rfl | exact Or.inr rfl) (pe_meth (pv 0) CU.cl me_take gc_take (hr.mono (by decide)) bc_take .nil (passes_on L) (pa_cons pe_int (pa_cons pe_int pa_nil))))
      (pss_cons (ps_set (i := 3) sc_tell_moment.nd rfl (by first | exact Or.inl rfl | exact Or.inr rfl) (pe_meth (pv 0) CU.cl me_take gc_take (hr.mono (by decide)) bc_take .nil (passes_on L) (pa_cons pe_int (pa_cons pe_int pa_nil))))
      (pss_one (ps_ret (pe_lst (pa_cons (pe_op op_addS (pe_op op_addS (pe_op op_addS (pe_kn kn_digits (hr.mono (by decide)) rfl pass0 (pa_cons (pv 1) (pa_cons pe_int pa_nil))) (pe_kn kn_digits (hr.mono (by decide)) rfl pass0 (pa_cons (pv 2) (pa_cons pe_int pa_nil)))) (pe_kn kn_digits (hr.mono (by decide)) rfl pass0 (pa_cons (pv 3) (pa_cons pe_int pa_nil)))) pe_str) pa_nil))))))), ?_⟩
    unfold one1 tlMoment at r1 r2
    refine tk_do (lo := 1) (hi := 31) fa rfl (fun _ h => h) (fun _ h => h) (fun e => r1 (by rw [e]; rfl)) (fun d l1 e1 _ h1 H1 b1 f1 => ?_)
    rw [e1] at r1 r2
    simp only [Option.bind_some] at r1 r2
    refine tk_do (lo := 0) (hi := 23) f1 rfl (fun _ h => h) (fun _ h => h) (fun e => r1 (by rw [e]; rfl)) (fun hh l2 e2 _ h2 H2 b2 f2 => ?_)
    rw [e2] at r1 r2
    simp only [Option.bind_some] at r1 r2
    refine tk_do (lo := 0) (hi := 59) f2 rfl (fun _ h => h) (fun _ h => h) (fun e => r1 (by rw [e]; rfl)) (fun m l3 e3 _ h3 H3 b3 f3 => ?_)
    rw [e3] at r2
    simp only [Option.map_some] at r2
    dsimp only [gName, tRet]
    refine lst1 (t := momW d hh m) (fun R h => ?_) ((b1.trans b2).trans b3) f3 (r2 _ _ rfl)
    refine dg_do2 (n := d) (fun _ h => ⟨_, rfl, h⟩) (by omega) ?_
    refine dg_do2 (n := hh) (fun _ h => ⟨_, rfl, h⟩) (by omega) ?_
    refine catS ?_ ?_
    · rw [dlen, dlen]; decide
    refine dg_do2 (n := m) (fun _ h => ⟨_, rfl, h⟩) (by omega) ?_
    refine catS ?_ ?_
    · simp [dlen]
    refine catSL (s := "Z") ?_ h
    simp [dlen]; decide
end
end My
end
section
set_option Elab.async false
set_option linter.all false
set_option maxRecDepth 100000
set_option maxHeartbeats 4000000
namespace My
open PySem PySem.Spec PyProof.Rows L2 TL
open Kwc (From)
section
variable {P : Program} {w : World} {K : PySem.W.Frag} {mg : Str → Option Value} {base : Heap} {C XC : Addr}
abbrev st_tell_marked_minutes : Stmt := top 17
theorem sc_tell_marked_minutes : FnScope ["figures", "mark", "minutes"] ["figures", "mark"] (defScope st_tell_marked_minutes) := ⟨rfl, rfl, rfl, by decide +kernel, rfl, by decide +kernel, by decide +kernel⟩
theorem kn_tmarked (N : TopFn K mg "tell_marked_minutes" st_tell_marked_minutes) (CU : FigOk K mg C) (M : KnM P w K mg base (CXe P w XC) 2 C "take" ["self", "lowest", "highest"] (spTk K C XC)) (kn_digits : Known P w K mg base CX0 1 "digits" ["number", "size"] spDigits) : Known P w K mg base (CXe P w XC) 3 "tell_marked_minutes" ["figures", "mark"] (spTellM K C XC) := by
  obtain ⟨ft, fdt, me_take, bc_take, gc_take⟩ := M.ex
  refine known_of N (fun _ _ _ _ _ _ us hl => match us, hl with | [_, _], _ => rfl) fun f fd Fu => ?_
  refine Fu.okE sc_tell_marked_minutes (fun vs H Q E h => ?_) ?_
  · obtain ⟨nl, ns, p, l, mark, rfl, _⟩ := h
    rfl
  · rintro X outer cdv A s H vs Q E hr h rfl L
    obtain ⟨nl, ns, p, l, mark, rfl, hm, fa, r1, r2⟩ := h
    refine ⟨_, (pss_cons (ps_set (i := 2) sc_tell_marked_minutes.nd rfl (by first | exact Or.inl rfl | exact Or.inr rfl) (pe_meth (pv 0) CU.cl me_take gc_take (hr.mono (by decide)) bc_take .nil (passes_on L) (pa_cons pe_int (pa_cons (pe_op op_sub (pe_op op_mul pe_int pe_int) pe_int) pa_nil))))
      (pss_one (ps_ret (pe_lst (pa_cons (pe_op op_addS (pe_op op_addS (pv 1) (pe_kn kn_digits (hr.mono (by decide)) rfl pass0 (pa_cons (pe_op op_fdiv (pv 2) pe_int) (pa_cons pe_int pa_nil)))) (pe_kn kn_digits (hr.mono (by decide)) rfl pass0 (pa_cons (pe_op op_mod (pv 2) pe_int) (pa_cons pe_int pa_nil)))) pa_nil))))), ?_⟩
    unfold tlClock at r1 r2
    refine tk_do (lo := 0) (hi := 1439) fa rfl (fun _ h => h) (fun _ h => ⟨24, 60, rfl, rfl, .inr ⟨by decide, by decide⟩, _, _, rfl, rfl, h⟩) (fun e => r1 (by rw [e]; rfl)) (fun n l1 e1 _ h1 H1 b1 f1 => ?_)
    rw [e1] at r2
    simp only [Option.map_some] at r2
    dsimp only [gName, tRet]
    refine lst1 (t := mark ++ Kwc.clock n) (fun R h => ?_) b1 f1 (r2 _ _ rfl)
    refine ⟨_, rfl, ?_⟩
    have e60 : (n : Int) / 60 = ((n / 60 : Nat) : Int) := by omega
    have em : (n : Int) % 60 = ((n % 60 : Nat) : Int) := by omega
    refine dg_do2 (n := n / 60) (fun _ h => ⟨_, rfl, _, _, rfl, rfl, ⟨by decide, by decide⟩, by rw [← e60] at h; exact h⟩) (by omega) ?_
    refine catS ?_ ?_
    · rw [dlen]; omega
    refine dg_do2 (n := n % 60) (fun _ h => ⟨_, rfl, _, _, rfl, rfl, (by show (0 : Int) < 60; decide), by rw [← em] at h; exact h⟩) (by omega) ?_
    refine catS ?_ ?_
    · simp [dlen]; omega
    rw [List.append_assoc]
    exact h
abbrev st_tell_from : Stmt := top 18
theorem sc_tell_from : FnScope ["figures"] ["figures"] (defScope st_tell_from) := ⟨rfl, rfl, rfl, by decide +kernel, rfl, by decide +kernel, by decide +kernel⟩
theorem kn_tfrom (N : TopFn K mg "tell_from" st_tell_from) (g_FROM : GV mg "FROM" (.str (Str.ofString "FM"))) (kn_tell_marked_minutes : Known P w K mg base (CXe P w XC) 3 "tell_marked_minutes" ["figures", "mark"] (spTellM K C XC)) : Known P w K mg base (CXe P w XC) 4 "tell_from" ["figures"] (spTell K C XC (tlClock (Kwc.text "FM"))) := by
  refine known_of N (fun _ _ _ _ _ _ us hl => match us, hl with | [_], _ => rfl) fun f fd Fu => ?_
  refine Fu.okE sc_tell_from (fun vs H Q E h => ?_) ?_
  · obtain ⟨nl, ns, p, l, rfl, _⟩ := h
    rfl
  · rintro X outer cdv A s H vs Q E hr h rfl L
    obtain ⟨nl, ns, p, l, rfl, fa, r1, r2⟩ := h
    refine ⟨_, (pss_one (ps_ret (pe_kn kn_tell_marked_minutes (hr.mono (by decide)) rfl (passes_on L) (pa_cons (pv 0) (pa_cons (pe_gv g_FROM (by rfl)) pa_nil))))), ?_⟩
    exact ⟨_, rfl, nl, ns, p, l, Kwc.text "FM", by rw [ofS "FM"]; rfl, by decide, fa, r1, r2⟩
abbrev st_tell_till : Stmt := top 19
theorem sc_tell_till : FnScope ["figures"] ["figures"] (defScope st_tell_till) := ⟨rfl, rfl, rfl, by decide +kernel, rfl, by decide +kernel, by decide +kernel⟩
theorem kn_ttill (N : TopFn K mg "tell_till" st_tell_till) (g_TILL : GV mg "TILL" (.str (Str.ofString "TL"))) (kn_tell_marked_minutes : Known P w K mg base (CXe P w XC) 3 "tell_marked_minutes" ["figures", "mark"] (spTellM K C XC)) : Known P w K mg base (CXe P w XC) 4 "tell_till" ["figures"] (spTell K C XC (tlClock (Kwc.text "TL"))) := by
  refine known_of N (fun _ _ _ _ _ _ us hl => match us, hl with | [_], _ => rfl) fun f fd Fu => ?_
  refine Fu.okE sc_tell_till (fun vs H Q E h => ?_) ?_
  · obtain ⟨nl, ns, p, l, rfl, _⟩ := h
    rfl
  · rintro X outer cdv A s H vs Q E hr h rfl L
    obtain ⟨nl, ns, p, l, rfl, fa, r1, r2⟩ := h
    refine ⟨_, (pss_one (ps_ret (pe_kn kn_tell_marked_minutes (hr.mono (by decide)) rfl (passes_on L) (pa_cons (pv 0) (pa_cons (pe_gv g_TILL (by rfl)) pa_nil))))), ?_⟩
    exact ⟨_, rfl, nl, ns, p, l, Kwc.text "TL", by rw [ofS "TL"]; rfl, by decide, fa, r1, r2⟩
abbrev st_tell_sight : Stmt := top 20
theorem sc_tell_sight : FnScope ["figures", "metres"] ["figures"] (defScope st_tell_sight) := ⟨rfl, rfl, rfl, by decide +kernel, rfl, by decide +kernel, by decide +kernel⟩
theorem kn_tsight (N : TopFn K mg "tell_sight" st_tell_sight) (CU : FigOk K mg C) (g_CAVOK : GV mg "CAVOK" (.int 10000)) (g_CAVOK_WORD : GV mg "CAVOK_WORD" (.str (Str.ofString "CAVOK"))) (M : KnM P w K mg base (CXe P w XC) 2 C "take" ["self", "lowest", "highest"] (spTk K C XC)) (kn_insist : Known P w K mg base (CXe P w XC) 1 "insist" ["holds"] (spInsist XC)) (kn_metres_fit : Known P w K mg base CX0 1 "metres_fit" ["metres"] spMF) (kn_digits : Known P w K mg base CX0 1 "digits" ["number", "size"] spDigits) : Known P w K mg base (CXe P w XC) 3 "tell_sight" ["figures"] (spTell K C XC tlSightL) := by
  obtain ⟨ft, fdt, me_take, bc_take, gc_take⟩ := M.ex
  refine known_of N (fun _ _ _ _ _ _ us hl => match us, hl with | [_], _ => rfl) fun f fd Fu => ?_
  refine Fu.okE sc_tell_sight (fun vs H Q E h => ?_) ?_
  · obtain ⟨nl, ns, p, l, rfl, _⟩ := h
    rfl
  · rintro X outer cdv A s H vs Q E hr h rfl L
    obtain ⟨nl, ns, p, l, rfl, fa, r1, r2⟩ := h
    refine ⟨_, (pss_cons (ps_set (i := 1) sc_tell_sight.nd rfl (by first | exact Or.inl rfl | exact Or.inr rfl) (pe_meth (pv 0) CU.cl me_take gc_take (hr.mono (by decide)) bc_take .nil (passes_on L) (pa_cons pe_int (pa_cons (pe_gv g_CAVOK (by rfl)) pa_nil))))
      (pss_cons (ps_if (pt_cmpR op_eq (pv 1) (pe_gv g_CAVOK (by rfl)) (nomark _))
      (pss_one (ps_ret (pe_lst (pa_cons (pe_gv g_CAVOK_WORD (by rfl)) pa_nil))))
      pss_nil)
      (pss_cons (ps_expr (pe_kn kn_insist (hr.mono (by decide)) rfl (passes_on L) (pa_cons (pe_kn kn_metres_fit (hr.mono (by decide)) rfl pass0 (pa_cons (pv 1) pa_nil)) pa_nil)))
      (pss_one (ps_ret (pe_lst (pa_cons (pe_kn kn_digits (hr.mono (by decide)) rfl pass0 (pa_cons (pv 1) (pa_cons pe_int pa_nil))) pa_nil))))))), ?_⟩
    unfold tlSightL tlSight at r1 r2
    refine tk_do (lo := 0) (hi := 10000) fa rfl (fun _ h => h) (fun _ h => h) (fun e => r1 (by rw [e]; rfl)) (fun n l1 e1 _ h1 H1 b1 f1 => ?_)
    rw [e1] at r1 r2
    simp only [Option.bind_some] at r1 r2
    dsimp only [gName]
    refine ⟨_, rfl, rfl, _, rfl, ?_⟩
    rw [dec_intV]
    refine iteB (fun e => ?_) (fun e => ?_)
    · have hn : n = 10000 := by have := of_decide_eq_true e; omega
      rw [if_pos hn] at r2
      refine lst1 (t := Kwc.text "CAVOK") (fun R h => ?_) b1 f1 (r2 _ _ rfl)
      show R (.str (Str.ofString "CAVOK")) H1
      rw [ofS "CAVOK"]; exact h
    · have hn : ¬ n = 10000 := by have := of_decide_eq_false e; omega
      rw [if_neg hn] at r1 r2
      refine ⟨_, rfl, n, rfl, fun H2 s2 => ⟨metresFit n, rfl, fun e2 H' => r1 (by rw [e2]; rfl) H', fun e2 => ?_⟩⟩
      rw [if_pos e2] at r2
      obtain ⟨z1, z2⟩ := z4s n e2
      dsimp only [tRet]
      refine lst1 (t := Kwc.digits 4 n) (fun R h => ?_) (b1.trans (But.of s2)) (f1.same s2) (r2 _ _ rfl)
      exact dg_do4 (n := n) (fun _ h => ⟨_, rfl, h⟩) z1 z2 h
abbrev st_degree_text : Stmt := top 21
theorem sc_degree_text : FnScope ["degree"] ["degree"] (defScope st_degree_text) := ⟨rfl, rfl, rfl, by decide +kernel, rfl, by decide +kernel, by decide +kernel⟩
theorem kn_degtext (N : TopFn K mg "degree_text" st_degree_text) (kn_digits : Known P w K mg base CX0 1 "digits" ["number", "size"] spDigits) : Known P w K mg base CX0 2 "degree_text" ["degree"] spDeg := by
  refine known_of N (fun _ _ _ _ _ _ us hl => match us, hl with | [_], _ => rfl) fun f fd Fu => ?_
  refine Fu.ok sc_degree_text (fun vs H Q E h => ?_) (fun cdv A outer s H vs Q E hr h => ?_)
  · obtain ⟨z, rfl, _⟩ := h
    rfl
  · obtain ⟨z, rfl, h1, h2, ret⟩ := h
    refine ⟨_, (pss_one (ps_ret (pe_ifExp (pt_cmpR op_lt (pv 0) pe_int (nomark _)) (pe_op op_addS pe_str (pe_kn kn_digits (hr.mono (by decide)) rfl pass0 (pa_cons (pe_un un_neg (pv 0)) (pa_cons pe_int pa_nil)))) (pe_kn kn_digits (hr.mono (by decide)) rfl pass0 (pa_cons (pv 0) (pa_cons pe_int pa_nil)))))), ?_⟩
    unfold Kwc.degrees at ret
    refine ⟨_, rfl, _, _, rfl, rfl, _, rfl, ?_⟩
    refine iteB (fun e => ?_) (fun e => ?_)
    · have hz : z < 0 := of_decide_eq_true e
      rw [if_pos hz] at ret
      have ez : -z = (((-z).toNat : Nat) : Int) := by omega
      refine dg_do2 (n := (-z).toNat) (fun _ h => ⟨_, rfl, _, rfl, by rw [← ez] at h; exact h⟩) (by omega) ?_
      refine catLS (s := "M") ?_ ret
      rw [dlen]; decide
    · have hz : ¬ z < 0 := of_decide_eq_false e
      rw [if_neg hz] at ret
      have ez : z = ((z.toNat : Nat) : Int) := by omega
      exact dg_do2 (n := z.toNat) (fun _ h => ⟨_, rfl, by rw [← ez] at h; exact h⟩) (by omega) ret
theorem tz_do {nl : Addr} {ns : List Int} {σ : L2.St} {H : Hp} {p : Addr} {l : List Int} {Q : VK} {E : XK} {i : Nat} {ta tb : TE} {lo hi : Int} (fa : FigAt K C nl ns H p l) (hσ : σ[i]? = some (some (.ref p))) (ha : ∀ R : VK, R (.int lo) H → ta σ H R) (hb : ∀ R : VK, R (.int hi) H → tb σ H R) (kn : tk lo hi l = none → ∀ H', E (.ref XC) none H')
    (ks : ∀ n r, tk lo hi l = some (n, r) → lo ≤ n → n ≤ hi → ∀ H', But p H H' → FigAt K C nl ns H' p r → Q (.int n) H') : tMeth C "take" (spTk K C XC) [] E (tVar i) (tCons ta (tCons tb tNil)) σ H Q := by
  obtain ⟨dx, fs, ho, hno⟩ := fa.obj
  exact ⟨_, hσ, p, dx, fs, rfl, ho, hno _ (by decide +kernel) (by decide +kernel), ha _ (hb _ ⟨nl, ns, p, l, lo, hi, rfl, fa, kn, fun z r e H' b f => ks z r e (tk_some e).2.1 (tk_some e).2.2 H' b f⟩)⟩
abbrev st_tell_degrees : Stmt := top 22
theorem sc_tell_degrees : FnScope ["figures", "upper", "lower"] ["figures"] (defScope st_tell_degrees) := ⟨rfl, rfl, rfl, by decide +kernel, rfl, by decide +kernel, by decide +kernel⟩
theorem kn_tdegrees (N : TopFn K mg "tell_degrees" st_tell_degrees) (CU : FigOk K mg C) (g_MOST_DEGREES : GV mg "MOST_DEGREES" (.int 60)) (M : KnM P w K mg base (CXe P w XC) 2 C "take" ["self", "lowest", "highest"] (spTk K C XC)) (kn_degree_text : Known P w K mg base CX0 2 "degree_text" ["degree"] spDeg) : Known P w K mg base (CXe P w XC) 3 "tell_degrees" ["figures"] (spTell K C XC (one1 tlDegrees)) := by
  obtain ⟨ft, fdt, me_take, bc_take, gc_take⟩ := M.ex
  refine known_of N (fun _ _ _ _ _ _ us hl => match us, hl with | [_], _ => rfl) fun f fd Fu => ?_
  refine Fu.okE sc_tell_degrees (fun vs H Q E h => ?_) ?_
  · obtain ⟨nl, ns, p, l, rfl, _⟩ := h
    rfl
  · rintro X outer cdv A s H vs Q E hr h rfl L
    obtain ⟨nl, ns, p, l, rfl, fa, r1, r2⟩ := h
    refine ⟨_, (pss_cons (ps_set (i := 1) sc_tell_degrees.nd rfl (by first | exact Or.inl rfl | exact Or.inr rfl) (pe_meth (pv 0) CU.cl me_take gc_take (hr.mono (by decide)) bc_take .nil (passes_on L) (pa_cons (pe_un un_neg (pe_gv g_MOST_DEGREES (by rfl))) (pa_cons (pe_gv g_MOST_DEGREES (by rfl)) pa_nil))))
      (pss_cons (ps_set (i := 2) sc_tell_degrees.nd rfl (by first | exact Or.inl rfl | exact Or.inr rfl) (pe_meth (pv 0) CU.cl me_take gc_take (hr.mono (by decide)) bc_take .nil (passes_on L) (pa_cons (pe_un un_neg (pe_gv g_MOST_DEGREES (by rfl))) (pa_cons (pv 1) pa_nil))))
      (pss_one (ps_ret (pe_lst (pa_cons (pe_op op_addS (pe_op op_addS (pe_kn kn_degree_text (hr.mono (by decide)) rfl pass0 (pa_cons (pv 1) pa_nil)) pe_str) (pe_kn kn_degree_text (hr.mono (by decide)) rfl pass0 (pa_cons (pv 2) pa_nil))) pa_nil)))))), ?_⟩
    unfold one1 tlDegrees at r1 r2
    refine tz_do (lo := -60) (hi := 60) fa rfl (fun _ h => ⟨_, rfl, h⟩) (fun _ h => h) (fun e => r1 (by rw [e]; rfl)) (fun u l1 e1 h1 h2 H1 b1 f1 => ?_)
    rw [e1] at r1 r2
    simp only [Option.bind_some] at r1 r2
    refine tz_do (lo := -60) (hi := u) f1 rfl (fun _ h => ⟨_, rfl, h⟩) (fun _ h => ⟨_, rfl, h⟩) (fun e => r1 (by rw [e]; rfl)) (fun v l2 e2 h3 h4 H2 b2 f2 => ?_)
    rw [e2] at r2
    simp only [Option.map_some] at r2
    dsimp only [gName, tRet]
    refine lst1 (t := degPair u v) (fun R h => ?_) (b1.trans b2) f2 (r2 _ _ rfl)
    have dl : ∀ z : Int, (Kwc.degrees z).length ≤ 10 := fun z => by
      unfold Kwc.degrees
      split
      · rw [List.length_append, dlen]; decide
      · rw [dlen]; decide
    refine ⟨_, rfl, u, rfl, h1, h2, ?_⟩
    have := dl u
    have := dl v
    dsimp only [tC]
    refine catSL (s := "/") ?_ ?_
    · show _ + 1 ≤ 500; omega
    refine ⟨_, rfl, v, rfl, h3, by omega, ?_⟩
    refine catS ?_ h
    rw [List.length_append]; show _ + 1 + _ ≤ 500; omega
abbrev st_tell_pressure : Stmt := top 23
theorem sc_tell_pressure : FnScope ["figures"] ["figures"] (defScope st_tell_pressure) := ⟨rfl, rfl, rfl, by decide +kernel, rfl, by decide +kernel, by decide +kernel⟩
theorem kn_tpress (N : TopFn K mg "tell_pressure" st_tell_pressure) (CU : FigOk K mg C) (g_LEAST_PRESSURE : GV mg "LEAST_PRESSURE" (.int 850)) (g_MOST_PRESSURE : GV mg "MOST_PRESSURE" (.int 1100)) (M : KnM P w K mg base (CXe P w XC) 2 C "take" ["self", "lowest", "highest"] (spTk K C XC)) (kn_digits : Known P w K mg base CX0 1 "digits" ["number", "size"] spDigits) : Known P w K mg base (CXe P w XC) 3 "tell_pressure" ["figures"] (spTell K C XC (one1 tlPress)) := by
  obtain ⟨ft, fdt, me_take, bc_take, gc_take⟩ := M.ex
  refine known_of N (fun _ _ _ _ _ _ us hl => match us, hl with | [_], _ => rfl) fun f fd Fu => ?_
  refine Fu.okE sc_tell_pressure (fun vs H Q E h => ?_) ?_
  · obtain ⟨nl, ns, p, l, rfl, _⟩ := h
    rfl
  · rintro X outer cdv A s H vs Q E hr h rfl L
    obtain ⟨nl, ns, p, l, rfl, fa, r1, r2⟩ := h
    refine ⟨_, (pss_one (ps_ret (pe_lst (pa_cons (pe_op op_addS pe_str (pe_kn kn_digits (hr.mono (by decide)) rfl pass0 (pa_cons (pe_meth (pv 0) CU.cl me_take gc_take (hr.mono (by decide)) bc_take .nil (passes_on L) (pa_cons (pe_gv g_LEAST_PRESSURE (by rfl)) (pa_cons (pe_gv g_MOST_PRESSURE (by rfl)) pa_nil))) (pa_cons pe_int pa_nil)))) pa_nil)))), ?_⟩
    unfold one1 tlPress at r1 r2
    refine tk_do (lo := 850) (hi := 1100) fa rfl (fun _ h => h) (fun _ h => h) (fun e => r1 (by rw [e]; rfl)) (fun n l1 e1 h0 h1 H1 b1 f1 => ?_)
    rw [e1] at r2
    simp only [Option.map_some] at r2
    dsimp only [tCons, tNil, tC]
    refine dgs (k := 4) (by omega) (by decide) (z4p n h1 h0) ?_
    refine catLS (s := "Q") ?_ ?_
    · rw [dlen]; decide
    exact ⟨(by show 1 ≤ sizeLine; decide), fin_new (ws := [strV (prT n)]) b1 f1 (r2 [prT n] l1 rfl)⟩
end
end My
end
section
set_option Elab.async false
set_option linter.all false
set_option maxRecDepth 100000
set_option maxHeartbeats 4000000
namespace My
open PySem PySem.Spec PyProof.Rows L2 TL
open Kwc (From)
theorem dirFits_tens (n : Nat) : dirFits n = Kwc.tens n := by unfold dirFits Kwc.tens; rw [Bool.and_assoc]
def triV (d s g : Nat) : List V := [.int (d : Int), .int (s : Int), .int (g : Int)]
def spFitW (K : PySem.W.Frag) (C XC : Addr) : Sp := fun vs H Q E => ∃ nl ns p l, vs = [.ref p] ∧ FigAt K C nl ns H p l ∧ (fitWind l = none → ∀ H', E (.ref XC) none H') ∧
  (∀ d s g r, fitWind l = some ((d, s, g), r) → d ≤ 999 → s ≤ 99 → g ≤ 99 → ∀ H' q, But p H H' → FigAt K C nl ns H' p r → H q = none → H' q = some (.lst (triV d s g)) → Q (.ref q) H')
def spWT (K : PySem.W.Frag) : Sp := fun vs H Q _ => ∃ q d s g, vs = [.ref q] ∧ SqL K H q (triV d s g) ∧ d ≤ 999 ∧ s ≤ 99 ∧ g ≤ 99 ∧ Q (strV (wText (d, s, g))) H
def spSec (K : PySem.W.Frag) (C XC : Addr) : Sp := fun vs H Q E => ∃ nl ns p l q d s g, vs = [.ref p, .ref q] ∧ FigAt K C nl ns H p l ∧ H q = some (.lst (triV d s g)) ∧ (tlSector d s l = none → ∀ H', E (.ref XC) none H') ∧
  (∀ ws r, tlSector d s l = some (ws, r) → ∀ H' u, But p H H' → FigAt K C nl ns H' p r → H u = none → H' u = some (.lst (ws.map strV)) → Q (.ref u) H')
section
variable {K : PySem.W.Frag} {C XC nl : Addr} {ns : List Int} {σ : L2.St} {H : Hp} {p : Addr} {l : List Int} {Q : VK} {E : XK}
theorem ins_do' {tb : TE} {b : Bool} (h : ∀ R : VK, (∀ H2, Same H H2 → R (.bl b) H2) → tb σ H R) (kn : b = false → ∀ H', E (.ref XC) none H') (ks : b = true → ∀ H2, Same H H2 → Q .non H2) : tCall (spInsist XC) [] E (tCons tb tNil) σ H Q := h _ fun H2 s2 => ⟨b, rfl, kn, fun e => ks e H2 s2⟩
theorem if_do {tt : TT} {ta tb : TE} {c : Bool} {v : V} (hc : ∀ R : Bool → Hp → Prop, R c H → tt σ H R) (ha : c = true → ∀ R : VK, R v H → ta σ H R) (hb : c = false → ∀ R : VK, R v H → tb σ H R) (q : Q v H) : tIf tt ta tb σ H Q := by
  refine hc _ ?_
  cases c with
  | true => exact iteT (ha rfl _ q)
  | false => exact iteF (hb rfl _ q)
theorem ifs_do {tt : TT} {t1 t2 : TS} {D : Ends} {c : Bool} (hc : ∀ R : Bool → Hp → Prop, R c H → tt σ H R) (h1 : c = true → t1 { D with nx := t2 D } σ H) (h2 : c = false → t2 D σ H) : tSeq (tIfS tt t1 tNext) t2 D σ H := by
  refine hc _ ?_
  cases c with
  | true => exact iteT (h1 rfl)
  | false => exact iteF (h2 rfl)
theorem lst0 {H3 : Hp} {r : List Int} (b : But p H H3) (f3 : FigAt K C nl ns H3 p r) (k : ∀ H' q, But p H H' → FigAt K C nl ns H' p r → H q = none → H' q = some (.lst (([] : List T).map strV)) → Q (.ref q) H') : tLst tNil σ H3 Q :=
  ⟨(by show 0 ≤ sizeLine; decide), fin_new b f3 k⟩
end
section
variable {P : Program} {w : World} {K : PySem.W.Frag} {mg : Str → Option Value} {base : Heap} {C XC : Addr}
abbrev st_fitting_wind : Stmt := top 65
theorem sc_fitting_wind : FnScope ["figures", "degrees", "speed", "gusts"] ["figures"] (defScope st_fitting_wind) := ⟨rfl, rfl, rfl, by decide +kernel, rfl, by decide +kernel, by decide +kernel⟩
theorem kn_fitwind (N : TopFn K mg "fitting_wind" st_fitting_wind) (CU : FigOk K mg C) (g_VARIABLE : GV mg "VARIABLE" (.int 999)) (g_MOST_SPEED : GV mg "MOST_SPEED" (.int 99)) (M : KnM P w K mg base (CXe P w XC) 2 C "take" ["self", "lowest", "highest"] (spTk K C XC)) (kn_insist : Known P w K mg base (CXe P w XC) 1 "insist" ["holds"] (spInsist XC)) (kn_direction_fits : Known P w K mg base CX0 1 "direction_fits" ["degrees"] spDF) (kn_wind_fits : Known P w K mg base CX0 1 "wind_fits" ["degrees", "speed", "gusts"] spWF) : Known P w K mg base (CXe P w XC) 3 "fitting_wind" ["figures"] (spFitW K C XC) := by
  obtain ⟨ft, fdt, me_take, bc_take, gc_take⟩ := M.ex
  refine known_of N (fun _ _ _ _ _ _ us hl => match us, hl with | [_], _ => rfl) fun f fd Fu => ?_
  refine Fu.okE sc_fitting_wind (fun vs H Q E h => ?_) ?_
  · obtain ⟨nl, ns, p, l, rfl, _⟩ := h
    rfl
  · rintro X outer cdv A s H vs Q E hr h rfl L
    obtain ⟨nl, ns, p, l, rfl, fa, r1, r2⟩ := h
    refine ⟨_, (pss_cons (ps_set (i := 1) sc_fitting_wind.nd rfl (by first | exact Or.inl rfl | exact Or.inr rfl) (pe_meth (pv 0) CU.cl me_take gc_take (hr.mono (by decide)) bc_take .nil (passes_on L) (pa_cons pe_int (pa_cons (pe_gv g_VARIABLE (by rfl)) pa_nil))))
      (pss_cons (ps_expr (pe_kn kn_insist (hr.mono (by decide)) rfl (passes_on L) (pa_cons (pe_or (pe_cmpR op_eq (pv 1) pe_int (nomark _)) (pe_or (pe_cmpR op_eq (pv 1) (pe_gv g_VARIABLE (by rfl)) (nomark _)) (pe_one (pe_kn kn_direction_fits (hr.mono (by decide)) rfl pass0 (pa_cons (pv 1) pa_nil))))) pa_nil)))
      (pss_cons (ps_set (i := 2) sc_fitting_wind.nd rfl (by first | exact Or.inl rfl | exact Or.inr rfl) (pe_meth (pv 0) CU.cl me_take gc_take (hr.mono (by decide)) bc_take .nil (passes_on L) (pa_cons pe_int (pa_cons (pe_gv g_MOST_SPEED (by rfl)) pa_nil))))
      (pss_cons (ps_set (i := 3) sc_fitting_wind.nd rfl (by first | exact Or.inl rfl | exact Or.inr rfl) (pe_meth (pv 0) CU.cl me_take gc_take (hr.mono (by decide)) bc_take .nil (passes_on L) (pa_cons pe_int (pa_cons (pe_gv g_MOST_SPEED (by rfl)) pa_nil))))
      (pss_cons (ps_expr (pe_kn kn_insist (hr.mono (by decide)) rfl (passes_on L) (pa_cons (pe_kn kn_wind_fits (hr.mono (by decide)) rfl pass0 (pa_cons (pv 1) (pa_cons (pv 2) (pa_cons (pv 3) pa_nil)))) pa_nil)))
      (pss_one (ps_ret (pe_lst (pa_cons (pv 1) (pa_cons (pv 2) (pa_cons (pv 3) pa_nil))))))))))), ?_⟩
    unfold fitWind at r1 r2
    refine tk_do (lo := 0) (hi := 999) fa rfl (fun _ h => h) (fun _ h => h) (fun e => r1 (by rw [e]; rfl)) (fun d l1 e1 _ h1 H1 b1 f1 => ?_)
    rw [e1] at r1 r2
    simp only [Option.bind_some] at r1 r2
    dsimp only [gName, tSeq, tDrop]
    refine ins_do' (b := (d == 0 || d == 999 || Kwc.tens d)) (fun R hR => ?_) (fun e => r1 (by rw [e]; rfl)) (fun e H2 s2 => ?_)
    · refine ⟨_, rfl, rfl, _, rfl, ?_⟩
      rw [dec_intV]
      refine iteB (fun e => ?_) (fun e => ?_)
      · have hd : d = 0 := by have := of_decide_eq_true e; omega
        have hb : (d == 0 || d == 999 || Kwc.tens d) = true := by simp [hd]
        rw [hb] at hR
        exact hR _ (Same.refl _)
      · have hd : ¬ d = 0 := by have := of_decide_eq_false e; omega
        refine ⟨_, rfl, rfl, _, rfl, ?_⟩
        rw [dec_intV]
        refine iteB (fun e => ?_) (fun e => ?_)
        · have hd : d = 999 := by have := of_decide_eq_true e; omega
          have hb : (d == 0 || d == 999 || Kwc.tens d) = true := by simp [hd]
          rw [hb] at hR
          exact hR _ (Same.refl _)
        · have hd9 : ¬ d = 999 := by have := of_decide_eq_false e; omega
          have hb : (d == 0 || d == 999 || Kwc.tens d) = dirFits d := by rw [dirFits_tens]; simp [hd, hd9]
          rw [hb] at hR
          exact ⟨_, rfl, d, rfl, fun H2 s2 => hR H2 s2⟩
    · rw [if_pos e] at r1 r2
      have f2 := f1.same s2
      have b2 := b1.trans (But.of s2)
      refine tk_do (lo := 0) (hi := 99) f2 rfl (fun _ h => h) (fun _ h => h) (fun e => r1 (by rw [e]; rfl)) (fun sp l2 e2 _ h2 H3 b3 f3 => ?_)
      rw [e2] at r1 r2
      simp only [Option.bind_some] at r1 r2
      refine tk_do (lo := 0) (hi := 99) f3 rfl (fun _ h => h) (fun _ h => h) (fun e => r1 (by rw [e]; rfl)) (fun g l3 e3 _ h3 H4 b4 f4 => ?_)
      rw [e3] at r1 r2
      simp only [Option.bind_some] at r1 r2
      dsimp only [gName, tSeq, tDrop]
      refine ins_do' (b := windFits d sp g) (fun R hR => ⟨_, rfl, _, rfl, _, rfl, d, sp, g, rfl, fun H2 s2 => hR H2 s2⟩) (fun e => r1 (by rw [e]; rfl)) (fun e H5 s5 => ?_)
      rw [if_pos e] at r2
      refine ⟨_, rfl, _, rfl, _, rfl, (by show 3 ≤ sizeLine; decide), ?_⟩
      exact fin_new (ws := triV d sp g) (((b2.trans b3).trans b4).trans (But.of s5)) (f4.same s5) (r2 d sp g l3 rfl h1 h2 h3)
abbrev st_wind_text : Stmt := top 66
theorem sc_wind_text : FnScope ["wind", "degrees", "gusts"] ["wind"] (defScope st_wind_text) := ⟨rfl, rfl, rfl, by decide +kernel, rfl, by decide +kernel, by decide +kernel⟩
theorem kn_wtext (N : TopFn K mg "wind_text" st_wind_text) (g_VARIABLE : GV mg "VARIABLE" (.int 999)) (kn_digits : Known P w K mg base CX0 1 "digits" ["number", "size"] spDigits) : Known P w K mg base CX0 2 "wind_text" ["wind"] (spWT K) := by
  refine known_of N (fun _ _ _ _ _ _ us hl => match us, hl with | [_], _ => rfl) fun f fd Fu => ?_
  refine Fu.ok sc_wind_text (fun vs H Q E h => ?_) (fun cdv A outer s H vs Q E hr h => ?_)
  · obtain ⟨q, d, s, g, rfl, _⟩ := h
    rfl
  · obtain ⟨q, d, sp, g, rfl, sq, h1, h2, h3, ret⟩ := h
    refine ⟨_, (pss_cons (ps_set (i := 1) sc_wind_text.nd rfl (by first | exact Or.inl rfl | exact Or.inr rfl) (pe_ifExp (pt_cmpR op_eq (pe_ix ix_list (pv 0) pe_int (fun _ _ => rfl)) (pe_gv g_VARIABLE (by rfl)) (nomark _)) pe_str (pe_kn kn_digits (hr.mono (by decide)) rfl pass0 (pa_cons (pe_ix ix_list (pv 0) pe_int (fun _ _ => rfl)) (pa_cons pe_int pa_nil)))))
      (pss_cons (ps_set (i := 2) sc_wind_text.nd rfl (by first | exact Or.inl rfl | exact Or.inr rfl) (pe_ifExp (pt_cmpR op_eq (pe_ix ix_list (pv 0) pe_int (fun _ _ => rfl)) pe_int (nomark _)) pe_str (pe_op op_addS pe_str (pe_kn kn_digits (hr.mono (by decide)) rfl pass0 (pa_cons (pe_ix ix_list (pv 0) pe_int (fun _ _ => rfl)) (pa_cons pe_int pa_nil))))))
      (pss_one (ps_ret (pe_op op_addS (pe_op op_addS (pe_op op_addS (pv 1) (pe_kn kn_digits (hr.mono (by decide)) rfl pass0 (pa_cons (pe_ix ix_list (pv 0) pe_int (fun _ _ => rfl)) (pa_cons pe_int pa_nil)))) (pv 2)) pe_str))))), ?_⟩
    have ew : wText (d, sp, g) = (((if d = 999 then Kwc.text "VRB" else Kwc.digits 3 d) ++ Kwc.digits 2 sp) ++ (if g = 0 then [] else Kwc.text "G" ++ Kwc.digits 2 g)) ++ Kwc.text "KT" := rfl
    rw [ew] at ret
    dsimp only [tSeq, tAsg]
    refine if_do (c := decide (d = 999)) (v := strV (if d = 999 then Kwc.text "VRB" else Kwc.digits 3 d)) (fun R h => ?_) (fun e R h => ?_) (fun e R h => ?_) ?_
    · refine ⟨_, rfl, q, _, _, _, rfl, rfl, sq, at_of (j := 0) rfl rfl, rfl, _, rfl, ?_⟩
      rw [dec_intV]
      have : decide ((d : Int) = 999) = decide (d = 999) := by rw [Bool.eq_iff_iff]; simp; omega
      rw [this]; exact h
    · rw [if_pos (of_decide_eq_true e)] at h
      show R (.str (Str.ofString "VRB")) H
      rw [ofS "VRB"]; exact h
    · rw [if_neg (of_decide_eq_false e)] at h
      exact dg_do3 (n := d) (fun _ h => ⟨_, rfl, q, _, _, _, rfl, rfl, sq, at_of (j := 0) rfl rfl, h⟩) (by omega) h
    · dsimp only [gName]
      refine if_do (c := decide (g = 0)) (v := strV (if g = 0 then [] else Kwc.text "G" ++ Kwc.digits 2 g)) (fun R h => ?_) (fun e R h => ?_) (fun e R h => ?_) ?_
      · refine ⟨_, rfl, q, _, _, _, rfl, rfl, sq, at_of (j := 2) rfl rfl, rfl, _, rfl, ?_⟩
        rw [dec_intV]
        have : decide ((g : Int) = 0) = decide (g = 0) := by rw [Bool.eq_iff_iff]; simp
        rw [this]; exact h
      · rw [if_pos (of_decide_eq_true e)] at h
        show R (.str (Str.ofString "")) H
        rw [ofS ""]; exact h
      · rw [if_neg (of_decide_eq_false e)] at h
        refine dg_do2 (n := g) (fun _ h => ⟨_, rfl, q, _, _, _, rfl, rfl, sq, at_of (j := 2) rfl rfl, h⟩) (by omega) ?_
        refine catLS (s := "G") ?_ h
        rw [dlen]; decide
      · dsimp only [gName, tRet]
        have l1 : (if d = 999 then Kwc.text "VRB" else Kwc.digits 3 d).length = 3 := by
          split
          · rfl
          · rw [dlen]
        have l2 : (if g = 0 then [] else Kwc.text "G" ++ Kwc.digits 2 g).length ≤ 3 := by
          split
          · decide
          · rw [List.length_append, dlen]; decide
        refine ⟨_, rfl, ?_⟩
        refine dg_do2 (n := sp) (fun _ h => ⟨_, rfl, q, _, _, _, rfl, rfl, sq, at_of (j := 1) rfl rfl, h⟩) (by omega) ?_
        refine catS ?_ ?_
        · rw [l1, dlen]; decide
        refine ⟨_, rfl, ?_⟩
        refine catS ?_ ?_
        · rw [List.length_append, l1, dlen]; omega
        refine catSL (s := "KT") ?_ ret
        rw [List.length_append, List.length_append, l1, dlen]
        show 3 + 2 + _ + 2 ≤ 500
        omega
abbrev st_tell_wind : Stmt := top 67
theorem sc_tell_wind : FnScope ["figures"] ["figures"] (defScope st_tell_wind) := ⟨rfl, rfl, rfl, by decide +kernel, rfl, by decide +kernel, by decide +kernel⟩
theorem kn_twind (N : TopFn K mg "tell_wind" st_tell_wind) (kn_fitting_wind : Known P w K mg base (CXe P w XC) 3 "fitting_wind" ["figures"] (spFitW K C XC)) (kn_wind_text : Known P w K mg base CX0 2 "wind_text" ["wind"] (spWT K)) : Known P w K mg base (CXe P w XC) 4 "tell_wind" ["figures"] (spTell K C XC (fun l => (fitWind l).map fun w => ([wText w.1], w.2))) := by
  refine known_of N (fun _ _ _ _ _ _ us hl => match us, hl with | [_], _ => rfl) fun f fd Fu => ?_
  refine Fu.okE sc_tell_wind (fun vs H Q E h => ?_) ?_
  · obtain ⟨nl, ns, p, l, rfl, _⟩ := h
    rfl
  · rintro X outer cdv A s H vs Q E hr h rfl L
    obtain ⟨nl, ns, p, l, rfl, fa, r1, r2⟩ := h
    refine ⟨_, (pss_one (ps_ret (pe_lst (pa_cons (pe_kn kn_wind_text (hr.mono (by decide)) rfl pass0 (pa_cons (pe_kn kn_fitting_wind (hr.mono (by decide)) rfl (passes_on L) (pa_cons (pv 0) pa_nil)) pa_nil)) pa_nil)))), ?_⟩
    refine ⟨_, rfl, nl, ns, p, l, rfl, fa, fun e => r1 (by dsimp only; rw [e]; rfl), fun d sp g r e h1 h2 h3 H1 q b1 f1 hq hq1 => ?_⟩
    refine ⟨q, d, sp, g, rfl, SqL.of hq1, h1, h2, h3, ?_⟩
    exact ⟨(by show 1 ≤ sizeLine; decide), fin_new (ws := [strV (wText (d, sp, g))]) b1 f1 (r2 [wText (d, sp, g)] r (by dsimp only; rw [e]; rfl))⟩
abbrev st_tell_sector : Stmt := top 68
theorem sc_tell_sector : FnScope ["figures", "wind", "start", "end"] ["figures", "wind"] (defScope st_tell_sector) := ⟨rfl, rfl, rfl, by decide +kernel, rfl, by decide +kernel, by decide +kernel⟩
theorem kn_tsector (N : TopFn K mg "tell_sector" st_tell_sector) (CU : FigOk K mg C) (g_NO_SECTOR : GV mg "NO_SECTOR" (.int 999)) (M : KnM P w K mg base (CXe P w XC) 2 C "take" ["self", "lowest", "highest"] (spTk K C XC)) (kn_insist : Known P w K mg base (CXe P w XC) 1 "insist" ["holds"] (spInsist XC)) (kn_may_have_sector : Known P w K mg base CX0 1 "may_have_sector" ["wind"] (spMHS K)) (kn_direction_fits : Known P w K mg base CX0 1 "direction_fits" ["degrees"] spDF) (kn_digits : Known P w K mg base CX0 1 "digits" ["number", "size"] spDigits) : Known P w K mg base (CXe P w XC) 3 "tell_sector" ["figures", "wind"] (spSec K C XC) := by
  obtain ⟨ft, fdt, me_take, bc_take, gc_take⟩ := M.ex
  refine known_of N (fun _ _ _ _ _ _ us hl => match us, hl with | [_, _], _ => rfl) fun f fd Fu => ?_
  refine Fu.okE sc_tell_sector (fun vs H Q E h => ?_) ?_
  · obtain ⟨nl, ns, p, l, q, d, sp, g, rfl, _⟩ := h
    rfl
  · rintro X outer cdv A s H vs Q E hr h rfl L
    obtain ⟨nl, ns, p, l, q, d, sp, g, rfl, fa, hq, r1, r2⟩ := h
    refine ⟨_, (pss_cons (ps_set (i := 2) sc_tell_sector.nd rfl (by first | exact Or.inl rfl | exact Or.inr rfl) (pe_meth (pv 0) CU.cl me_take gc_take (hr.mono (by decide)) bc_take .nil (passes_on L) (pa_cons pe_int (pa_cons (pe_gv g_NO_SECTOR (by rfl)) pa_nil))))
      (pss_cons (ps_set (i := 3) sc_tell_sector.nd rfl (by first | exact Or.inl rfl | exact Or.inr rfl) (pe_meth (pv 0) CU.cl me_take gc_take (hr.mono (by decide)) bc_take .nil (passes_on L) (pa_cons pe_int (pa_cons (pe_gv g_NO_SECTOR (by rfl)) pa_nil))))
      (pss_cons (ps_if (PW.pt (pw_and (pt_cmpR op_eq (pv 2) (pe_gv g_NO_SECTOR (by rfl)) (nomark _)) (pw_and1 (pt_cmpR op_eq (pv 3) (pe_gv g_NO_SECTOR (by rfl)) (nomark _)))))
      (pss_one (ps_ret (pe_lst pa_nil)))
      pss_nil)
      (pss_cons (ps_expr (pe_kn kn_insist (hr.mono (by decide)) rfl (passes_on L) (pa_cons (pe_and (pe_kn kn_may_have_sector (hr.mono (by decide)) rfl pass0 (pa_cons (pv 1) pa_nil)) (pe_one (pe_cmpR op_ne (pv 2) (pv 3) (nomark _)))) pa_nil)))
      (pss_cons (ps_expr (pe_kn kn_insist (hr.mono (by decide)) rfl (passes_on L) (pa_cons (pe_and (pe_kn kn_direction_fits (hr.mono (by decide)) rfl pass0 (pa_cons (pv 2) pa_nil)) (pe_one (pe_kn kn_direction_fits (hr.mono (by decide)) rfl pass0 (pa_cons (pv 3) pa_nil)))) pa_nil)))
      (pss_one (ps_ret (pe_lst (pa_cons (pe_op op_addS (pe_op op_addS (pe_kn kn_digits (hr.mono (by decide)) rfl pass0 (pa_cons (pv 2) (pa_cons pe_int pa_nil))) pe_str) (pe_kn kn_digits (hr.mono (by decide)) rfl pass0 (pa_cons (pv 3) (pa_cons pe_int pa_nil)))) pa_nil))))))))), ?_⟩
    unfold tlSector at r1 r2
    refine tk_do (lo := 0) (hi := 999) fa rfl (fun _ h => h) (fun _ h => h) (fun e => r1 (by rw [e]; rfl)) (fun a l1 e1 _ h1 H1 b1 f1 => ?_)
    rw [e1] at r1 r2
    simp only [Option.bind_some] at r1 r2
    refine tk_do (lo := 0) (hi := 999) f1 rfl (fun _ h => h) (fun _ h => h) (fun e => r1 (by rw [e]; rfl)) (fun b l2 e2 _ h2 H2 b2 f2 => ?_)
    rw [e2] at r1 r2
    simp only [Option.bind_some] at r1 r2
    have bb := b1.trans b2
    have hq2 : H2 q = some (.lst (triV d sp g)) := bb _ _ hq (fa.ne hq)
    dsimp only [gName]
    refine ifs_do (c := decide (a = 999) && decide (b = 999)) (fun R h => ?_) (fun e => ?_) (fun e => ?_)
    · have ea : decide ((a : Int) = 999) = decide (a = 999) := by rw [Bool.eq_iff_iff]; simp; omega
      have eb : decide ((b : Int) = 999) = decide (b = 999) := by rw [Bool.eq_iff_iff]; simp; omega
      refine ⟨_, rfl, rfl, _, rfl, ?_⟩
      rw [dec_intV, ea]
      refine iteB (fun e => ?_) (fun e => ?_)
      · rw [e, Bool.true_and] at h
        refine ⟨_, rfl, rfl, _, rfl, ?_⟩
        rw [dec_intV, eb]
        exact h
      · rw [e, Bool.false_and] at h
        exact h
    · rw [Bool.and_eq_true] at e
      rw [if_pos ⟨of_decide_eq_true e.1, of_decide_eq_true e.2⟩] at r2
      exact lst0 bb f2 (r2 [] l2 rfl)
    · have ne : ¬ (a = 999 ∧ b = 999) := fun z => by rw [decide_eq_true z.1, decide_eq_true z.2] at e; cases e
      rw [if_neg ne] at r1 r2
      dsimp only [tSeq, tDrop]
      refine ins_do' (b := (decide (d ≠ 999) && decide (sp ≠ 0)) && decide (a ≠ b)) (fun R hR => ?_) (fun e => r1 ?_) (fun e H3 s3 => ?_)
      · refine ⟨_, rfl, q, ⟨d, sp, g, 999, 999⟩, rfl, SqL.of hq2, _, rfl, ?_⟩
        dsimp only
        refine iteB (fun e => ?_) (fun e => ?_)
        · rw [e, Bool.true_and] at hR
          refine ⟨_, rfl, _, rfl, rfl, ?_⟩
          have : (!decide (V.int (a : Int) = V.int (b : Int))) = decide (a ≠ b) := by rw [dec_intV, Bool.eq_iff_iff]; simp; omega
          rw [this]
          exact hR _ (Same.refl _)
        · rw [e, Bool.false_and] at hR
          exact hR _ (Same.refl _)
      · rw [if_neg]
        intro z
        rw [decide_eq_true z.1.1, decide_eq_true z.1.2, decide_eq_true z.2] at e
        cases e
      · rw [Bool.and_eq_true, Bool.and_eq_true] at e
        rw [if_pos ⟨⟨of_decide_eq_true e.1.1, of_decide_eq_true e.1.2⟩, of_decide_eq_true e.2⟩] at r1 r2
        have f3 := f2.same s3
        have b3 := bb.trans (But.of s3)
        refine ins_do' (b := dirFits a && dirFits b) (fun R hR => ?_) (fun e => r1 ?_) (fun e H4 s4 => ?_)
        · refine ⟨_, rfl, a, rfl, fun H4 s4 => ⟨_, rfl, ?_⟩⟩
          refine iteB (fun e => ?_) (fun e => ?_)
          · rw [e, Bool.true_and] at hR
            exact ⟨_, rfl, b, rfl, fun H5 s5 => hR H5 (s4.trans s5)⟩
          · rw [e, Bool.false_and] at hR
            exact hR _ s4
        · rw [if_neg]
          intro z
          rw [dirFits_tens, dirFits_tens, z.1, z.2] at e
          cases e
        · rw [dirFits_tens, dirFits_tens, Bool.and_eq_true] at e
          rw [if_pos e] at r2
          refine lst1 (t := Kwc.digits 3 a ++ Kwc.text "V" ++ Kwc.digits 3 b) (fun R h => ?_) (b3.trans (But.of s4)) (f3.same s4) (r2 _ l2 rfl)
          refine dg_do3 (n := a) (fun _ h => ⟨_, rfl, h⟩) (by omega) ?_
          dsimp only [tC]
          refine catSL (s := "V") ?_ ?_
          · rw [dlen]; decide
          refine dg_do3 (n := b) (fun _ h => ⟨_, rfl, h⟩) (by omega) ?_
          refine catS ?_ h
          rw [List.length_append, dlen, dlen]; decide
abbrev st_tell_wind_and_sector : Stmt := top 69
theorem sc_tell_wind_and_sector : FnScope ["figures", "wind"] ["figures"] (defScope st_tell_wind_and_sector) := ⟨rfl, rfl, rfl, by decide +kernel, rfl, by decide +kernel, by decide +kernel⟩
theorem kn_twas (N : TopFn K mg "tell_wind_and_sector" st_tell_wind_and_sector) (kn_fitting_wind : Known P w K mg base (CXe P w XC) 3 "fitting_wind" ["figures"] (spFitW K C XC)) (kn_wind_text : Known P w K mg base CX0 2 "wind_text" ["wind"] (spWT K)) (kn_tell_sector : Known P w K mg base (CXe P w XC) 3 "tell_sector" ["figures", "wind"] (spSec K C XC)) : Known P w K mg base (CXe P w XC) 4 "tell_wind_and_sector" ["figures"] (spTell K C XC tlWindSector) := by
  refine known_of N (fun _ _ _ _ _ _ us hl => match us, hl with | [_], _ => rfl) fun f fd Fu => ?_
  refine Fu.okE sc_tell_wind_and_sector (fun vs H Q E h => ?_) ?_
  · obtain ⟨nl, ns, p, l, rfl, _⟩ := h
    rfl
  · rintro X outer cdv A s H vs Q E hr h rfl L
    obtain ⟨nl, ns, p, l, rfl, fa, r1, r2⟩ := h
    refine ⟨_, (pss_cons (ps_set (i := 1) sc_tell_wind_and_sector.nd rfl (by first | exact Or.inl rfl | exact Or.inr rfl) (pe_kn kn_fitting_wind (hr.mono (by decide)) rfl (passes_on L) (pa_cons (pv 0) pa_nil)))
      (pss_one (ps_ret (pe_op op_cat (pe_lst (pa_cons (pe_kn kn_wind_text (hr.mono (by decide)) rfl pass0 (pa_cons (pv 1) pa_nil)) pa_nil)) (pe_kn kn_tell_sector (hr.mono (by decide)) rfl (passes_on L) (pa_cons (pv 0) (pa_cons (pv 1) pa_nil))))))), ?_⟩
    unfold tlWindSector at r1 r2
    refine ⟨_, rfl, nl, ns, p, l, rfl, fa, fun e => r1 (by rw [e]; rfl), fun d sp g r e h1 h2 h3 H1 q b1 f1 hq hq1 => ?_⟩
    rw [e] at r1 r2
    simp only [Option.bind_some] at r1 r2
    refine ⟨_, rfl, q, d, sp, g, rfl, SqL.of hq1, h1, h2, h3, ?_⟩
    refine ⟨(by show 1 ≤ sizeLine; decide), fun c hc => ?_⟩
    have s2 : Same H1 (upd H1 c (.lst [strV (wText (d, sp, g))])) := same_new (Same.refl _) hc
    have f2 := f1.same s2
    refine ⟨_, rfl, _, rfl, nl, ns, p, r, q, d, sp, g, rfl, f2, s2 _ _ hq1, fun e2 => r1 (by rw [e2]; rfl), fun ws r' e2 H3 u b3 f3 hu hu3 => ?_⟩
    rw [e2] at r2
    simp only [Option.map_some] at r2
    have hc2 : upd H1 c (.lst [strV (wText (d, sp, g))]) c = some (.lst [strV (wText (d, sp, g))]) := upd_same
    have hc3 := b3 _ _ hc2 (f2.ne hc2)
    have lw : ws.length ≤ 1 := by
      unfold tlSector at e2
      simp only [Option.bind_eq_some_iff] at e2
      obtain ⟨a, _, b, _, e2⟩ := e2
      split at e2
      · cases e2; decide
      · split at e2
        · split at e2
          · cases e2; exact Nat.le_refl 1
          · cases e2
        · cases e2
    have bb := (b1.trans (But.of s2)).trans b3
    refine ⟨c, u, _, _, rfl, rfl, hc3, hu3, ?_, ?_⟩
    · rw [List.length_map]; exact small500 (by show 1 + ws.length ≤ 500; omega)
    · exact fin_new (ws := [strV (wText (d, sp, g))] ++ ws.map strV) bb f3 (r2 (wText (d, sp, g) :: ws) r' rfl)
end
end My
end
section
set_option Elab.async false
set_option linter.all false
set_option maxRecDepth 100000
set_option maxHeartbeats 4000000
namespace My
open PySem PySem.Spec PyProof.Rows L2 TL
open Kwc (From)
abbrev coversT : List T := [Kwc.text "FEW", Kwc.text "SCT", Kwc.text "BKN", Kwc.text "OVC"]
abbrev cloudsT : List T := [Kwc.text "", Kwc.text "CB", Kwc.text "TCU"]
theorem cover_at : ∀ a : Nat, a < 5 → 1 ≤ a → (coversT.map strV)[a - 1]? = some (strV (Kwc.nameOf Kwc.amounts a)) ∧ (Kwc.nameOf Kwc.amounts a).length = 3 := by
  intro a h1 h2
  match a, h1, h2 with
  | 1, _, _ => exact ⟨rfl, rfl⟩
  | 2, _, _ => exact ⟨rfl, rfl⟩
  | 3, _, _ => exact ⟨rfl, rfl⟩
  | 4, _, _ => exact ⟨rfl, rfl⟩
theorem cloud_at : ∀ a : Nat, a < 3 → (cloudsT.map strV)[a]? = some (strV (Kwc.nameOf Kwc.cloudKinds a)) ∧ (Kwc.nameOf Kwc.cloudKinds a).length ≤ 3 := by
  intro a h1
  match a, h1 with
  | 0, _ => exact ⟨rfl, by decide⟩
  | 1, _ => exact ⟨rfl, by decide⟩
  | 2, _ => exact ⟨rfl, by decide⟩
theorem rngC_parts {c : Kwc.Cloud} (h : rngC c = true) : 1 ≤ c.amount ∧ c.amount ≤ 4 ∧ c.height ≤ 300 ∧ c.kind ≤ 2 := by
  simp [rngC] at h; omega
def spLT (K : PySem.W.Frag) : Sp := fun vs H Q _ => ∃ (q : Addr) (c : Kwc.Cloud), vs = [.ref q] ∧ SqL K H q ((cloudN c).map V.int) ∧ rngC c = true ∧ Q (strV (Kwc.cloudWord c)) H
def tlLay : From (List T) := fun l => (tkN 1 4 l).bind fun n => (layersTk n.1 [] n.2).map fun p => (p.1.map Kwc.cloudWord, p.2)
section
variable {P : Program} {w : World} {K : PySem.W.Frag} {mg : Str → Option Value} {base : Heap} {C XC : Addr}
abbrev st_layer_text : Stmt := top 36
theorem sc_layer_text : FnScope ["layer"] ["layer"] (defScope st_layer_text) := ⟨rfl, rfl, rfl, by decide +kernel, rfl, by decide +kernel, by decide +kernel⟩
theorem kn_ltext (N : TopFn K mg "layer_text" st_layer_text) (gC : TG K mg "COVERS" coversT) (gK : TG K mg "CLOUDS" cloudsT) (kn_digits : Known P w K mg base CX0 1 "digits" ["number", "size"] spDigits) : Known P w K mg base CX0 2 "layer_text" ["layer"] (spLT K) := by
  obtain ⟨aC, g_COVERS, sqC, oC, lC1, lC2, lC3⟩ := gC.get
  obtain ⟨aK, g_CLOUDS, sqK, oK, lK1, lK2, lK3⟩ := gK.get
  refine known_of N (fun _ _ _ _ _ _ us hl => match us, hl with | [_], _ => rfl) fun f fd Fu => ?_
  refine Fu.ok sc_layer_text (fun vs H Q E h => ?_) (fun cdv A outer s H vs Q E hr h => ?_)
  · obtain ⟨q, c, rfl, _⟩ := h
    rfl
  · obtain ⟨q, c, rfl, sq, hc, ret⟩ := h
    obtain ⟨h1, h2, h3, h4⟩ := rngC_parts hc
    obtain ⟨u1, u2⟩ := cover_at c.amount (by omega) h1
    obtain ⟨v1, v2⟩ := cloud_at c.kind (by omega)
    refine ⟨_, (pss_one (ps_ret (pe_op op_addS (pe_op op_addS (pe_ix ix_tup (pe_gv g_COVERS (by rfl)) (pe_op op_sub (pe_ix ix_list (pv 0) pe_int (fun _ _ => rfl)) pe_int) (fun _ _ => rfl)) (pe_kn kn_digits (hr.mono (by decide)) rfl pass0 (pa_cons (pe_ix ix_list (pv 0) pe_int (fun _ _ => rfl)) (pa_cons pe_int pa_nil)))) (pe_ix ix_tup (pe_gv g_CLOUDS (by rfl)) (pe_ix ix_list (pv 0) pe_int (fun _ _ => rfl)) (fun _ _ => rfl))))), ?_⟩
    unfold Kwc.cloudWord at ret
    refine ⟨_, rfl, q, _, _, _, rfl, rfl, sq, at_of (j := 0) rfl rfl, _, _, rfl, rfl, aC, _, _, _, rfl, rfl, sqC H, at_of (j := c.amount - 1) (show (c.amount : Int) - 1 = ((c.amount - 1 : Nat) : Int) by omega) u1, ?_⟩
    refine dg_do3 (n := c.height) (fun _ h => ⟨_, rfl, q, _, _, _, rfl, rfl, sq, at_of (j := 1) rfl rfl, h⟩) (by omega) ?_
    refine catS ?_ ?_
    · rw [u2, dlen]; decide
    refine ⟨_, rfl, q, _, _, _, rfl, rfl, sq, at_of (j := 2) rfl rfl, aK, _, _, _, rfl, rfl, sqK H, at_of (j := c.kind) rfl v1, ?_⟩
    refine catS ?_ ret
    rw [List.length_append, u2, dlen]; omega
abbrev st_tell_layers : Stmt := top 37
theorem sc_tell_layers : FnScope ["figures", "layers", "count", "turn", "cover", "hundreds", "cloud", "layer"] ["figures"] (defScope st_tell_layers) := ⟨rfl, rfl, rfl, by decide +kernel, rfl, by decide +kernel, by decide +kernel⟩
theorem kn_tlayers (N : TopFn K mg "tell_layers" st_tell_layers) (CU : FigOk K mg C) (B : Bt mg) (g_MOST_LAYERS : GV mg "MOST_LAYERS" (.int 4)) (g_MOST_HUNDREDS : GV mg "MOST_HUNDREDS" (.int 300)) (gC : TG K mg "COVERS" coversT) (gK : TG K mg "CLOUDS" cloudsT) (M : KnM P w K mg base (CXe P w XC) 2 C "take" ["self", "lowest", "highest"] (spTk K C XC)) (kn_insist : Known P w K mg base (CXe P w XC) 1 "insist" ["holds"] (spInsist XC)) (kn_layer_follows : Known P w K mg base CX0 1 "layer_follows" ["layers", "layer"] spFollows) (kn_layer_text : Known P w K mg base CX0 2 "layer_text" ["layer"] (spLT K)) : Known P w K mg base (CXe P w XC) 3 "tell_layers" ["figures"] (spTell K C XC tlLay) := by
  obtain ⟨ft, fdt, me_take, bc_take, gc_take⟩ := M.ex
  obtain ⟨aC, g_COVERS, sqC, oC, lC1, lC2, lC3⟩ := gC.get
  obtain ⟨aK, g_CLOUDS, sqK, oK, lK1, lK2, lK3⟩ := gK.get
  refine known_of N (fun _ _ _ _ _ _ us hl => match us, hl with | [_], _ => rfl) fun f fd Fu => ?_
  refine Fu.okE sc_tell_layers (fun vs H Q E h => ?_) ?_
  · obtain ⟨nl, ns, p, l, rfl, _⟩ := h
    rfl
  · rintro X outer cdv A s H vs Q E hr h rfl L
    obtain ⟨nl, ns, p, l, rfl, fa, r1, r2⟩ := h
    refine ⟨_, (pss_cons (ps_set (i := 1) sc_tell_layers.nd rfl (by first | exact Or.inl rfl | exact Or.inr rfl) (pe_lst pa_nil))
      (pss_cons (ps_set (i := 2) sc_tell_layers.nd rfl (by first | exact Or.inl rfl | exact Or.inr rfl) (pe_meth (pv 0) CU.cl me_take gc_take (hr.mono (by decide)) bc_take .nil (passes_on L) (pa_cons pe_int (pa_cons (pe_gv g_MOST_LAYERS (by rfl)) pa_nil))))
      (pss_cons (ps_for PassesOwn.leaving rfl (pi_range1 (by rfl) B.range (pa_cons (pv 2) pa_nil)) (pg_name (i := 3) sc_tell_layers.nd rfl (Or.inl rfl))
      (pss_cons (ps_set (i := 4) sc_tell_layers.nd rfl (by first | exact Or.inl rfl | exact Or.inr rfl) (pe_meth (pv 0) CU.cl me_take gc_take (hr.mono (by decide)) bc_take .nil (passes_on L) (pa_cons pe_int (pa_cons (pe_callB call_len_seq (by rfl) B.len PySem.boot_len (pa_cons (pe_gv g_COVERS (by rfl)) pa_nil)) pa_nil))))
      (pss_cons (ps_set (i := 5) sc_tell_layers.nd rfl (by first | exact Or.inl rfl | exact Or.inr rfl) (pe_meth (pv 0) CU.cl me_take gc_take (hr.mono (by decide)) bc_take .nil (passes_on L) (pa_cons pe_int (pa_cons (pe_gv g_MOST_HUNDREDS (by rfl)) pa_nil))))
      (pss_cons (ps_set (i := 6) sc_tell_layers.nd rfl (by first | exact Or.inl rfl | exact Or.inr rfl) (pe_meth (pv 0) CU.cl me_take gc_take (hr.mono (by decide)) bc_take .nil (passes_on L) (pa_cons pe_int (pa_cons (pe_op op_sub (pe_callB call_len_seq (by rfl) B.len PySem.boot_len (pa_cons (pe_gv g_CLOUDS (by rfl)) pa_nil)) pe_int) pa_nil))))
      (pss_cons (ps_set (i := 7) sc_tell_layers.nd rfl (by first | exact Or.inl rfl | exact Or.inr rfl) (pe_lst (pa_cons (pv 4) (pa_cons (pv 5) (pa_cons (pv 6) pa_nil)))))
      (pss_cons (ps_expr (pe_kn kn_insist (hr.mono (by decide)) rfl (passes_on L) (pa_cons (pe_kn kn_layer_follows (hr.mono (by decide)) rfl pass0 (pa_cons (pv 1) (pa_cons (pv 7) pa_nil))) pa_nil)))
      (pss_one (ps_expr (pe_bm PySem.F.plainAttrs_list PySem.F.slot_list_append PySem.F.type_list_append mt_append (pv 1) (pa_cons (pv 7) pa_nil))))))))))
      (pss_one (ps_ret (pe_lc rfl sc_tell_layers.nd (pi_list (pv 1)) (blkOk_by (own := [("layer", 7)]) (by kernel_rfl)) (fun _ _ _ _ _ => pg_name (i := 7) sc_tell_layers.nd rfl (Or.inl rfl)) (fun _ _ _ _ _ => pts_nil) (fun _ _ _ _ _ => (pe_kn kn_layer_text (hr.mono (by decide)) rfl pass0 (pa_cons (pv 7) pa_nil))))))))), ?_⟩
    unfold tlLay at r1 r2
    refine ⟨(by show 0 ≤ sizeLine; decide), fun q hq => ?_⟩
    have fa1 : FigAt K C nl ns (upd H q (.lst [])) p l := fa.put fa hq
    have b1 : But p H (upd H q (.lst [])) := (But.of (Same.refl _)).put' hq
    dsimp only [gName]
    refine tk_do (lo := 1) (hi := 4) fa1 rfl (fun _ h => h) (fun _ h => h) (fun e => r1 (by rw [e]; rfl)) (fun n l1 e1 hn1 hn2 H2 b2 f2 => ?_)
    rw [e1] at r1 r2
    simp only [Option.bind_some] at r1 r2
    have hqp : q ≠ p := fa.new hq
    have L2' : LaysAt H2 q [] [] := ⟨b2 _ _ upd_same hqp, rfl, fun j x y hx hy => by cases hx⟩
    dsimp only [gName, tSeq]
    refine ⟨_, rfl, n, rfl, by omega, by omega, ?_⟩
    refine for_range (lo := 0) (n := n) (fun i σ H' => ∃ acc rest as v3 v4 v5 v6 v7, σ = [some (.ref p), some (.ref q), some (.int (n : Int)), v3, v4, v5, v6, v7] ∧ But p H H' ∧ FigAt K C nl ns H' p rest ∧ LaysAt H' q as acc ∧ acc.length = i ∧ (∀ c ∈ acc, rngC c = true) ∧ layersTk n [] l1 = layersTk (n - i) acc rest)
      ⟨[], l1, [], none, none, none, none, none, rfl, b1.trans b2, f2, L2', rfl, by simp, rfl⟩ ?_ ?_
    · rintro i σ H' hi ⟨acc, rest, as, v3, v4, v5, v6, v7, rfl, b', f', L', hacc, hrng, hfrom⟩
      have hs : layersTk (n - i) acc rest = (tkN 1 4 rest).bind fun a => (tkN 0 300 a.2).bind fun h => (tkN 0 2 h.2).bind fun k => if follows acc ⟨a.1, h.1, k.1⟩ = true then layersTk (n - (i + 1)) (acc ++ [⟨a.1, h.1, k.1⟩]) k.2 else none := by
        rw [show n - i = (n - (i + 1)) + 1 from by omega, layersTk]
      rw [hs] at hfrom
      dsimp only [gName, tSeq]
      refine tk_do (lo := 1) (hi := 4) f' rfl (fun _ h => h) (fun _ h => ⟨aC, _, rfl, .inr (sqC H'), h⟩) (fun e => r1 (by rw [hfrom, e]; rfl)) (fun a l2 e2 ha1 ha2 H3 b3 f3 => ?_)
      rw [e2] at hfrom
      simp only [Option.bind_some] at hfrom
      refine tk_do (lo := 0) (hi := 300) f3 rfl (fun _ h => h) (fun _ h => h) (fun e => r1 (by rw [hfrom, e]; rfl)) (fun hh l3 e3 _ hh2 H4 b4 f4 => ?_)
      rw [e3] at hfrom
      simp only [Option.bind_some] at hfrom
      refine tk_do (lo := 0) (hi := 2) f4 rfl (fun _ h => h) (fun _ h => ⟨aK, _, rfl, .inr (sqK H4), _, _, rfl, rfl, h⟩) (fun e => r1 (by rw [hfrom, e]; rfl)) (fun k l4 e4 _ hk2 H5 b5 f5 => ?_)
      rw [e4] at hfrom
      simp only [Option.bind_some] at hfrom
      dsimp only [gName]
      refine ⟨_, rfl, _, rfl, _, rfl, (by show 3 ≤ sizeLine; decide), fun la hla => ?_⟩
      have b5' := ((b'.trans b3).trans b4).trans b5
      have hla0 : H la = none := b5'.free hla (f5.new hla)
      have L5 : LaysAt H5 q as acc := by
        have bq := (b3.trans b4).trans b5
        exact ⟨bq _ _ L'.lst (f'.ne L'.lst), L'.len, fun j x y hx hy => bq _ _ (L'.at_ j x y hx hy) (f'.ne (L'.at_ j x y hx hy))⟩
      have s6 : Same H5 (upd H5 la (.lst [.int (a : Int), .int (hh : Int), .int (k : Int)])) := same_new (Same.refl _) hla
      have L6 := L5.same s6
      have f6 := f5.same s6
      have b6 := b5'.trans (But.of s6)
      have hla6 : upd H5 la (.lst [.int (a : Int), .int (hh : Int), .int (k : Int)]) la = some (.lst ((cloudN ⟨a, hh, k⟩).map V.int)) := upd_same
      generalize upd H5 la (.lst [.int (a : Int), .int (hh : Int), .int (k : Int)]) = H6 at s6 L6 f6 b6 hla6
      refine ⟨_, rfl, _, rfl, q, la, as, acc, ⟨a, hh, k⟩, rfl, L6, by omega, hla6, follows acc ⟨a, hh, k⟩, rfl, fun e H' => r1 (by rw [hfrom, e]; rfl) H', fun e => ?_⟩
      rw [if_pos e] at hfrom
      have hlt := follows_lt e
      refine ⟨_, rfl, .inl ⟨rfl, _, SqL.of L6.lst⟩, _, rfl, q, _, _, rfl, rfl, L6.lst, (by rw [List.length_map, L6.len]; exact Nat.lt_of_lt_of_le hlt (by decide)), ?_⟩
      refine ⟨acc ++ [⟨a, hh, k⟩], l4, as ++ [la], _, _, _, _, _, rfl, b6.put' hq, f6.put fa hq, L6.add (H' := H6) hla6, by simp [hacc], ?_, hfrom⟩
      intro c hc
      rcases List.mem_append.mp hc with z | z
      · exact hrng c z
      · have : c = ⟨a, hh, k⟩ := by simpa using z
        subst this
        simp [rngC]; omega
    · rintro σ H' ⟨acc, rest, as, v3, v4, v5, v6, v7, rfl, b', f', L', hacc, hrng, hfrom⟩
      rw [Nat.sub_self] at hfrom
      have hfrom : layersTk n [] l1 = some (acc, rest) := hfrom
      rw [hfrom] at r2
      simp only [Option.map_some] at r2
      have hz : (as.zip acc).map (fun x => V.ref x.1) = as.map V.ref := by
        rw [show (fun x : Addr × Kwc.Cloud => V.ref x.1) = V.ref ∘ Prod.fst from rfl, ← List.map_map, List.map_fst_zip (by rw [L'.len]; exact Nat.le_refl _)]
      have hz2 : (as.zip acc).map (fun x => strV (Kwc.cloudWord x.2)) = (acc.map Kwc.cloudWord).map strV := by
        rw [show (fun x : Addr × Kwc.Cloud => strV (Kwc.cloudWord x.2)) = (fun c => strV (Kwc.cloudWord c)) ∘ Prod.snd from rfl, ← List.map_map, List.map_snd_zip (by rw [L'.len]; exact Nat.le_refl _), List.map_map]; rfl
      dsimp only [tRet]
      refine rd_list (K := K) (a := q) (xs := as.zip acc) (f := fun x => V.ref x.1) (d := (0, ⟨0, 0, 0⟩)) (val := fun x => strV (Kwc.cloudWord x.2)) rfl (by rw [hz]; exact SqL.of L'.lst) (by rw [List.length_zip]; exact Nat.lt_of_le_of_lt (Nat.min_le_right _ _) (Nat.lt_of_lt_of_le (show acc.length < 5 by omega) (by decide))) (fun i H3 k hi hs hk => ?_) (fun H3 D s3 hD hd => ?_)
      · have hi2 : i < acc.length := by rw [List.length_zip] at hi; omega
        have hi1 : i < as.length := by rw [L'.len]; exact hi2
        have eg : (as.zip acc).getD i (0, ⟨0, 0, 0⟩) = (as[i], acc[i]) := by
          rw [List.getD_eq_getElem?_getD, List.getElem?_eq_getElem hi, List.getElem_zip]; rfl
        rw [eg] at hk ⊢
        refine ⟨_, rfl, as[i], acc[i], rfl, SqL.of (hs _ _ (L'.at_ i _ _ (List.getElem?_eq_getElem hi1) (List.getElem?_eq_getElem hi2))), hrng _ (List.getElem_mem hi2), hk H3 (Same.refl _)⟩
      · rw [hz2] at hd
        have hD0 : H D = none := b'.free hD (f'.new hD)
        exact r2 _ rest rfl H3 D (b'.trans (But.of s3)) (f'.same s3) hD0 hd
abbrev st_tell_sky : Stmt := top 38
theorem sc_tell_sky : FnScope ["figures", "kind"] ["figures"] (defScope st_tell_sky) := ⟨rfl, rfl, rfl, by decide +kernel, rfl, by decide +kernel, by decide +kernel⟩
theorem kn_tsky (N : TopFn K mg "tell_sky" st_tell_sky) (CU : FigOk K mg C) (g_CLEAR : GV mg "CLEAR" (.int 0)) (g_UPRIGHT : GV mg "UPRIGHT" (.int 1)) (g_LAYERED : GV mg "LAYERED" (.int 2)) (g_CLEAR_WORD : GV mg "CLEAR_WORD" (.str (Str.ofString "NSC"))) (g_MOST_UPRIGHT : GV mg "MOST_UPRIGHT" (.int 100)) (M : KnM P w K mg base (CXe P w XC) 2 C "take" ["self", "lowest", "highest"] (spTk K C XC)) (kn_digits : Known P w K mg base CX0 1 "digits" ["number", "size"] spDigits) (kn_tell_layers : Known P w K mg base (CXe P w XC) 3 "tell_layers" ["figures"] (spTell K C XC tlLay)) : Known P w K mg base (CXe P w XC) 4 "tell_sky" ["figures"] (spTell K C XC tlSky) := by
  obtain ⟨ft, fdt, me_take, bc_take, gc_take⟩ := M.ex
  refine known_of N (fun _ _ _ _ _ _ us hl => match us, hl with | [_], _ => rfl) fun f fd Fu => ?_
  refine Fu.okE sc_tell_sky (fun vs H Q E h => ?_) ?_
  · obtain ⟨nl, ns, p, l, rfl, _⟩ := h
    rfl
  · rintro X outer cdv A s H vs Q E hr h rfl L
    obtain ⟨nl, ns, p, l, rfl, fa, r1, r2⟩ := h
    refine ⟨_, (pss_cons (ps_set (i := 1) sc_tell_sky.nd rfl (by first | exact Or.inl rfl | exact Or.inr rfl) (pe_meth (pv 0) CU.cl me_take gc_take (hr.mono (by decide)) bc_take .nil (passes_on L) (pa_cons (pe_gv g_CLEAR (by rfl)) (pa_cons (pe_gv g_LAYERED (by rfl)) pa_nil))))
      (pss_cons (ps_if (pt_cmpR op_eq (pv 1) (pe_gv g_CLEAR (by rfl)) (nomark _))
      (pss_one (ps_ret (pe_lst (pa_cons (pe_gv g_CLEAR_WORD (by rfl)) pa_nil))))
      pss_nil)
      (pss_cons (ps_if (pt_cmpR op_eq (pv 1) (pe_gv g_UPRIGHT (by rfl)) (nomark _))
      (pss_one (ps_ret (pe_lst (pa_cons (pe_op op_addS pe_str (pe_kn kn_digits (hr.mono (by decide)) rfl pass0 (pa_cons (pe_meth (pv 0) CU.cl me_take gc_take (hr.mono (by decide)) bc_take .nil (passes_on L) (pa_cons pe_int (pa_cons (pe_gv g_MOST_UPRIGHT (by rfl)) pa_nil))) (pa_cons pe_int pa_nil)))) pa_nil))))
      pss_nil)
      (pss_one (ps_ret (pe_kn kn_tell_layers (hr.mono (by decide)) rfl (passes_on L) (pa_cons (pv 0) pa_nil))))))), ?_⟩
    unfold tlSky at r1 r2
    refine tk_do (lo := 0) (hi := 2) fa rfl (fun _ h => h) (fun _ h => h) (fun e => r1 (by rw [e]; rfl)) (fun k l1 e1 _ h1 H1 b1 f1 => ?_)
    rw [e1] at r1 r2
    simp only [Option.bind_some] at r1 r2
    dsimp only [gName]
    refine ifs_do (c := decide (k = 0)) (fun R h => ⟨_, rfl, rfl, _, rfl, by rw [dec_intV, show decide ((k : Int) = 0) = decide (k = 0) from by rw [Bool.eq_iff_iff]; simp]; exact h⟩) (fun e => ?_) (fun e => ?_)
    · rw [if_pos (of_decide_eq_true e)] at r2
      dsimp only [tRet]
      refine lst1 (t := Kwc.text "NSC") (fun R h => ?_) b1 f1 (r2 _ _ rfl)
      show R (.str (Str.ofString "NSC")) H1
      rw [ofS "NSC"]; exact h
    · rw [if_neg (of_decide_eq_false e)] at r1 r2
      refine ifs_do (c := decide (k = 1)) (fun R h => ⟨_, rfl, rfl, _, rfl, by rw [dec_intV, show decide ((k : Int) = 1) = decide (k = 1) from by rw [Bool.eq_iff_iff]; simp; omega]; exact h⟩) (fun e => ?_) (fun e => ?_)
      · rw [if_pos (of_decide_eq_true e)] at r1 r2
        refine tk_do (lo := 0) (hi := 100) f1 rfl (fun _ h => h) (fun _ h => h) (fun e => r1 (by rw [e]; rfl)) (fun n l2 e2 _ h2 H2 b2 f2 => ?_)
        rw [e2] at r2
        simp only [Option.map_some] at r2
        dsimp only [tCons, tNil, tC]
        refine dgs (k := 3) (by omega) (by decide) (z3 n (by omega)) ?_
        refine catLS (s := "VV") ?_ ?_
        · rw [dlen]; decide
        exact ⟨(by show 1 ≤ sizeLine; decide), fin_new (ws := [strV (Kwc.text "VV" ++ Kwc.digits 3 n)]) (b1.trans b2) f2 (r2 [Kwc.text "VV" ++ Kwc.digits 3 n] l2 rfl)⟩
      · rw [if_neg (of_decide_eq_false e)] at r1 r2
        dsimp only [tRet]
        refine tell_do (f := tlLay) f1 rfl (fun e => r1 e) (fun ws r e H2 q b2 f2 hq hq2 => ?_)
        exact r2 ws r e H2 q (b1.trans b2) f2 (b1.free hq (f1.new hq)) hq2
end
end My
end
section
set_option Elab.async false
set_option linter.all false
set_option maxRecDepth 100000
set_option maxHeartbeats 4000000
namespace My
open PySem PySem.Spec PyProof.Rows L2 TL
open Kwc (From)
theorem call_lenK {X : Cx} (K : PySem.W.Frag) (h : X.K = K) : CallR X (.builtin "len") (fun xs H Q => ∃ p ys, xs = [.ref p] ∧ (SqL K H p ys ∨ SqT K H p ys) ∧ Q (.int ys.length) H) := by subst h; exact call_len_seq
theorem ix_tupK {X : Cx} (K : PySem.W.Frag) (h : X.K = K) : IxR X (rIxT K) := by subst h; exact ix_tup
def spTellS (K : PySem.W.Frag) (C XC : Addr) (f : From T) : Sp := fun vs H Q E => ∃ nl ns p l, vs = [.ref p] ∧ FigAt K C nl ns H p l ∧ (f l = none → ∀ H', E (.ref XC) none H') ∧
  (∀ t r, f l = some (t, r) → ∀ H', But p H H' → FigAt K C nl ns H' p r → Q (strV t) H')
def strT : List T := [[45], [], [43]]
theorem str_at : ∀ a : Nat, a < 3 → (strT.map strV)[a]? = some (strV (signW a)) ∧ (signW a).length ≤ 1 := by
  intro a h1
  match a, h1 with
  | 0, _ => exact ⟨rfl, by decide⟩
  | 1, _ => exact ⟨rfl, by decide⟩
  | 2, _ => exact ⟨rfl, by decide⟩
theorem mann_at : ∀ a : Nat, a < 9 → 1 ≤ a → (MANN.map strV)[a - 1]? = some (strV (dname a)) := by
  intro a h1 h2
  match a, h1, h2 with
  | 1, _, _ => rfl
  | 2, _, _ => rfl
  | 3, _, _ => rfl
  | 4, _, _ => rfl
  | 5, _, _ => rfl
  | 6, _, _ => rfl
  | 7, _, _ => rfl
  | 8, _, _ => rfl
theorem dname_len : ∀ a : Nat, a < 9 → (dname a).length ≤ 2 := by decide
theorem dname_pl : ∀ a : Nat, a < 9 → (Kwc.text (Kwc.descs.getD a "")).all sign = true ∧ (Kwc.text (Kwc.descs.getD a "")).length ≤ 500 := by decide
theorem dname_plain (a : Nat) (h : a < 9) : Plain (dname a) := text_plain _ (dname_pl a h).1 (dname_pl a h).2
theorem kind_at0 : ∀ a : Nat, a < 20 → 1 ≤ a → KN[a - 1]? = some (nmK a) ∧ (nmK a).length = 2 := by decide
theorem kind_pl : ∀ a : Nat, a < 20 → (Kwc.text (Kwc.kinds.getD a "")).all sign = true ∧ (Kwc.text (Kwc.kinds.getD a "")).length ≤ 500 := by decide
theorem kind_plain (a : Nat) (h : a < 20) : Plain (nmK a) := text_plain _ (kind_pl a h).1 (kind_pl a h).2
theorem flat_len : ∀ ks : List Nat, (∀ k ∈ ks, 1 ≤ k ∧ k ≤ 19) → ((ks.map nmK).map List.length).sum = 2 * ks.length ∧ (ks.map nmK).flatten.length = 2 * ks.length
  | [], _ => ⟨rfl, rfl⟩
  | k :: ks, h => by
    obtain ⟨i1, i2⟩ := flat_len ks fun x hx => h x (.tail _ hx)
    have := (kind_at0 k (by have := h k (.head _); omega) (h k (.head _)).1).2
    refine ⟨?_, ?_⟩
    · rw [List.map_cons, List.map_cons, List.sum_cons, i1, this, List.length_cons]; omega
    · rw [List.map_cons, List.flatten_cons, List.length_append, i2, this, List.length_cons]; omega
theorem times_rng {lo hi : Nat} : ∀ (n : Nat) (l : List Int) (xs : List Nat) (r : List Int), Kwc.times (tkN lo hi) n l = some (xs, r) → ∀ k ∈ xs, lo ≤ k ∧ k ≤ hi
  | 0, l, xs, r, h => by cases h; intro k hk; cases hk
  | n + 1, l, xs, r, h => by
    rw [Kwc.times] at h
    simp only [Option.bind_eq_some_iff, Option.map_eq_some_iff] at h
    obtain ⟨⟨x, l1⟩, e1, ⟨ys, l2⟩, e2, e3⟩ := h
    cases e3
    intro k hk
    rcases List.mem_cons.mp hk with z | z
    · subst z
      obtain ⟨y, _, o, rfl⟩ := (tkN_tells lo hi).inv e1
      simpa using o
    · exact times_rng n l1 ys _ e2 k z
section
variable {P : Program} {w : World} {K : PySem.W.Frag} {mg : Str → Option Value} {base : Heap} {C XC : Addr}
abbrev st_tell_weather_word : Stmt := top 55
theorem sc_tell_weather_word : FnScope ["figures", "strength", "manner_number", "manner", "all_kinds", "count", "kinds", "turn"] ["figures"] (defScope st_tell_weather_word) := ⟨rfl, rfl, rfl, by decide +kernel, rfl, by decide +kernel, by decide +kernel⟩
theorem kn_tww (N : TopFn K mg "tell_weather_word" st_tell_weather_word) (CU : FigOk K mg C) (B : Bt mg) (g_LIGHT : GV mg "LIGHT" (.int 0)) (g_HEAVY : GV mg "HEAVY" (.int 2)) (g_MOST_KINDS : GV mg "MOST_KINDS" (.int 3)) (gS : TG K mg "STRENGTHS" strT) (gM : TG K mg "MANNERS" MANN) (gR : TG K mg "RAIN_KINDS" RAIN) (gO : TG K mg "OTHER_KINDS" OTHR) (M : KnM P w K mg base (CXe P w XC) 2 C "take" ["self", "lowest", "highest"] (spTk K C XC)) (kn_insist : Known P w K mg base (CXe P w XC) 1 "insist" ["holds"] (spInsist XC)) (kn_weather_fits : Known P w K mg base CX0 3 "weather_fits" ["strength", "manner", "kinds"] (spWxFits K)) : Known P w K mg base (CXe P w XC) 4 "tell_weather_word" ["figures"] (spTellS K C XC tlWx) := by
  obtain ⟨ft, fdt, me_take, bc_take, gc_take⟩ := M.ex
  obtain ⟨aS, g_STRENGTHS, sqS, oS, lS1, lS2, lS3⟩ := gS.get
  obtain ⟨aM, g_MANNERS, sqM, oM, lM1, lM2, lM3⟩ := gM.get
  obtain ⟨aR, g_RAIN_KINDS, sqR, oR, lR1, lR2, lR3⟩ := gR.get
  obtain ⟨aO, g_OTHER_KINDS, sqO, oO, lO1, lO2, lO3⟩ := gO.get
  refine known_of N (fun _ _ _ _ _ _ us hl => match us, hl with | [_], _ => rfl) fun f fd Fu => ?_
  refine Fu.okE sc_tell_weather_word (fun vs H Q E h => ?_) ?_
  · obtain ⟨nl, ns, p, l, rfl, _⟩ := h
    rfl
  · rintro X outer cdv A s H vs Q E hr h rfl L
    obtain ⟨nl, ns, p, l, rfl, fa, r1, r2⟩ := h
    refine ⟨_, (pss_cons (ps_set (i := 1) sc_tell_weather_word.nd rfl (by first | exact Or.inl rfl | exact Or.inr rfl) (pe_meth (pv 0) CU.cl me_take gc_take (hr.mono (by decide)) bc_take .nil (passes_on L) (pa_cons (pe_gv g_LIGHT (by rfl)) (pa_cons (pe_gv g_HEAVY (by rfl)) pa_nil))))
      (pss_cons (ps_set (i := 2) sc_tell_weather_word.nd rfl (by first | exact Or.inl rfl | exact Or.inr rfl) (pe_meth (pv 0) CU.cl me_take gc_take (hr.mono (by decide)) bc_take .nil (passes_on L) (pa_cons pe_int (pa_cons (pe_callB call_len_seq (by rfl) B.len PySem.boot_len (pa_cons (pe_gv g_MANNERS (by rfl)) pa_nil)) pa_nil))))
      (pss_cons (ps_set (i := 3) sc_tell_weather_word.nd rfl (by first | exact Or.inl rfl | exact Or.inr rfl) (pe_ifExp (pt_cmpR op_eq (pv 2) pe_int (nomark _)) pe_str (pe_ix ix_tup (pe_gv g_MANNERS (by rfl)) (pe_op op_sub (pv 2) pe_int) (fun _ _ => rfl))))
      (pss_cons (ps_set (i := 4) sc_tell_weather_word.nd rfl (by first | exact Or.inl rfl | exact Or.inr rfl) (pe_op op_catT (pe_gv g_RAIN_KINDS (by rfl)) (pe_gv g_OTHER_KINDS (by rfl))))
      (pss_cons (ps_set (i := 5) sc_tell_weather_word.nd rfl (by first | exact Or.inl rfl | exact Or.inr rfl) (pe_meth (pv 0) CU.cl me_take gc_take (hr.mono (by decide)) bc_take .nil (passes_on L) (pa_cons pe_int (pa_cons (pe_gv g_MOST_KINDS (by rfl)) pa_nil))))
      (pss_cons (ps_setLcE (i := 6) L rfl sc_tell_weather_word.nd rfl rfl rfl (pi_range1 (by rfl) B.range (pa_cons (pv 5) pa_nil)) (blkOk_by (own := [("turn", 7)]) (by kernel_rfl)) (fun _ _ _ _ _ _ => pg_name (i := 7) sc_tell_weather_word.nd rfl (Or.inl rfl)) (fun _ _ _ _ _ _ => pts_nil) (fun _ _ _ _ _ _ hps => (pe_ix (ix_tupK K rfl) (pv 4) (pe_op op_sub (pe_meth (pv 0) CU.cl me_take gc_take (hr.mono (by decide)) bc_take .nil hps (pa_cons pe_int (pa_cons (pe_callB (call_lenK K rfl) (by rfl) B.len PySem.boot_len (pa_cons (pv 4) pa_nil)) pa_nil))) pe_int) (fun _ _ => rfl))))
      (pss_cons (ps_expr (pe_kn kn_insist (hr.mono (by decide)) rfl (passes_on L) (pa_cons (pe_kn kn_weather_fits (hr.mono (by decide)) rfl pass0 (pa_cons (pv 1) (pa_cons (pv 3) (pa_cons (pv 6) pa_nil)))) pa_nil)))
      (pss_one (ps_ret (pe_op op_addS (pe_op op_addS (pe_ix ix_tup (pe_gv g_STRENGTHS (by rfl)) (pv 1) (fun _ _ => rfl)) (pv 3)) (pe_join pe_str (pv 6)))))))))))), ?_⟩
    unfold tlWx at r1 r2
    refine tk_do (lo := 0) (hi := 2) fa rfl (fun _ h => h) (fun _ h => h) (fun e => r1 (by rw [e]; rfl)) (fun sg l1 e1 _ hs2 H1 b1 f1 => ?_)
    rw [e1] at r1 r2
    simp only [Option.bind_some] at r1 r2
    refine tk_do (lo := 0) (hi := 8) f1 rfl (fun _ h => h) (fun _ h => ⟨aM, _, rfl, .inr (sqM H1), h⟩) (fun e => r1 (by rw [e]; rfl)) (fun d l2 e2 _ hd2 H2 b2 f2 => ?_)
    rw [e2] at r1 r2
    simp only [Option.bind_some] at r1 r2
    dsimp only [gName, tSeq, tAsg]
    refine if_do (c := decide (d = 0)) (v := strV (dname d)) (fun R h => ⟨_, rfl, rfl, _, rfl, by rw [dec_intV, show decide ((d : Int) = 0) = decide (d = 0) from by rw [Bool.eq_iff_iff]; simp]; exact h⟩) (fun e R h => ?_) (fun e R h => ?_) ?_
    · have hd : d = 0 := of_decide_eq_true e
      subst hd
      show R (.str (Str.ofString "")) H2
      rw [ofS ""]; exact h
    · have hd : ¬ d = 0 := of_decide_eq_false e
      exact ⟨_, rfl, _, _, rfl, rfl, aM, _, _, _, rfl, rfl, sqM H2, at_of (j := d - 1) (show (d : Int) - 1 = ((d - 1 : Nat) : Int) by omega) (mann_at d (by omega) (by omega)), h⟩
    · refine ⟨aR, aO, _, _, rfl, rfl, sqR H2, sqO H2, by decide, by decide, fun z => (by cases z), fun _ ak hak => ?_⟩
      have s3 : Same H2 (upd H2 ak (.tup (List.map strV RAIN ++ List.map strV OTHR))) := same_new (Same.refl H2) hak
      have tu : upd H2 ak (.tup (List.map strV RAIN ++ List.map strV OTHR)) ak = some (.tup (KN.map strV)) := by rw [upd_same, ← List.map_append]; rfl
      have f3 := f2.same s3
      have akp : ak ≠ p := f2.new hak
      have b3 : But p H (upd H2 ak (.tup (List.map strV RAIN ++ List.map strV OTHR))) := (b1.trans b2).trans (But.of s3)
      generalize upd H2 ak (.tup (List.map strV RAIN ++ List.map strV OTHR)) = H3 at s3 tu f3 b3 ⊢
      refine tk_do (lo := 0) (hi := 3) f3 rfl (fun _ h => h) (fun _ h => h) (fun e => r1 (by rw [e]; rfl)) (fun n l3 e3 _ hn H4 b4 f4 => ?_)
      rw [e3] at r1 r2
      simp only [Option.bind_some] at r1 r2
      have hk4 := b4 _ _ tu akp
      have bb4 := b3.trans b4
      refine lc_times (f := tkN 1 19) (val := fun k => strV (nmK k)) (n := n) (XX := ∀ H', E (.ref XC) none H') f4 (by omega) (fun R h => ⟨_, rfl, h⟩) (fun e => r1 (by rw [e]; rfl)) (fun i H' rest k b fr no hk => ?_) (fun ks r e H5 D b5 f5 hD hd => ?_)
      · have hk' := b _ _ hk4 akp
        refine ⟨_, rfl, ?_⟩
        refine tk_do (lo := 1) (hi := 19) fr rfl (fun _ h => h) (fun _ h => ⟨_, rfl, ak, _, rfl, .inr (SqT.of hk'), h⟩) no (fun c r e h1 h2 H6 b6 f6 => ?_)
        refine ⟨_, _, rfl, rfl, ak, _, _, _, rfl, rfl, SqT.of (b6 _ _ hk' akp), at_of (j := c - 1) (show (c : Int) - 1 = ((c - 1 : Nat) : Int) by omega) (by rw [List.getElem?_map, (kind_at0 c (by omega) h1).1]; rfl), hk c r e H6 b6 f6⟩
      · rw [e] at r1 r2
        simp only [Option.bind_some] at r1 r2
        have hrg := times_rng _ _ _ _ e
        have hkl := times_len _ _ _ _ _ e
        have hd' : H5 D = some (.lst ((ks.map nmK).map strV)) := by rw [hd, List.map_map]; rfl
        have bb5 := bb4.trans b5
        have hks : Kinds K H5 D (ks.map nmK) := ⟨SqL.of hd', fun k hk => by
          obtain ⟨a, ha, rfl⟩ := List.mem_map.mp hk
          exact kind_plain a (by have := hrg a ha; omega), by rw [List.length_map]; omega⟩
        refine ins_do' (b := wxFits sg (dname d) (ks.map nmK)) (fun R hR => ⟨_, rfl, _, rfl, _, rfl, sg, dname d, D, ks.map nmK, rfl, dname_plain d (by omega), hks, fun H6 s6 => hR H6 s6⟩) (fun e => r1 (by rw [e]; rfl)) (fun e H6 s6 => ?_)
        rw [if_pos e] at r2
        obtain ⟨u1, u2⟩ := str_at sg (by omega)
        have dl := dname_len d (by omega)
        obtain ⟨v1, v2⟩ := flat_len ks hrg
        refine ⟨_, rfl, aS, _, _, _, rfl, rfl, sqS H6, at_of (j := sg) rfl u1, ?_⟩
        refine ⟨_, rfl, ?_⟩
        refine catS ?_ ?_
        · omega
        refine ⟨⟨_, rfl⟩, ?_⟩
        refine ⟨_, rfl, ?_⟩
        refine ⟨_, D, (ks.map nmK).map S, rfl, rfl, .inl (SqL.of (by rw [s6 _ _ hd']; simp only [List.map_map]; rfl)), ?_, ?_⟩
        · rw [sum_S, ofS "", S_len, v1, List.length_map, List.length_map]
          show 2 * ks.length + ks.length * 0 ≤ _
          exact small500 (by omega)
        · rw [join_nil]
          refine catS ?_ ?_
          · rw [List.length_append, v2]; omega
          rw [List.append_assoc]
          exact r2 _ r rfl H6 (bb5.trans (But.of s6)) (f5.same s6)
abbrev st_tell_weather : Stmt := top 56
theorem sc_tell_weather : FnScope ["figures", "count", "turn"] ["figures"] (defScope st_tell_weather) := ⟨rfl, rfl, rfl, by decide +kernel, rfl, by decide +kernel, by decide +kernel⟩
theorem kn_tweather (N : TopFn K mg "tell_weather" st_tell_weather) (CU : FigOk K mg C) (B : Bt mg) (g_MOST_WORDS : GV mg "MOST_WORDS" (.int 3)) (M : KnM P w K mg base (CXe P w XC) 2 C "take" ["self", "lowest", "highest"] (spTk K C XC)) (kn_tell_weather_word : Known P w K mg base (CXe P w XC) 4 "tell_weather_word" ["figures"] (spTellS K C XC tlWx)) : Known P w K mg base (CXe P w XC) 5 "tell_weather" ["figures"] (spTell K C XC tlWeather) := by
  obtain ⟨ft, fdt, me_take, bc_take, gc_take⟩ := M.ex
  refine known_of N (fun _ _ _ _ _ _ us hl => match us, hl with | [_], _ => rfl) fun f fd Fu => ?_
  refine Fu.okE sc_tell_weather (fun vs H Q E h => ?_) ?_
  · obtain ⟨nl, ns, p, l, rfl, _⟩ := h
    rfl
  · rintro X outer cdv A s H vs Q E hr h rfl L
    obtain ⟨nl, ns, p, l, rfl, fa, r1, r2⟩ := h
    refine ⟨_, (pss_cons (ps_set (i := 1) sc_tell_weather.nd rfl (by first | exact Or.inl rfl | exact Or.inr rfl) (pe_meth (pv 0) CU.cl me_take gc_take (hr.mono (by decide)) bc_take .nil (passes_on L) (pa_cons pe_int (pa_cons (pe_gv g_MOST_WORDS (by rfl)) pa_nil))))
      (pss_one (ps_ret (pe_lcE L rfl sc_tell_weather.nd (pi_range1 (by rfl) B.range (pa_cons (pv 1) pa_nil)) (blkOk_by (own := [("turn", 2)]) (by kernel_rfl)) (fun _ _ _ _ _ _ => pg_name (i := 2) sc_tell_weather.nd rfl (Or.inl rfl)) (fun _ _ _ _ _ _ => pts_nil) (fun _ _ _ _ _ _ hps => (pe_kn kn_tell_weather_word (hr.mono (by decide)) rfl hps (pa_cons (pv 0) pa_nil))))))), ?_⟩
    unfold tlWeather at r1 r2
    refine tk_do (lo := 0) (hi := 3) fa rfl (fun _ h => h) (fun _ h => h) (fun e => r1 (by rw [e]; rfl)) (fun n l1 e1 _ h1 H1 b1 f1 => ?_)
    rw [e1] at r1 r2
    simp only [Option.bind_some] at r1 r2
    dsimp only [gName, tRet]
    refine lc_times (f := tlWx) (val := strV) (n := n) (XX := ∀ H', E (.ref XC) none H') f1 (by omega) (fun R h => ⟨_, rfl, h⟩) r1 (fun i H' rest k b fr no hk => ?_) (fun xs r e H' D b fr hD hd => ?_)
    · exact ⟨_, rfl, nl, ns, p, rest, rfl, fr, no, hk⟩
    · exact r2 xs r e H' D (b1.trans b) fr (b1.free hD (f1.new hD)) hd
abbrev st_tell_changed_weather : Stmt := top 57
theorem sc_tell_changed_weather : FnScope ["figures", "count"] ["figures"] (defScope st_tell_changed_weather) := ⟨rfl, rfl, rfl, by decide +kernel, rfl, by decide +kernel, by decide +kernel⟩
theorem kn_tcw (N : TopFn K mg "tell_changed_weather" st_tell_changed_weather) (CU : FigOk K mg C) (g_NO_WEATHER_WORD : GV mg "NO_WEATHER_WORD" (.str (Str.ofString "NSW"))) (M : KnM P w K mg base (CXe P w XC) 2 C "take" ["self", "lowest", "highest"] (spTk K C XC)) (kn_tell_weather_word : Known P w K mg base (CXe P w XC) 4 "tell_weather_word" ["figures"] (spTellS K C XC tlWx)) : Known P w K mg base (CXe P w XC) 5 "tell_changed_weather" ["figures"] (spTell K C XC tlChWx) := by
  obtain ⟨ft, fdt, me_take, bc_take, gc_take⟩ := M.ex
  refine known_of N (fun _ _ _ _ _ _ us hl => match us, hl with | [_], _ => rfl) fun f fd Fu => ?_
  refine Fu.okE sc_tell_changed_weather (fun vs H Q E h => ?_) ?_
  · obtain ⟨nl, ns, p, l, rfl, _⟩ := h
    rfl
  · rintro X outer cdv A s H vs Q E hr h rfl L
    obtain ⟨nl, ns, p, l, rfl, fa, r1, r2⟩ := h
    refine ⟨_, (pss_cons (ps_set (i := 1) sc_tell_changed_weather.nd rfl (by first | exact Or.inl rfl | exact Or.inr rfl) (pe_meth (pv 0) CU.cl me_take gc_take (hr.mono (by decide)) bc_take .nil (passes_on L) (pa_cons pe_int (pa_cons pe_int pa_nil))))
      (pss_one (ps_ret (pe_ifExp (pt_cmpR op_eq (pv 1) pe_int (nomark _)) (pe_lst (pa_cons (pe_gv g_NO_WEATHER_WORD (by rfl)) pa_nil)) (pe_lst (pa_cons (pe_kn kn_tell_weather_word (hr.mono (by decide)) rfl (passes_on L) (pa_cons (pv 0) pa_nil)) pa_nil)))))), ?_⟩
    unfold tlChWx at r1 r2
    refine tk_do (lo := 0) (hi := 1) fa rfl (fun _ h => h) (fun _ h => h) (fun e => r1 (by rw [e]; rfl)) (fun n l1 e1 _ h1 H1 b1 f1 => ?_)
    rw [e1] at r1 r2
    simp only [Option.bind_some] at r1 r2
    refine ⟨_, rfl, rfl, _, rfl, ?_⟩
    rw [dec_intV, show decide ((n : Int) = 0) = decide (n = 0) from by rw [Bool.eq_iff_iff]; simp]
    refine iteB (fun e => ?_) (fun e => ?_)
    · rw [if_pos (of_decide_eq_true e)] at r2
      refine lst1 (t := Kwc.text "NSW") (fun R h => ?_) b1 f1 (r2 _ _ rfl)
      show R (.str (Str.ofString "NSW")) H1
      rw [ofS "NSW"]; exact h
    · rw [if_neg (of_decide_eq_false e)] at r1 r2
      refine ⟨_, rfl, nl, ns, p, l1, rfl, f1, fun e => r1 (by rw [e]; rfl), fun t r e H2 b2 f2 => ?_⟩
      rw [e] at r2
      exact ⟨(by show 1 ≤ sizeLine; decide), fin_new (ws := [strV t]) (b1.trans b2) f2 (r2 [t] r rfl)⟩
abbrev st_tell_changed_wind : Stmt := top 78
theorem sc_tell_changed_wind : FnScope ["figures"] ["figures"] (defScope st_tell_changed_wind) := ⟨rfl, rfl, rfl, by decide +kernel, rfl, by decide +kernel, by decide +kernel⟩
theorem kn_tchwind (N : TopFn K mg "tell_changed_wind" st_tell_changed_wind) (CU : FigOk K mg C) (M : KnM P w K mg base (CXe P w XC) 2 C "take" ["self", "lowest", "highest"] (spTk K C XC)) (kn_tell_wind : Known P w K mg base (CXe P w XC) 4 "tell_wind" ["figures"] (spTell K C XC (fun l => (fitWind l).map fun w => ([wText w.1], w.2)))) : Known P w K mg base (CXe P w XC) 5 "tell_changed_wind" ["figures"] (spTell K C XC tlChWind) := by
  obtain ⟨ft, fdt, me_take, bc_take, gc_take⟩ := M.ex
  refine known_of N (fun _ _ _ _ _ _ us hl => match us, hl with | [_], _ => rfl) fun f fd Fu => ?_
  refine Fu.okE sc_tell_changed_wind (fun vs H Q E h => ?_) ?_
  · obtain ⟨nl, ns, p, l, rfl, _⟩ := h
    rfl
  · rintro X outer cdv A s H vs Q E hr h rfl L
    obtain ⟨nl, ns, p, l, rfl, fa, r1, r2⟩ := h
    refine ⟨_, (pss_one (ps_ret (pe_ifExp (pt_cmpR op_eq (pe_meth (pv 0) CU.cl me_take gc_take (hr.mono (by decide)) bc_take .nil (passes_on L) (pa_cons pe_int (pa_cons pe_int pa_nil))) pe_int (nomark _)) (pe_lst pa_nil) (pe_kn kn_tell_wind (hr.mono (by decide)) rfl (passes_on L) (pa_cons (pv 0) pa_nil))))), ?_⟩
    unfold tlChWind at r1 r2
    refine tk_do (lo := 0) (hi := 1) fa rfl (fun _ h => h) (fun _ h => h) (fun e => r1 (by rw [e]; rfl)) (fun n l1 e1 _ h1 H1 b1 f1 => ?_)
    rw [e1] at r1 r2
    simp only [Option.bind_some] at r1 r2
    refine ⟨rfl, _, rfl, ?_⟩
    rw [dec_intV, show decide ((n : Int) = 0) = decide (n = 0) from by rw [Bool.eq_iff_iff]; simp]
    refine iteB (fun e => ?_) (fun e => ?_)
    · rw [if_pos (of_decide_eq_true e)] at r2
      exact lst0 b1 f1 (r2 _ _ rfl)
    · rw [if_neg (of_decide_eq_false e)] at r1 r2
      exact ⟨_, rfl, nl, ns, p, l1, rfl, f1, r1, fun ws r e H2 q b2 f2 hq hq2 => r2 ws r e H2 q (b1.trans b2) f2 (b1.free hq (f1.new hq)) hq2⟩
abbrev st_told_if_any : Stmt := top 77
theorem sc_told_if_any : FnScope ["figures", "teller"] ["figures", "teller"] (defScope st_told_if_any) := ⟨rfl, rfl, rfl, by decide +kernel, rfl, by decide +kernel, by decide +kernel⟩
def spToldAny (P : Program) (w : World) (K : PySem.W.Frag) (mg : Str → Option Value) (base : Heap) (C XC : Addr) : Sp := fun vs H Q E => ∃ nl ns p l ft f, vs = [.ref p, .ref ft] ∧ FigAt K C nl ns H p l ∧
  (PySem.W.keepIn K (.ref ft) = true ∧ ∃ (k : Nat) (fd : FuncData) (ps : List Str), FnOk P w K mg base (CXe P w XC) k ft fd ps (spTell K C XC f) ∧ k ≤ 9 ∧ Binds K fd ps []) ∧ (told f l = none → ∀ H', E (.ref XC) none H') ∧
  (∀ ws r, told f l = some (ws, r) → ∀ H' q, But p H H' → FigAt K C nl ns H' p r → H q = none → H' q = some (.lst (ws.map strV)) → Q (.ref q) H')
theorem kn_told (N : TopFn K mg "told_if_any" st_told_if_any) (CU : FigOk K mg C) (g_NOT_TOLD : GV mg "NOT_TOLD" (.int (-1))) (M : KnM P w K mg base CX0 2 C "passes" ["self", "number"] (spPasses K C)) : Known P w K mg base (CXe P w XC) 10 "told_if_any" ["figures", "teller"] (spToldAny P w K mg base C XC) := by
  obtain ⟨ft, fdt, me_passes, bc_passes, gc_passes⟩ := M.ex
  refine known_of N (fun _ _ _ _ _ _ us hl => match us, hl with | [_, _], _ => rfl) fun f fd Fu => ?_
  refine Fu.okE sc_told_if_any (fun vs H Q E h => ?_) ?_
  · obtain ⟨nl, ns, p, l, ft, f, rfl, _⟩ := h
    rfl
  · rintro X outer cdv A s H vs Q E hr h rfl L
    obtain ⟨nl, ns, p, l, tf, g, rfl, fa, ⟨rkp, rk, rfd, rps, rok, rk9, rb⟩, r1, r2⟩ := h
    refine ⟨_, (pss_one (ps_ret (pe_ifExp (pt_val (pe_meth (pv 0) CU.cl me_passes gc_passes (hr.mono (by decide)) bc_passes .nil pass0 (pa_cons (pe_gv g_NOT_TOLD (by rfl)) pa_nil))) (pe_lst pa_nil) (pe_callV (i := 1) rfl (Or.inl rfl) (passes_on L) (pa_cons (pv 0) pa_nil))))), ?_⟩
    unfold told at r1 r2
    obtain ⟨dx, fs, ho, hno⟩ := fa.obj
    refine ⟨_, rfl, p, dx, fs, rfl, ho, hno _ (by decide +kernel) (by decide +kernel), nl, ns, p, l, -1, rfl, fa, fun e H1 b1 f1 => ?_, fun e => ?_⟩
    · rw [if_pos e] at r2
      exact ⟨_, rfl, iteT (lst0 b1 f1 (r2 _ _ rfl))⟩
    · rw [if_neg e] at r1 r2
      refine ⟨_, rfl, iteF ?_⟩
      refine ⟨tf, spTell K C XC g, rfl, ⟨⟨rk, rfd, rps, rok, hr.mono rk9, rb⟩, rkp⟩, ?_⟩
      exact ⟨_, rfl, nl, ns, p, l, rfl, fa, r1, r2⟩
end
end My
end
section
set_option Elab.async false
set_option linter.all false
set_option maxRecDepth 100000
set_option maxHeartbeats 4000000
namespace My
open PySem PySem.Spec PyProof.Rows L2 TL
open Kwc (From)
def Low (ws : List T) : Prop := ∀ t ∈ ws, ∀ c ∈ t, c < 1000
theorem dig_lt : ∀ (k n : Nat), ∀ c ∈ Kwc.digits k n, c < 1000
  | 0, n, c, h => by cases h
  | k + 1, n, c, h => by
    rw [Kwc.digits] at h
    rcases List.mem_append.mp h with z | z
    · exact dig_lt k _ c z
    · have : c = 48 + n % 10 := by simpa using z
      omega
theorem low_app {a b : T} (ha : ∀ c ∈ a, c < 1000) (hb : ∀ c ∈ b, c < 1000) : ∀ c ∈ a ++ b, c < 1000 := fun c h => (List.mem_append.mp h).elim (ha c) (hb c)
theorem low_of {a : T} (h : a.all (fun c => decide (c < 1000)) = true) : ∀ c ∈ a, c < 1000 := fun c hc => by simpa using List.all_eq_true.mp h c hc
theorem low_amt : ∀ a : Nat, a < 5 → (Kwc.nameOf Kwc.amounts a).all (fun c => decide (c < 1000)) = true := by decide
theorem low_ck : ∀ a : Nat, a < 3 → (Kwc.nameOf Kwc.cloudKinds a).all (fun c => decide (c < 1000)) = true := by decide
theorem low_sight (n : Nat) : ∀ c ∈ Kwc.sightWord n, c < 1000 := by
  unfold Kwc.sightWord
  split
  · exact low_of (by decide)
  · exact dig_lt _ _
theorem layers_rng : ∀ {h : Nat} {cs : List Kwc.Cloud}, Kwc.okLayers h cs = true → ∀ c ∈ cs, rngC c = true
  | _, [], _ => fun c hc => by cases hc
  | h, c :: cs, ok => by
    rw [Kwc.okLayers] at ok
    simp only [Bool.and_eq_true] at ok
    intro x hx
    rcases List.mem_cons.mp hx with z | z
    · subst z
      have := ok.1
      simp at this
      simp [rngC]; omega
    · exact layers_rng ok.2 x z
theorem low_sky {s : Kwc.Sky} (h : Kwc.okSky s = true) : Low (Kwc.skyWords s) ∧ (Kwc.skyWords s).length ≤ 4 := by
  cases s with
  | clear => exact ⟨fun t ht => by have : t = Kwc.text "NSC" := by simpa [Kwc.skyWords] using ht
                                   subst this; exact low_of (by decide), by decide⟩
  | up n => exact ⟨fun t ht => by have : t = Kwc.text "VV" ++ Kwc.digits 3 n := by simpa [Kwc.skyWords] using ht
                                  subst this; exact low_app (low_of (by decide)) (dig_lt _ _), by show 1 ≤ 4; decide⟩
  | layers cs =>
    obtain ⟨_, h2, h3⟩ := okSky_layers h
    refine ⟨fun t ht => ?_, by show (cs.map _).length ≤ 4; rw [List.length_map]; exact h2⟩
    obtain ⟨c, hc, rfl⟩ := List.mem_map.mp (show t ∈ cs.map Kwc.cloudWord from ht)
    obtain ⟨r1, r2, r3, r4⟩ := rngC_parts (layers_rng h3 c hc)
    unfold Kwc.cloudWord
    exact low_app (low_app (low_of (low_amt _ (by omega))) (dig_lt _ _)) (low_of (low_ck _ (by omega)))
theorem sky_low {l r : List Int} {ws : List T} (h : tlSky l = some (ws, r)) : Low ws ∧ ws.length ≤ 4 := by
  obtain ⟨x, _, o, rfl⟩ := sky_tells.inv h
  exact low_sky o
theorem sightL_low {l r : List Int} {ws : List T} (h : tlSightL l = some (ws, r)) : Low ws ∧ ws.length ≤ 1 := by
  obtain ⟨x, _, o, rfl⟩ := sightL_tells.inv h
  exact ⟨fun t ht => by have : t = Kwc.sightWord x := by simpa using ht
                        subst this; exact low_sight x, Nat.le_refl 1⟩
theorem told_or {f : From (List T)} {l r : List Int} {ws : List T} (h : told f l = some (ws, r)) : ws = [] ∨ f l = some (ws, r) := by
  unfold told at h
  split at h
  · cases h; exact .inl rfl
  · exact .inr h
theorem clock_len {mark : T} {l r : List Int} {ws : List T} (h : tlClock mark l = some (ws, r)) : ws.length ≤ 1 := by
  obtain ⟨x, _, o, rfl⟩ := (clock_tells mark).inv h
  exact Nat.le_refl 1
theorem chwx_len {l r : List Int} {ws : List T} (h : tlChWx l = some (ws, r)) : ws.length ≤ 1 := by
  obtain ⟨x, _, o, rfl⟩ := chwx_tells.inv h
  simp at o
  split
  · decide
  · rw [List.length_map]; exact o.1
theorem chwind_len {l r : List Int} {ws : List T} (h : tlChWind l = some (ws, r)) : ws.length ≤ 1 := by
  obtain ⟨x, _, o, rfl⟩ := chwind_tells.inv h
  cases x <;> simp [Kwc.listOf]
theorem told_len {f : From (List T)} {l r : List Int} {ws : List T} {n : Nat} (h : told f l = some (ws, r)) (k : f l = some (ws, r) → ws.length ≤ n) : ws.length ≤ n := by
  rcases told_or h with z | z
  · rw [z]; exact Nat.zero_le _
  · exact k z
theorem weather_len {l r : List Int} {ws : List T} (h : tlWeather l = some (ws, r)) : ws.length ≤ 3 := by
  obtain ⟨x, _, o, rfl⟩ := weather_tells.inv h
  rw [Bool.and_eq_true, Bool.and_eq_true] at o
  rw [List.length_map]; exact of_decide_eq_true o.1.2
theorem changed_len {l r : List Int} {ws : List T} (h : tlChanged l = some (ws, r)) : ws.length ≤ 7 := by
  unfold tlChanged at h
  simp only [Option.bind_eq_some_iff] at h
  obtain ⟨⟨w, l1⟩, e1, ⟨s, l2⟩, e2, ⟨x, l3⟩, e3, ⟨z, l4⟩, e4, h⟩ := h
  have h1 := chwind_len e1
  have h2 := told_len e2 fun q => (sightL_low q).2
  have h3 := told_len e3 chwx_len
  have h4 := told_len e4 fun q => (sky_low q).2
  split at h
  · split at h
    · cases h; simp only [List.length_append]; omega
    · cases h
  · cases h
theorem change_len {l r : List Int} {ws : List T} (h : tlChange l = some (ws, r)) : ws.length ≤ 10 := by
  unfold tlChange at h
  simp only [Option.bind_eq_some_iff, Option.map_eq_some_iff] at h
  obtain ⟨⟨m, l1⟩, e1, ⟨a, l2⟩, e2, ⟨t, l3⟩, e3, ⟨c, l4⟩, e4, h⟩ := h
  have h1 := told_len e2 clock_len
  have h2 := told_len e3 clock_len
  have h3 := changed_len e4
  cases h
  simp only [List.length_append, List.length_cons, List.length_nil]; omega
theorem lay_low : ∀ {ks : List T}, Low ks → PyData.canLayAll0 (ks.map fun k => PyData.str (S k)) = true ∧ PyData.depthAll (ks.map fun k => PyData.str (S k)) = 0
  | [], _ => ⟨rfl, rfl⟩
  | k :: ks, h => by
    obtain ⟨h1, h2⟩ := lay_low (ks := ks) fun x hx => h x (by simp [hx])
    rw [List.map_cons, PyData.canLayAll0.eq_2, PyData.depthAll.eq_2, h1, h2]
    have ok : PyData.strOk (S k) = true := by
      unfold PyData.strOk
      have : ∀ c ∈ k, decide (c < 1114112) = true := fun c hc => decide_eq_true (Nat.lt_trans (h k (by simp) c hc) (by decide))
      show (k.toArray.all fun x => decide (x < 1114112)) = true
      simpa using this
    have : PyData.canLay0 (.str (S k)) = true := by simp only [PyData.canLay0]; exact ok
    rw [this]
    exact ⟨rfl, rfl⟩
theorem shaped_low {ks : List T} (h : Low ks) : SeqAt.shaped (.list (ks.map fun k => PyData.str (S k))) = true := by
  obtain ⟨h1, h2⟩ := lay_low h
  unfold SeqAt.shaped
  rw [PyData.depth.eq_1, h2]
  have : PyData.canLay0 (.list (ks.map fun k => PyData.str (S k))) = true := by simp only [PyData.canLay0]; exact h1
  rw [this]
  rfl
theorem text_low {s : String} (h : (Kwc.text s).all (fun c => decide (c < 1000)) = true) : Low [Kwc.text s] := fun t ht => by
  have : t = Kwc.text s := by simpa using ht
  subst this; exact low_of h
theorem cmp_one {K : PySem.W.Frag} {H : Hp} {p : Addr} {ks : List T} {s : String} (hk : H p = some (.lst (ks.map strV))) (lo : Low ks) (hs : (Kwc.text s).all (fun c => decide (c < 1000)) = true) {H1 : Hp} {t : Addr} (s1 : Same H H1) (ht : H1 t = some (.lst [V.str (Str.ofString s)])) :
    Dp K H1 (.ref p) (.list (ks.map fun k => PyData.str (S k))) ∧ Dp K H1 (.ref t) (.list ([Kwc.text s].map fun k => PyData.str (S k))) ∧ SeqAt.shaped (.list (ks.map fun k => PyData.str (S k))) = true ∧ SeqAt.shaped (.list ([Kwc.text s].map fun k => PyData.str (S k))) = true ∧
    PyData.eqv (.list (ks.map fun k => PyData.str (S k))) (.list ([Kwc.text s].map fun k => PyData.str (S k))) = decide (ks = [Kwc.text s]) := by
  have ht' : SqL K H1 t ([Kwc.text s].map strV) := SqL.of (by rw [ht, ofS s]; rfl)
  refine ⟨.lst (SqL.of (s1 _ _ hk)) (dp_strs ks), .lst ht' (dp_strs [Kwc.text s]), shaped_low lo, shaped_low (text_low hs), ?_⟩
  have : PyData.eqv (.list (ks.map fun k => PyData.str (S k))) (.list ([Kwc.text s].map fun k => PyData.str (S k))) = (ks == [Kwc.text s]) := eqv_strs ks [Kwc.text s]
  rw [this, Bool.eq_iff_iff]; simp
section
variable {P : Program} {w : World} {K : PySem.W.Frag} {mg : Str → Option Value} {base : Heap} {C XC : Addr} {σ : L2.St} {H : Hp} {Q : VK} {E : XK}
theorem cat_w {a b : Addr} {xs ys : List T} (ha : H a = some (.lst (xs.map strV))) (hb : H b = some (.lst (ys.map strV))) (hl : xs.length + ys.length ≤ 500) (k : ∀ H' u, H u = none → Same H H' → H' u = some (.lst ((xs ++ ys).map strV)) → Q (.ref u) H') : rCat (.ref a) (.ref b) H Q :=
  ⟨a, b, _, _, rfl, rfl, ha, hb, small500 (by rw [List.length_map, List.length_map]; exact hl), fun u hu => k _ u hu (same_new (Same.refl H) hu) (by rw [upd_same, List.map_append])⟩
theorem Known.tl {k : Nat} {x : Str} {ps : List Str} {f : From (List T)} (N : Known P w K mg base (CXe P w XC) k x ps (spTell K C XC f)) (hk : k ≤ 9) : ∃ ft, GV mg x (.ref ft) ∧ (PySem.W.keepIn K (.ref ft) = true ∧ ∃ (k : Nat) (fd : FuncData) (ps : List Str), FnOk P w K mg base (CXe P w XC) k ft fd ps (spTell K C XC f) ∧ k ≤ 9 ∧ Binds K fd ps []) := by
  obtain ⟨g, fd, m, kp, b, G⟩ := N.ex
  exact ⟨g, ⟨_, m, rfl⟩, kp, k, fd, ps, G, hk, b⟩
theorem told_do {nl : Addr} {ns : List Int} {p ft : Addr} {l : List Int} {f : From (List T)} {i : Nat} (fa : FigAt K C nl ns H p l) (hσ : σ[i]? = some (some (.ref p))) (hf : PySem.W.keepIn K (.ref ft) = true ∧ ∃ (k : Nat) (fd : FuncData) (ps : List Str), FnOk P w K mg base (CXe P w XC) k ft fd ps (spTell K C XC f) ∧ k ≤ 9 ∧ Binds K fd ps []) (kn : told f l = none → ∀ H', E (.ref XC) none H')
    (ks : ∀ ws r, told f l = some (ws, r) → ∀ H' q, But p H H' → FigAt K C nl ns H' p r → H q = none → H' q = some (.lst (ws.map strV)) → Q (.ref q) H') : tCall (spToldAny P w K mg base C XC) [] E (tCons (tVar i) (tCons (tC (.ref ft)) tNil)) σ H Q :=
  ⟨_, hσ, nl, ns, p, l, ft, f, rfl, fa, hf, kn, ks⟩
abbrev st_tell_changed : Stmt := top 79
theorem sc_tell_changed : FnScope ["figures", "wind", "sight", "weather", "sky", "words"] ["figures"] (defScope st_tell_changed) := ⟨rfl, rfl, rfl, by decide +kernel, rfl, by decide +kernel, by decide +kernel⟩
theorem kn_tchanged (N : TopFn K mg "tell_changed" st_tell_changed) (B : Bt mg) (g_CAVOK_WORD : GV mg "CAVOK_WORD" (.str (Str.ofString "CAVOK"))) (kn_insist : Known P w K mg base (CXe P w XC) 1 "insist" ["holds"] (spInsist XC)) (kn_tell_changed_wind : Known P w K mg base (CXe P w XC) 5 "tell_changed_wind" ["figures"] (spTell K C XC tlChWind)) (kn_told_if_any : Known P w K mg base (CXe P w XC) 10 "told_if_any" ["figures", "teller"] (spToldAny P w K mg base C XC))
    (kn_tell_sight : Known P w K mg base (CXe P w XC) 3 "tell_sight" ["figures"] (spTell K C XC tlSightL)) (kn_tell_changed_weather : Known P w K mg base (CXe P w XC) 5 "tell_changed_weather" ["figures"] (spTell K C XC tlChWx)) (kn_tell_sky : Known P w K mg base (CXe P w XC) 4 "tell_sky" ["figures"] (spTell K C XC tlSky)) : Known P w K mg base (CXe P w XC) 11 "tell_changed" ["figures"] (spTell K C XC tlChanged) := by
  obtain ⟨f1, gf_tell_sight, t1⟩ := kn_tell_sight.tl (by decide)
  obtain ⟨f2, gf_tell_changed_weather, t2⟩ := kn_tell_changed_weather.tl (by decide)
  obtain ⟨f3, gf_tell_sky, t3⟩ := kn_tell_sky.tl (by decide)
  refine known_of N (fun _ _ _ _ _ _ us hl => match us, hl with | [_], _ => rfl) fun f fd Fu => ?_
  refine Fu.okE sc_tell_changed (fun vs H Q E h => ?_) ?_
  · obtain ⟨nl, ns, p, l, rfl, _⟩ := h
    rfl
  · rintro X outer cdv A s H vs Q E hr h rfl L
    obtain ⟨nl, ns, p, l, rfl, fa, r1, r2⟩ := h
    refine ⟨_, (pss_cons (ps_set (i := 1) sc_tell_changed.nd rfl (by first | exact Or.inl rfl | exact Or.inr rfl) (pe_kn kn_tell_changed_wind (hr.mono (by decide)) rfl (passes_on L) (pa_cons (pv 0) pa_nil)))
      (pss_cons (ps_set (i := 2) sc_tell_changed.nd rfl (by first | exact Or.inl rfl | exact Or.inr rfl) (pe_kn kn_told_if_any (hr.mono (by decide)) rfl (passes_on L) (pa_cons (pv 0) (pa_cons (pe_gv gf_tell_sight (by rfl)) pa_nil))))
      (pss_cons (ps_set (i := 3) sc_tell_changed.nd rfl (by first | exact Or.inl rfl | exact Or.inr rfl) (pe_kn kn_told_if_any (hr.mono (by decide)) rfl (passes_on L) (pa_cons (pv 0) (pa_cons (pe_gv gf_tell_changed_weather (by rfl)) pa_nil))))
      (pss_cons (ps_set (i := 4) sc_tell_changed.nd rfl (by first | exact Or.inl rfl | exact Or.inr rfl) (pe_kn kn_told_if_any (hr.mono (by decide)) rfl (passes_on L) (pa_cons (pv 0) (pa_cons (pe_gv gf_tell_sky (by rfl)) pa_nil))))
      (pss_cons (ps_expr (pe_kn kn_insist (hr.mono (by decide)) rfl (passes_on L) (pa_cons (pe_or (pe_cmpR (op_neD hr.units) (pv 2) (pe_lst (pa_cons (pe_gv g_CAVOK_WORD (by rfl)) pa_nil)) (nomark _)) (pe_one (pe_cmpR op_eq (pe_callB call_len_seq (by rfl) B.len PySem.boot_len (pa_cons (pe_op op_cat (pv 3) (pv 4)) pa_nil)) pe_int (nomark _)))) pa_nil)))
      (pss_cons (ps_set (i := 5) sc_tell_changed.nd rfl (by first | exact Or.inl rfl | exact Or.inr rfl) (pe_op op_cat (pe_op op_cat (pe_op op_cat (pv 1) (pv 2)) (pv 3)) (pv 4)))
      (pss_cons (ps_expr (pe_kn kn_insist (hr.mono (by decide)) rfl (passes_on L) (pa_cons (pe_cmpR op_gt (pe_callB call_len_seq (by rfl) B.len PySem.boot_len (pa_cons (pv 5) pa_nil)) pe_int (nomark _)) pa_nil)))
      (pss_one (ps_ret (pv 5)))))))))), ?_⟩
    unfold tlChanged at r1 r2
    refine tell_do (f := tlChWind) fa rfl (fun e => r1 (by rw [e]; rfl)) (fun w1 l1 e1 H1 q1 b1 g1 n1 h1 => ?_)
    rw [e1] at r1 r2
    simp only [Option.bind_some] at r1 r2
    refine told_do (f := tlSightL) g1 rfl t1 (fun e => r1 (by rw [e]; rfl)) (fun w2 l2 e2 H2 q2 b2 g2 n2 h2 => ?_)
    rw [e2] at r1 r2
    simp only [Option.bind_some] at r1 r2
    refine told_do (f := tlChWx) g2 rfl t2 (fun e => r1 (by rw [e]; rfl)) (fun w3 l3 e3 H3 q3 b3 g3 n3 h3 => ?_)
    rw [e3] at r1 r2
    simp only [Option.bind_some] at r1 r2
    refine told_do (f := tlSky) g3 rfl t3 (fun e => r1 (by rw [e]; rfl)) (fun w4 l4 e4 H4 q4 b4 g4 n4 h4 => ?_)
    rw [e4] at r1 r2
    simp only [Option.bind_some] at r1 r2
    have lw1 := chwind_len e1
    have lw2 := told_len e2 fun q => (sightL_low q).2
    have lw3 := told_len e3 chwx_len
    have lw4 := told_len e4 fun q => (sky_low q).2
    have lo2 : Low w2 := by
      rcases told_or e2 with z | z
      · rw [z]; intro t ht; cases ht
      · exact (sightL_low z).1
    have h1' := b4 _ _ (b3 _ _ (b2 _ _ h1 (g1.ne h1)) (g2.ne (b2 _ _ h1 (g1.ne h1)))) (g3.ne (b3 _ _ (b2 _ _ h1 (g1.ne h1)) (g2.ne (b2 _ _ h1 (g1.ne h1)))))
    have h2' := b4 _ _ (b3 _ _ h2 (g2.ne h2)) (g3.ne (b3 _ _ h2 (g2.ne h2)))
    have h3' := b4 _ _ h3 (g3.ne h3)
    have bb := ((b1.trans b2).trans b3).trans b4
    dsimp only [gName, tSeq, tDrop]
    refine ins_do' (b := decide (w2 ≠ [cavT]) || decide ((w3 ++ w4).length = 0)) (fun R hR => ?_) (fun e => r1 ?_) (fun e H5 s5 => ?_)
    · refine ⟨_, rfl, (by show 1 ≤ sizeLine; decide), fun u hu => ?_⟩
      have s5 : Same H4 (upd H4 u (.lst [V.str (Str.ofString "CAVOK")])) := same_new (Same.refl _) hu
      obtain ⟨c1, c2, c3, c4, c5⟩ := cmp_one (K := K) (s := "CAVOK") h2' lo2 (by decide) s5 upd_same
      refine ⟨_, _, c1, c2, c3, c4, _, rfl, ?_⟩
      rw [c5]
      have ed : (!decide (w2 = [cavT])) = decide (w2 ≠ [cavT]) := by simp
      rw [show Kwc.text "CAVOK" = cavT from rfl, ed]
      refine iteB (fun e => ?_) (fun e => ?_)
      · rw [e, Bool.true_or] at hR
        exact hR _ s5
      · rw [e, Bool.false_or] at hR
        refine ⟨_, rfl, _, rfl, cat_w (s5 _ _ h3') (s5 _ _ h4) (by omega) fun H6 v hv s6 hv6 => ?_⟩
        refine ⟨v, _, rfl, .inl (SqL.of hv6), rfl, ?_⟩
        have : decide (V.int (((List.map strV (w3 ++ w4)).length : Nat) : Int) = V.int 0) = decide ((w3 ++ w4).length = 0) := by rw [dec_intV, List.length_map, Bool.eq_iff_iff, decide_eq_true_iff, decide_eq_true_iff]; omega
        rw [this]
        exact hR _ (s5.trans s6)
    · rw [if_neg]
      intro z
      rcases z with z | z
      · rw [decide_eq_true z] at e; cases e
      · rw [decide_eq_true z, Bool.or_true] at e; cases e
    · have e' : w2 ≠ [cavT] ∨ (w3 ++ w4).length = 0 := by
        rw [Bool.or_eq_true] at e
        exact e.elim (fun z => .inl (of_decide_eq_true z)) (fun z => .inr (of_decide_eq_true z))
      rw [if_pos e'] at r1 r2
      refine ⟨_, rfl, _, rfl, cat_w (s5 _ _ h1') (s5 _ _ h2') (by omega) fun H6 v6 hv6 s6 u6 => ?_⟩
      refine ⟨_, rfl, cat_w u6 (s6 _ _ (s5 _ _ h3')) (by rw [List.length_append]; omega) fun H7 v7 hv7 s7 u7 => ?_⟩
      refine ⟨_, rfl, cat_w u7 (s7 _ _ (s6 _ _ (s5 _ _ h4))) (by simp only [List.length_append]; omega) fun H8 v8 hv8 s8 u8 => ?_⟩
      dsimp only [gName]
      have s58 := ((s5.trans s6).trans s7).trans s8
      refine ins_do' (b := decide (0 < (w1 ++ w2 ++ w3 ++ w4).length)) (fun R hR => ?_) (fun e => r1 ?_) (fun e H9 s9 => ?_)
      · refine ⟨_, rfl, v8, _, rfl, .inl (SqL.of u8), _, _, rfl, rfl, ?_⟩
        have : decide ((0 : Int) < (((List.map strV (w1 ++ w2 ++ w3 ++ w4)).length : Nat) : Int)) = decide (0 < (w1 ++ w2 ++ w3 ++ w4).length) := by rw [List.length_map, Bool.eq_iff_iff, decide_eq_true_iff, decide_eq_true_iff]; omega
        show R (.bl (decide ((0 : Int) < (((List.map strV (w1 ++ w2 ++ w3 ++ w4)).length : Nat) : Int)))) H8
        rw [this]
        exact hR _ (Same.refl _)
      · rw [if_neg (of_decide_eq_false e)]
      · rw [if_pos (of_decide_eq_true e)] at r2
        have hn : H v8 = none := by
          have z7 : H7 v8 = none := hv8
          have : H4 v8 = none := ((s5.trans s6).trans s7).free z7
          exact bb.free this (g4.new this)
        exact ⟨_, rfl, r2 _ l4 rfl H9 v8 (bb.trans (But.of (s58.trans s9))) (g4.same (s58.trans s9)) hn (s9 _ _ u8)⟩
end
end My
end
section
set_option Elab.async false
set_option linter.all false
set_option maxRecDepth 100000
set_option maxHeartbeats 4000000
namespace My
open PySem PySem.Spec PyProof.Rows L2 TL
open Kwc (From)
abbrev manT : List T := [Kwc.text "BECMG", Kwc.text "TEMPO"]
theorem man_at : ∀ a : Nat, a < 3 → 1 ≤ a → (manT.map strV)[a - 1]? = some (strV (Kwc.text (if a = 1 then "BECMG" else "TEMPO"))) := by
  intro a h1 h2
  match a, h1, h2 with
  | 1, _, _ => rfl
  | 2, _, _ => rfl
def tlChanges : From (List T) := fun l => (tkN 1 3 l).bind fun n => (Kwc.times tlChange n.1 n.2).map fun x => (x.1.flatten, x.2)
theorem flat_le : ∀ (ws : List (List T)) (n : Nat), (∀ x ∈ ws, x.length ≤ n) → ws.flatten.length ≤ n * ws.length
  | [], n, _ => by simp
  | a :: ws, n, h => by
    have i := flat_le ws n fun x hx => h x (.tail _ hx)
    have := h a (.head _)
    rw [List.flatten_cons, List.length_append, List.length_cons, Nat.mul_add]
    omega
theorem times_all {A : Type} {f : From A} {p : A → Prop} (hf : ∀ l x r, f l = some (x, r) → p x) : ∀ (n : Nat) (l : List Int) (xs : List A) (r : List Int), Kwc.times f n l = some (xs, r) → ∀ x ∈ xs, p x
  | 0, l, xs, r, h => by cases h; intro k hk; cases hk
  | n + 1, l, xs, r, h => by
    rw [Kwc.times] at h
    simp only [Option.bind_eq_some_iff, Option.map_eq_some_iff] at h
    obtain ⟨⟨x, l1⟩, e1, ⟨ys, l2⟩, e2, e3⟩ := h
    cases e3
    intro k hk
    rcases List.mem_cons.mp hk with z | z
    · subst z; exact hf _ _ _ e1
    · exact times_all hf n l1 ys _ e2 k z
theorem times_succ {A : Type} (f : From A) (i : Nat) (l : List Int) : Kwc.times f (i + 1) l = (Kwc.times f i l).bind fun x => (f x.2).map fun y => (x.1 ++ [y.1], y.2) := by
  rw [times_add f 1 i l]
  cases Kwc.times f i l with
  | none => rfl
  | some x => simp only [Option.bind_some]; rw [times1]; cases f x.2 <;> rfl
section
variable {P : Program} {w : World} {K : PySem.W.Frag} {mg : Str → Option Value} {base : Heap} {C XC : Addr}
abbrev st_tell_change : Stmt := top 80
theorem sc_tell_change : FnScope ["figures", "manner", "begins", "ends"] ["figures"] (defScope st_tell_change) := ⟨rfl, rfl, rfl, by decide +kernel, rfl, by decide +kernel, by decide +kernel⟩
theorem kn_tchange (N : TopFn K mg "tell_change" st_tell_change) (CU : FigOk K mg C) (B : Bt mg) (gM : TG K mg "MANNERS_OF_CHANGE" manT) (M : KnM P w K mg base (CXe P w XC) 2 C "take" ["self", "lowest", "highest"] (spTk K C XC)) (kn_told_if_any : Known P w K mg base (CXe P w XC) 10 "told_if_any" ["figures", "teller"] (spToldAny P w K mg base C XC))
    (kn_tell_from : Known P w K mg base (CXe P w XC) 4 "tell_from" ["figures"] (spTell K C XC (tlClock (Kwc.text "FM")))) (kn_tell_till : Known P w K mg base (CXe P w XC) 4 "tell_till" ["figures"] (spTell K C XC (tlClock (Kwc.text "TL")))) (kn_tell_changed : Known P w K mg base (CXe P w XC) 11 "tell_changed" ["figures"] (spTell K C XC tlChanged)) : Known P w K mg base (CXe P w XC) 12 "tell_change" ["figures"] (spTell K C XC tlChange) := by
  obtain ⟨ft, fdt, me_take, bc_take, gc_take⟩ := M.ex
  obtain ⟨aM, g_MANNERS_OF_CHANGE, sqM, oM, lM1, lM2, lM3⟩ := gM.get
  obtain ⟨f1, gf_tell_from, t1⟩ := kn_tell_from.tl (by decide)
  obtain ⟨f2, gf_tell_till, t2⟩ := kn_tell_till.tl (by decide)
  refine known_of N (fun _ _ _ _ _ _ us hl => match us, hl with | [_], _ => rfl) fun f fd Fu => ?_
  refine Fu.okE sc_tell_change (fun vs H Q E h => ?_) ?_
  · obtain ⟨nl, ns, p, l, rfl, _⟩ := h
    rfl
  · rintro X outer cdv A s H vs Q E hr h rfl L
    obtain ⟨nl, ns, p, l, rfl, fa, r1, r2⟩ := h
    refine ⟨_, (pss_cons (ps_set (i := 1) sc_tell_change.nd rfl (by first | exact Or.inl rfl | exact Or.inr rfl) (pe_meth (pv 0) CU.cl me_take gc_take (hr.mono (by decide)) bc_take .nil (passes_on L) (pa_cons pe_int (pa_cons (pe_callB call_len_seq (by rfl) B.len PySem.boot_len (pa_cons (pe_gv g_MANNERS_OF_CHANGE (by rfl)) pa_nil)) pa_nil))))
      (pss_cons (ps_set (i := 2) sc_tell_change.nd rfl (by first | exact Or.inl rfl | exact Or.inr rfl) (pe_kn kn_told_if_any (hr.mono (by decide)) rfl (passes_on L) (pa_cons (pv 0) (pa_cons (pe_gv gf_tell_from (by rfl)) pa_nil))))
      (pss_cons (ps_set (i := 3) sc_tell_change.nd rfl (by first | exact Or.inl rfl | exact Or.inr rfl) (pe_kn kn_told_if_any (hr.mono (by decide)) rfl (passes_on L) (pa_cons (pv 0) (pa_cons (pe_gv gf_tell_till (by rfl)) pa_nil))))
      (pss_one (ps_ret (pe_op op_cat (pe_op op_cat (pe_op op_cat (pe_lst (pa_cons (pe_ix ix_tup (pe_gv g_MANNERS_OF_CHANGE (by rfl)) (pe_op op_sub (pv 1) pe_int) (fun _ _ => rfl)) pa_nil)) (pv 2)) (pv 3)) (pe_kn kn_tell_changed (hr.mono (by decide)) rfl (passes_on L) (pa_cons (pv 0) pa_nil)))))))), ?_⟩
    unfold tlChange at r1 r2
    refine tk_do (lo := 1) (hi := 2) fa rfl (fun _ h => h) (fun _ h => ⟨aM, _, rfl, .inr (sqM H), h⟩) (fun e => r1 (by rw [e]; rfl)) (fun m l1 e1 m1 m2 H1 b1 g1 => ?_)
    rw [e1] at r1 r2
    simp only [Option.bind_some] at r1 r2
    refine told_do (f := tlClock (Kwc.text "FM")) g1 rfl t1 (fun e => r1 (by rw [e]; rfl)) (fun w2 l2 e2 H2 q2 b2 g2 n2 h2 => ?_)
    rw [e2] at r1 r2
    simp only [Option.bind_some] at r1 r2
    refine told_do (f := tlClock (Kwc.text "TL")) g2 rfl t2 (fun e => r1 (by rw [e]; rfl)) (fun w3 l3 e3 H3 q3 b3 g3 n3 h3 => ?_)
    rw [e3] at r1 r2
    simp only [Option.bind_some] at r1 r2
    have lw2 := told_len e2 clock_len
    have lw3 := told_len e3 clock_len
    have h2' := b3 _ _ h2 (g2.ne h2)
    have bb := (b1.trans b2).trans b3
    dsimp only [gName, tRet]
    refine ⟨_, rfl, _, _, rfl, rfl, aM, _, _, _, rfl, rfl, sqM H3, at_of (j := m - 1) (show (m : Int) - 1 = ((m - 1 : Nat) : Int) by omega) (man_at m (by omega) m1), ?_⟩
    refine ⟨(by show 1 ≤ sizeLine; decide), fun c hc => ?_⟩
    have s4 : Same H3 (upd H3 c (.lst [strV (Kwc.text (if m = 1 then "BECMG" else "TEMPO"))])) := same_new (Same.refl _) hc
    have hc4 : upd H3 c (.lst [strV (Kwc.text (if m = 1 then "BECMG" else "TEMPO"))]) c = some (.lst ([Kwc.text (if m = 1 then "BECMG" else "TEMPO")].map strV)) := upd_same
    generalize upd H3 c (.lst [strV (Kwc.text (if m = 1 then "BECMG" else "TEMPO"))]) = H4 at s4 hc4 ⊢
    refine ⟨_, rfl, cat_w hc4 (s4 _ _ h2') (by show 1 + _ ≤ 500; omega) fun H5 v5 hv5 s5 u5 => ?_⟩
    refine ⟨_, rfl, cat_w u5 (s5 _ _ (s4 _ _ h3)) (by simp only [List.length_append, List.length_cons, List.length_nil]; omega) fun H6 v6 hv6 s6 u6 => ?_⟩
    have s46 := (s4.trans s5).trans s6
    have g6 := g3.same s46
    refine tell_do (f := tlChanged) g6 rfl (fun e => r1 (by rw [e]; rfl)) (fun w7 l7 e7 H7 q7 b7 g7 n7 h7 => ?_)
    rw [e7] at r2
    simp only [Option.map_some] at r2
    have lw7 := changed_len e7
    refine cat_w (b7 _ _ u6 (g6.ne u6)) h7 (by simp only [List.length_append, List.length_cons, List.length_nil]; omega) fun H8 v8 hv8 s8 u8 => ?_
    have b8 := (bb.trans (But.of s46)).trans b7
    exact r2 _ l7 rfl H8 v8 (b8.trans (But.of s8)) (g7.same s8) (b8.free hv8 (g7.new hv8)) u8
abbrev st_tell_changes : Stmt := top 81
theorem sc_tell_changes : FnScope ["figures", "words", "count", "turn"] ["figures"] (defScope st_tell_changes) := ⟨rfl, rfl, rfl, by decide +kernel, rfl, by decide +kernel, by decide +kernel⟩
theorem kn_tchanges (N : TopFn K mg "tell_changes" st_tell_changes) (CU : FigOk K mg C) (B : Bt mg) (g_MOST_CHANGES : GV mg "MOST_CHANGES" (.int 3)) (M : KnM P w K mg base (CXe P w XC) 2 C "take" ["self", "lowest", "highest"] (spTk K C XC)) (kn_tell_change : Known P w K mg base (CXe P w XC) 12 "tell_change" ["figures"] (spTell K C XC tlChange)) : Known P w K mg base (CXe P w XC) 13 "tell_changes" ["figures"] (spTell K C XC tlChanges) := by
  obtain ⟨ft, fdt, me_take, bc_take, gc_take⟩ := M.ex
  refine known_of N (fun _ _ _ _ _ _ us hl => match us, hl with | [_], _ => rfl) fun f fd Fu => ?_
  refine Fu.okE sc_tell_changes (fun vs H Q E h => ?_) ?_
  · obtain ⟨nl, ns, p, l, rfl, _⟩ := h
    rfl
  · rintro X outer cdv A s H vs Q E hr h rfl L
    obtain ⟨nl, ns, p, l, rfl, fa, r1, r2⟩ := h
    refine ⟨_, (pss_cons (ps_set (i := 1) sc_tell_changes.nd rfl (by first | exact Or.inl rfl | exact Or.inr rfl) (pe_lst pa_nil))
      (pss_cons (ps_set (i := 2) sc_tell_changes.nd rfl (by first | exact Or.inl rfl | exact Or.inr rfl) (pe_meth (pv 0) CU.cl me_take gc_take (hr.mono (by decide)) bc_take .nil (passes_on L) (pa_cons pe_int (pa_cons (pe_gv g_MOST_CHANGES (by rfl)) pa_nil))))
      (pss_cons (ps_for PassesOwn.leaving rfl (pi_range1 (by rfl) B.range (pa_cons (pv 2) pa_nil)) (pg_name (i := 3) sc_tell_changes.nd rfl (Or.inl rfl))
      (pss_one (ps_expr (pe_bm PySem.F.plainAttrs_list PySem.F.slot_list_extend PySem.F.type_list_extend mt_extend (pv 1) (pa_cons (pe_kn kn_tell_change (hr.mono (by decide)) rfl (passes_on L) (pa_cons (pv 0) pa_nil)) pa_nil)))))
      (pss_one (ps_ret (pv 1)))))), ?_⟩
    unfold tlChanges at r1 r2
    refine ⟨(by show 0 ≤ sizeLine; decide), fun q hq => ?_⟩
    have fa1 : FigAt K C nl ns (upd H q (.lst [])) p l := fa.put fa hq
    have b1 : But p H (upd H q (.lst [])) := (But.of (Same.refl _)).put' hq
    have hqp : q ≠ p := fa.new hq
    dsimp only [gName]
    refine tk_do (lo := 1) (hi := 3) fa1 rfl (fun _ h => h) (fun _ h => h) (fun e => r1 (by rw [e]; rfl)) (fun n l1 e1 hn1 hn2 H2 b2 f2 => ?_)
    rw [e1] at r1 r2
    simp only [Option.bind_some] at r1 r2
    have hq2 : H2 q = some (.lst []) := b2 _ _ upd_same hqp
    have nn : ∀ i, i ≤ n → Kwc.times tlChange i l1 = none → ∀ H', E (.ref XC) none H' := fun i hi e => r1 (by
      rw [show n = i + (n - i) from by omega, times_add, e]; rfl)
    dsimp only [gName, tSeq]
    refine ⟨_, rfl, n, rfl, by omega, by omega, ?_⟩
    refine for_range (lo := 0) (n := n) (fun i σ H' => ∃ ws rest v3, σ = [some (.ref p), some (.ref q), some (.int (n : Int)), v3] ∧ But p H H' ∧ FigAt K C nl ns H' p rest ∧ H' q = some (.lst (ws.flatten.map strV)) ∧ Kwc.times tlChange i l1 = some (ws, rest))
      ⟨[], l1, none, rfl, b1.trans b2, f2, hq2, rfl⟩ ?_ ?_
    · rintro i σ H' hi ⟨ws, rest, v3, rfl, b', f', hq', et⟩
      have hwl := times_len _ _ _ _ _ et
      have hfl := flat_le ws 10 (times_all (p := fun x => x.length ≤ 10) (fun l x r h => change_len h) _ _ _ _ et)
      dsimp only [gName]
      refine ⟨_, rfl, .inl ⟨rfl, _, SqL.of hq'⟩, ?_⟩
      dsimp only [tCons, tNil]
      refine tell_do (f := tlChange) f' rfl (fun e => nn (i + 1) (by omega) (by rw [times_succ, et]; simp [e])) (fun w2 l2 e2 H3 q3 b3 g3 n3 h3 => ?_)
      have lw2 := change_len e2
      have hq3 := b3 _ _ hq' hqp
      refine ⟨q, q3, _, _, rfl, rfl, hq3, h3, ?_, ?_⟩
      · rw [List.length_map, List.length_map]; exact small500 (by omega)
      · refine ⟨ws ++ [w2], l2, _, rfl, (b'.trans b3).put' hq, g3.put fa hq, ?_, by rw [times_succ, et]; simp [e2]⟩
        rw [upd_same, List.flatten_append, List.map_append]; simp
    · rintro σ H' ⟨ws, rest, v3, rfl, b', f', hq', et⟩
      rw [et] at r2
      simp only [Option.map_some] at r2
      exact ⟨_, rfl, r2 _ rest rfl H' q b' f' hq hq'⟩
abbrev st_tell_trend : Stmt := top 82
theorem sc_tell_trend : FnScope ["figures", "kind"] ["figures"] (defScope st_tell_trend) := ⟨rfl, rfl, rfl, by decide +kernel, rfl, by decide +kernel, by decide +kernel⟩
theorem kn_ttrend (N : TopFn K mg "tell_trend" st_tell_trend) (CU : FigOk K mg C) (g_NOTHING_MORE : GV mg "NOTHING_MORE" (.int 0)) (g_CHANGES : GV mg "CHANGES" (.int 2)) (g_NO_CHANGE_WORD : GV mg "NO_CHANGE_WORD" (.str (Str.ofString "NOSIG"))) (M : KnM P w K mg base (CXe P w XC) 2 C "take" ["self", "lowest", "highest"] (spTk K C XC)) (kn_tell_changes : Known P w K mg base (CXe P w XC) 13 "tell_changes" ["figures"] (spTell K C XC tlChanges)) : Known P w K mg base (CXe P w XC) 14 "tell_trend" ["figures"] (spTell K C XC tlTrend) := by
  obtain ⟨ft, fdt, me_take, bc_take, gc_take⟩ := M.ex
  refine known_of N (fun _ _ _ _ _ _ us hl => match us, hl with | [_], _ => rfl) fun f fd Fu => ?_
  refine Fu.okE sc_tell_trend (fun vs H Q E h => ?_) ?_
  · obtain ⟨nl, ns, p, l, rfl, _⟩ := h
    rfl
  · rintro X outer cdv A s H vs Q E hr h rfl L
    obtain ⟨nl, ns, p, l, rfl, fa, r1, r2⟩ := h
    refine ⟨_, (pss_cons (ps_set (i := 1) sc_tell_trend.nd rfl (by first | exact Or.inl rfl | exact Or.inr rfl) (pe_meth (pv 0) CU.cl me_take gc_take (hr.mono (by decide)) bc_take .nil (passes_on L) (pa_cons (pe_gv g_NOTHING_MORE (by rfl)) (pa_cons (pe_gv g_CHANGES (by rfl)) pa_nil))))
      (pss_cons (ps_if (pt_cmpR op_eq (pv 1) (pe_gv g_CHANGES (by rfl)) (nomark _))
      (pss_one (ps_ret (pe_kn kn_tell_changes (hr.mono (by decide)) rfl (passes_on L) (pa_cons (pv 0) pa_nil))))
      pss_nil)
      (pss_cons (ps_expr (pe_meth (pv 0) CU.cl me_take gc_take (hr.mono (by decide)) bc_take .nil (passes_on L) (pa_cons pe_int (pa_cons pe_int pa_nil))))
      (pss_one (ps_ret (pe_ifExp (pt_cmpR op_eq (pv 1) (pe_gv g_NOTHING_MORE (by rfl)) (nomark _)) (pe_lst pa_nil) (pe_lst (pa_cons (pe_gv g_NO_CHANGE_WORD (by rfl)) pa_nil)))))))), ?_⟩
    unfold tlTrend at r1 r2
    refine tk_do (lo := 0) (hi := 2) fa rfl (fun _ h => h) (fun _ h => h) (fun e => r1 (by rw [e]; rfl)) (fun k l1 e1 _ hk2 H1 b1 g1 => ?_)
    rw [e1] at r1 r2
    simp only [Option.bind_some] at r1 r2
    dsimp only [gName]
    refine ifs_do (c := decide (k = 2)) (fun R h => ⟨_, rfl, rfl, _, rfl, by rw [dec_intV, show decide ((k : Int) = 2) = decide (k = 2) from by rw [Bool.eq_iff_iff]; simp; omega]; exact h⟩) (fun e => ?_) (fun e => ?_)
    · rw [if_pos (of_decide_eq_true e)] at r1 r2
      dsimp only [tRet]
      refine tell_do (f := tlChanges) g1 rfl r1 (fun ws r e H2 q b2 f2 hq hq2 => ?_)
      exact r2 ws r e H2 q (b1.trans b2) f2 (b1.free hq (g1.new hq)) hq2
    · rw [if_neg (of_decide_eq_false e)] at r1 r2
      refine tk_do (lo := 0) (hi := 0) g1 rfl (fun _ h => h) (fun _ h => h) (fun e => r1 (by rw [e]; rfl)) (fun z l2 e2 _ _ H2 b2 g2 => ?_)
      rw [e2] at r2
      simp only [Option.map_some] at r2
      refine ⟨_, rfl, rfl, _, rfl, ?_⟩
      rw [dec_intV, show decide ((k : Int) = 0) = decide (k = 0) from by rw [Bool.eq_iff_iff]; simp]
      refine iteB (fun e => ?_) (fun e => ?_)
      · rw [if_pos (of_decide_eq_true e)] at r2
        exact lst0 (b1.trans b2) g2 (r2 _ _ rfl)
      · rw [if_neg (of_decide_eq_false e)] at r2
        refine lst1 (t := Kwc.text "NOSIG") (fun R h => ?_) (b1.trans b2) g2 (r2 _ _ rfl)
        show R (.str (Str.ofString "NOSIG")) H2
        rw [ofS "NOSIG"]; exact h
end
end My
end
section
set_option Elab.async false
set_option linter.all false
set_option maxRecDepth 100000
set_option maxHeartbeats 4000000
namespace My
open PySem PySem.Spec PyProof.Rows L2 TL
open Kwc (From)
def tlMidF (sw : T) : From (List T) := fun l => (tlWeather l).bind fun x => (tlSky x.2).bind fun z => (tlMid sw x.1 z.1).map fun ms => (ms, z.2)
def spWS (K : PySem.W.Frag) (C XC : Addr) : Sp := fun vs H Q E => ∃ nl ns p l q sw, vs = [.ref p, .ref q] ∧ FigAt K C nl ns H p l ∧ H q = some (.lst ([sw].map strV)) ∧ Low [sw] ∧ (tlMidF sw l = none → ∀ H', E (.ref XC) none H') ∧
  (∀ ws r, tlMidF sw l = some (ws, r) → ∀ H' u, But p H H' → FigAt K C nl ns H' p r → H u = none → H' u = some (.lst (ws.map strV)) → Q (.ref u) H')
theorem mid_len {sw : T} {l r : List Int} {ws : List T} (h : tlMidF sw l = some (ws, r)) : ws.length ≤ 7 := by
  unfold tlMidF at h
  simp only [Option.bind_eq_some_iff, Option.map_eq_some_iff] at h
  obtain ⟨⟨x, l1⟩, e1, ⟨z, l2⟩, e2, ms, e3, h⟩ := h
  cases h
  have h1 := weather_len e1
  have h2 := (sky_low e2).2
  unfold tlMid at e3
  split at e3
  · cases e3; rw [List.length_append]; dsimp only at *; omega
  · split at e3
    · cases e3; decide
    · cases e3
theorem one1_some {f : From T} {l r : List Int} {ws : List T} (h : one1 f l = some (ws, r)) : ∃ t, f l = some (t, r) ∧ ws = [t] := by
  unfold one1 at h
  simp only [Option.map_eq_some_iff] at h
  obtain ⟨⟨t, r'⟩, e, h⟩ := h
  cases h
  exact ⟨t, e, rfl⟩
theorem one1_none {f : From T} {l : List Int} (h : one1 f l = none) : f l = none := by
  unfold one1 at h
  simpa using h
theorem sightL_some {l r : List Int} {ws : List T} (h : tlSightL l = some (ws, r)) : ∃ t, tlSight l = some (t, r) ∧ ws = [t] := one1_some h
theorem ws_len {l r : List Int} {ws : List T} (h : tlWindSector l = some (ws, r)) : ws.length ≤ 2 := by
  obtain ⟨x, _, o, rfl⟩ := ws_tells.inv h
  rw [List.length_cons]
  unfold Kwc.sector
  split
  · decide
  · exact Nat.le_refl 2
theorem trend_len {l r : List Int} {ws : List T} (h : tlTrend l = some (ws, r)) : ws.length ≤ 30 := by
  unfold tlTrend at h
  simp only [Option.bind_eq_some_iff] at h
  obtain ⟨⟨k, l1⟩, e1, h⟩ := h
  split at h
  · simp only [Option.bind_eq_some_iff, Option.map_eq_some_iff] at h
    obtain ⟨⟨n, l2⟩, e2, ⟨xs, l3⟩, e3, h⟩ := h
    cases h
    obtain ⟨y, _, o, z⟩ := (tkN_tells 1 3).inv e2
    have hl := times_len _ _ _ _ _ e3
    have hf := flat_le xs 10 (times_all (p := fun x => x.length ≤ 10) (fun l x r h => change_len h) _ _ _ _ e3)
    have : y = n := z
    subst this
    have : 1 ≤ y ∧ y ≤ 3 := by simpa using o
    show xs.flatten.length ≤ 30
    omega
  · simp only [Option.map_eq_some_iff] at h
    obtain ⟨x, _, h⟩ := h
    cases h
    split <;> simp
def spRep (K : PySem.W.Frag) (C XC : Addr) : Sp := fun vs H Q E => ∃ nl ns p l, vs = [.ref p] ∧ FigAt K C nl ns H p l ∧ (tlReport l = none → ∀ H', E (.ref XC) none H') ∧
  (∀ ws, tlReport l = some ws → ∀ H' q, H' q = some (.lst (ws.map strV)) → Q (.ref q) H')
section
variable {P : Program} {w : World} {K : PySem.W.Frag} {mg : Str → Option Value} {base : Heap} {C XC : Addr}
abbrev st_tell_weather_and_sky : Stmt := top 86
theorem sc_tell_weather_and_sky : FnScope ["figures", "sight", "weather", "sky"] ["figures", "sight"] (defScope st_tell_weather_and_sky) := ⟨rfl, rfl, rfl, by decide +kernel, rfl, by decide +kernel, by decide +kernel⟩
theorem kn_twsky (N : TopFn K mg "tell_weather_and_sky" st_tell_weather_and_sky) (B : Bt mg) (g_CAVOK_WORD : GV mg "CAVOK_WORD" (.str (Str.ofString "CAVOK"))) (g_CLEAR_WORD : GV mg "CLEAR_WORD" (.str (Str.ofString "NSC"))) (kn_insist : Known P w K mg base (CXe P w XC) 1 "insist" ["holds"] (spInsist XC)) (kn_tell_weather : Known P w K mg base (CXe P w XC) 5 "tell_weather" ["figures"] (spTell K C XC tlWeather)) (kn_tell_sky : Known P w K mg base (CXe P w XC) 4 "tell_sky" ["figures"] (spTell K C XC tlSky)) : Known P w K mg base (CXe P w XC) 6 "tell_weather_and_sky" ["figures", "sight"] (spWS K C XC) := by
  refine known_of N (fun _ _ _ _ _ _ us hl => match us, hl with | [_, _], _ => rfl) fun f fd Fu => ?_
  refine Fu.okE sc_tell_weather_and_sky (fun vs H Q E h => ?_) ?_
  · obtain ⟨nl, ns, p, l, q, sw, rfl, _⟩ := h
    rfl
  · rintro X outer cdv A s H vs Q E hr h rfl L
    obtain ⟨nl, ns, p, l, q, sw, rfl, fa, hq, lo, r1, r2⟩ := h
    refine ⟨_, (pss_cons (ps_set (i := 2) sc_tell_weather_and_sky.nd rfl (by first | exact Or.inl rfl | exact Or.inr rfl) (pe_kn kn_tell_weather (hr.mono (by decide)) rfl (passes_on L) (pa_cons (pv 0) pa_nil)))
      (pss_cons (ps_set (i := 3) sc_tell_weather_and_sky.nd rfl (by first | exact Or.inl rfl | exact Or.inr rfl) (pe_kn kn_tell_sky (hr.mono (by decide)) rfl (passes_on L) (pa_cons (pv 0) pa_nil)))
      (pss_cons (ps_if (pt_cmpR (op_neD hr.units) (pv 1) (pe_lst (pa_cons (pe_gv g_CAVOK_WORD (by rfl)) pa_nil)) (nomark _))
      (pss_one (ps_ret (pe_op op_cat (pv 2) (pv 3))))
      pss_nil)
      (pss_cons (ps_expr (pe_kn kn_insist (hr.mono (by decide)) rfl (passes_on L) (pa_cons (pe_and (pe_cmpR op_eq (pe_callB call_len_seq (by rfl) B.len PySem.boot_len (pa_cons (pv 2) pa_nil)) pe_int (nomark _)) (pe_one (pe_cmpR (op_eqD hr.units) (pv 3) (pe_lst (pa_cons (pe_gv g_CLEAR_WORD (by rfl)) pa_nil)) (nomark _)))) pa_nil)))
      (pss_one (ps_ret (pe_lst pa_nil))))))), ?_⟩
    unfold tlMidF at r1 r2
    refine tell_do (f := tlWeather) fa rfl (fun e => r1 (by rw [e]; rfl)) (fun w1 l1 e1 H1 q1 b1 g1 n1 h1 => ?_)
    rw [e1] at r1 r2
    simp only [Option.bind_some] at r1 r2
    refine tell_do (f := tlSky) g1 rfl (fun e => r1 (by rw [e]; rfl)) (fun w2 l2 e2 H2 q2 b2 g2 n2 h2 => ?_)
    rw [e2] at r1 r2
    simp only [Option.bind_some] at r1 r2
    have lw1 := weather_len e1
    obtain ⟨lo2, lw2⟩ := sky_low e2
    have h1' := b2 _ _ h1 (g1.ne h1)
    have bb := b1.trans b2
    have hq2 := bb _ _ hq (fa.ne hq)
    unfold tlMid at r1 r2
    dsimp only [gName]
    refine ⟨_, rfl, (by show 1 ≤ sizeLine; decide), fun u hu => ?_⟩
    have s3 : Same H2 (upd H2 u (.lst [V.str (Str.ofString "CAVOK")])) := same_new (Same.refl _) hu
    obtain ⟨c1, c2, c3, c4, c5⟩ := cmp_one (K := K) (s := "CAVOK") hq2 lo (by decide) s3 upd_same
    refine ⟨_, _, c1, c2, c3, c4, _, rfl, ?_⟩
    rw [c5]
    generalize upd H2 u (.lst [V.str (Str.ofString "CAVOK")]) = H3 at s3 c1 c2 ⊢
    have ed : (!decide ([sw] = [Kwc.text "CAVOK"])) = decide (sw ≠ cavT) := by
      rw [Bool.eq_iff_iff]; simp
    rw [ed]
    have g3 := g2.same s3
    have b3 := bb.trans (But.of s3)
    refine iteB (fun e => ?_) (fun e => ?_)
    · rw [if_pos (of_decide_eq_true e)] at r2
      refine ⟨_, rfl, _, rfl, cat_w (s3 _ _ h1') (s3 _ _ h2) (by omega) fun H4 v hv s4 u4 => ?_⟩
      exact r2 _ l2 rfl H4 v (b3.trans (But.of s4)) (g3.same s4) (b3.free hv (g3.new hv)) u4
    · rw [if_neg (of_decide_eq_false e)] at r1 r2
      dsimp only [tSeq, tDrop, tNext]
      refine ins_do' (b := decide (w1.length = 0) && decide (w2 = [Kwc.text "NSC"])) (fun R hR => ?_) (fun e => r1 ?_) (fun e H4 s4 => ?_)
      · refine ⟨_, rfl, q1, _, rfl, .inl (SqL.of (s3 _ _ h1')), rfl, _, rfl, ?_⟩
        have : decide (V.int (((List.map strV w1).length : Nat) : Int) = V.int 0) = decide (w1.length = 0) := by rw [dec_intV, List.length_map, Bool.eq_iff_iff, decide_eq_true_iff, decide_eq_true_iff]; omega
        rw [this]
        refine iteB (fun e => ?_) (fun e => ?_)
        · rw [e, Bool.true_and] at hR
          refine ⟨_, rfl, (by show 1 ≤ sizeLine; decide), fun u2 hu2 => ?_⟩
          have s4 : Same H3 (upd H3 u2 (.lst [V.str (Str.ofString "NSC")])) := same_new (Same.refl _) hu2
          obtain ⟨d1, d2, d3, d4, d5⟩ := cmp_one (K := K) (s := "NSC") (s3 _ _ h2) lo2 (by decide) s4 upd_same
          refine ⟨_, _, d1, d2, d3, d4, ?_⟩
          rw [d5]
          exact hR _ s4
        · rw [e, Bool.false_and] at hR
          exact hR _ (Same.refl _)
      · rw [if_neg]
        · rfl
        · intro z
          rw [decide_eq_true z.1, decide_eq_true z.2] at e
          cases e
      · rw [Bool.and_eq_true] at e
        rw [if_pos ⟨of_decide_eq_true e.1, of_decide_eq_true e.2⟩] at r2
        exact lst0 (b3.trans (But.of s4)) (g3.same s4) (r2 _ _ rfl)
abbrev st_tell_report : Stmt := top 87
theorem sc_tell_report : FnScope ["figures", "station", "moment", "wind", "sight", "degrees", "pressure", "weather_and_sky", "trend"] ["figures"] (defScope st_tell_report) := ⟨rfl, rfl, rfl, by decide +kernel, rfl, by decide +kernel, by decide +kernel⟩
theorem kn_treport (N : TopFn K mg "tell_report" st_tell_report) (CU : FigOk K mg C) (M : KnM P w K mg base CX0 1 C "at_end" ["self"] (spFgEnd K C)) (kn_insist : Known P w K mg base (CXe P w XC) 1 "insist" ["holds"] (spInsist XC)) (kn_tell_station : Known P w K mg base (CXe P w XC) 3 "tell_station" ["figures"] (spTell K C XC (one1 tlStation))) (kn_tell_moment : Known P w K mg base (CXe P w XC) 3 "tell_moment" ["figures"] (spTell K C XC (one1 tlMoment))) (kn_tell_wind_and_sector : Known P w K mg base (CXe P w XC) 4 "tell_wind_and_sector" ["figures"] (spTell K C XC tlWindSector))
    (kn_tell_sight : Known P w K mg base (CXe P w XC) 3 "tell_sight" ["figures"] (spTell K C XC tlSightL)) (kn_tell_degrees : Known P w K mg base (CXe P w XC) 3 "tell_degrees" ["figures"] (spTell K C XC (one1 tlDegrees))) (kn_tell_pressure : Known P w K mg base (CXe P w XC) 3 "tell_pressure" ["figures"] (spTell K C XC (one1 tlPress))) (kn_tell_weather_and_sky : Known P w K mg base (CXe P w XC) 6 "tell_weather_and_sky" ["figures", "sight"] (spWS K C XC)) (kn_tell_trend : Known P w K mg base (CXe P w XC) 14 "tell_trend" ["figures"] (spTell K C XC tlTrend)) : Known P w K mg base (CXe P w XC) 15 "tell_report" ["figures"] (spRep K C XC) := by
  obtain ⟨fe, fde, me_at_end, bc_at_end, gc_at_end⟩ := M.ex
  refine known_of N (fun _ _ _ _ _ _ us hl => match us, hl with | [_], _ => rfl) fun f fd Fu => ?_
  refine Fu.okE sc_tell_report (fun vs H Q E h => ?_) ?_
  · obtain ⟨nl, ns, p, l, rfl, _⟩ := h
    rfl
  · rintro X outer cdv A s H vs Q E hr h rfl L
    obtain ⟨nl, ns, p, l, rfl, fa, r1, r2⟩ := h
    refine ⟨_, (pss_cons (ps_set (i := 1) sc_tell_report.nd rfl (by first | exact Or.inl rfl | exact Or.inr rfl) (pe_kn kn_tell_station (hr.mono (by decide)) rfl (passes_on L) (pa_cons (pv 0) pa_nil)))
      (pss_cons (ps_set (i := 2) sc_tell_report.nd rfl (by first | exact Or.inl rfl | exact Or.inr rfl) (pe_kn kn_tell_moment (hr.mono (by decide)) rfl (passes_on L) (pa_cons (pv 0) pa_nil)))
      (pss_cons (ps_set (i := 3) sc_tell_report.nd rfl (by first | exact Or.inl rfl | exact Or.inr rfl) (pe_kn kn_tell_wind_and_sector (hr.mono (by decide)) rfl (passes_on L) (pa_cons (pv 0) pa_nil)))
      (pss_cons (ps_set (i := 4) sc_tell_report.nd rfl (by first | exact Or.inl rfl | exact Or.inr rfl) (pe_kn kn_tell_sight (hr.mono (by decide)) rfl (passes_on L) (pa_cons (pv 0) pa_nil)))
      (pss_cons (ps_set (i := 5) sc_tell_report.nd rfl (by first | exact Or.inl rfl | exact Or.inr rfl) (pe_kn kn_tell_degrees (hr.mono (by decide)) rfl (passes_on L) (pa_cons (pv 0) pa_nil)))
      (pss_cons (ps_set (i := 6) sc_tell_report.nd rfl (by first | exact Or.inl rfl | exact Or.inr rfl) (pe_kn kn_tell_pressure (hr.mono (by decide)) rfl (passes_on L) (pa_cons (pv 0) pa_nil)))
      (pss_cons (ps_set (i := 7) sc_tell_report.nd rfl (by first | exact Or.inl rfl | exact Or.inr rfl) (pe_kn kn_tell_weather_and_sky (hr.mono (by decide)) rfl (passes_on L) (pa_cons (pv 0) (pa_cons (pv 4) pa_nil))))
      (pss_cons (ps_set (i := 8) sc_tell_report.nd rfl (by first | exact Or.inl rfl | exact Or.inr rfl) (pe_kn kn_tell_trend (hr.mono (by decide)) rfl (passes_on L) (pa_cons (pv 0) pa_nil)))
      (pss_cons (ps_expr (pe_kn kn_insist (hr.mono (by decide)) rfl (passes_on L) (pa_cons (pe_meth0 (pv 0) CU.cl me_at_end gc_at_end (hr.mono (by decide)) bc_at_end .nil pass0) pa_nil)))
      (pss_one (ps_ret (pe_op op_cat (pe_op op_cat (pe_op op_cat (pe_op op_cat (pe_op op_cat (pe_op op_cat (pe_op op_cat (pv 1) (pv 2)) (pv 3)) (pv 4)) (pv 7)) (pv 5)) (pv 6)) (pv 8))))))))))))), ?_⟩
    unfold tlReport at r1 r2
    refine tell_do (f := one1 tlStation) fa rfl (fun e => r1 (by rw [one1_none e]; rfl)) (fun w1 l1 e1 H1 q1 b1 g1 n1 h1 => ?_)
    obtain ⟨t1, d1, rfl⟩ := one1_some e1
    rw [d1] at r1 r2
    simp only [Option.bind_some] at r1 r2
    refine tell_do (f := one1 tlMoment) g1 rfl (fun e => r1 (by rw [one1_none e]; rfl)) (fun w2 l2 e2 H2 q2 b2 g2 n2 h2 => ?_)
    obtain ⟨t2, d2, rfl⟩ := one1_some e2
    rw [d2] at r1 r2
    simp only [Option.bind_some] at r1 r2
    have h1 := b2 _ _ h1 (g1.ne h1)
    refine tell_do (f := tlWindSector) g2 rfl (fun e => r1 (by rw [e]; rfl)) (fun w3 l3 e3 H3 q3 b3 g3 n3 h3 => ?_)
    rw [e3] at r1 r2
    simp only [Option.bind_some] at r1 r2
    have h1 := b3 _ _ h1 (g2.ne h1)
    have h2 := b3 _ _ h2 (g2.ne h2)
    refine tell_do (f := tlSightL) g3 rfl (fun e => r1 (by rw [one1_none (f := tlSight) e]; rfl)) (fun w4 l4 e4 H4 q4 b4 g4 n4 h4 => ?_)
    have lo4 := (sightL_low e4).1
    obtain ⟨t4, d4, rfl⟩ := sightL_some e4
    rw [d4] at r1 r2
    simp only [Option.bind_some] at r1 r2
    have h1 := b4 _ _ h1 (g3.ne h1)
    have h2 := b4 _ _ h2 (g3.ne h2)
    have h3 := b4 _ _ h3 (g3.ne h3)
    refine tell_do (f := one1 tlDegrees) g4 rfl (fun e => r1 (by rw [one1_none e]; rfl)) (fun w5 l5 e5 H5 q5 b5 g5 n5 h5 => ?_)
    obtain ⟨t5, d5, rfl⟩ := one1_some e5
    rw [d5] at r1 r2
    simp only [Option.bind_some] at r1 r2
    have h1 := b5 _ _ h1 (g4.ne h1)
    have h2 := b5 _ _ h2 (g4.ne h2)
    have h3 := b5 _ _ h3 (g4.ne h3)
    have h4 := b5 _ _ h4 (g4.ne h4)
    refine tell_do (f := one1 tlPress) g5 rfl (fun e => r1 (by rw [one1_none e]; rfl)) (fun w6 l6 e6 H6 q6 b6 g6 n6 h6 => ?_)
    obtain ⟨t6, d6, rfl⟩ := one1_some e6
    rw [d6] at r1 r2
    simp only [Option.bind_some] at r1 r2
    have h1 := b6 _ _ h1 (g5.ne h1)
    have h2 := b6 _ _ h2 (g5.ne h2)
    have h3 := b6 _ _ h3 (g5.ne h3)
    have h4 := b6 _ _ h4 (g5.ne h4)
    have h5 := b6 _ _ h5 (g5.ne h5)
    dsimp only [gName]
    refine ⟨_, rfl, _, rfl, nl, ns, p, l6, q4, t4, rfl, g6, h4, lo4, fun e => r1 ?_, fun w7 l7 e7 H7 q7 b7 g7 n7 h7 => ?_⟩
    · unfold tlMidF at e
      cases k1 : tlWeather l6 with
      | none => rfl
      | some x =>
        rw [k1] at e
        simp only [Option.bind_some] at e ⊢
        cases k2 : tlSky x.2 with
        | none => rfl
        | some z =>
          rw [k2] at e
          simp only [Option.bind_some] at e ⊢
          have : tlMid t4 x.1 z.1 = none := by simpa using e
          rw [this]; rfl
    · have lw7 := mid_len e7
      unfold tlMidF at e7
      simp only [Option.bind_eq_some_iff, Option.map_eq_some_iff] at e7
      obtain ⟨⟨x, m1⟩, k1, ⟨z, m2⟩, k2, ms, k3, k4⟩ := e7
      cases k4
      rw [k1] at r1 r2
      simp only [Option.bind_some] at r1 r2
      rw [k2] at r1 r2
      simp only [Option.bind_some] at r1 r2
      rw [k3] at r1 r2
      simp only [Option.bind_some] at r1 r2
      have h1 := b7 _ _ h1 (g6.ne h1)
      have h2 := b7 _ _ h2 (g6.ne h2)
      have h3 := b7 _ _ h3 (g6.ne h3)
      have h4 := b7 _ _ h4 (g6.ne h4)
      have h5 := b7 _ _ h5 (g6.ne h5)
      have h6 := b7 _ _ h6 (g6.ne h6)
      refine tell_do (f := tlTrend) g7 rfl (fun e => r1 (by rw [e]; rfl)) (fun w8 l8 e8 H8 q8 b8 g8 n8 h8 => ?_)
      rw [e8] at r1 r2
      simp only [Option.bind_some] at r1 r2
      have lw3 := ws_len e3
      have lw8 := trend_len e8
      have h1 := b8 _ _ h1 (g7.ne h1)
      have h2 := b8 _ _ h2 (g7.ne h2)
      have h3 := b8 _ _ h3 (g7.ne h3)
      have h4 := b8 _ _ h4 (g7.ne h4)
      have h5 := b8 _ _ h5 (g7.ne h5)
      have h6 := b8 _ _ h6 (g7.ne h6)
      have h7 := b8 _ _ h7 (g7.ne h7)
      obtain ⟨dx, fs, ho, hno⟩ := g8.obj
      dsimp only [gName, tSeq, tDrop]
      refine ins_do' (b := l8.isEmpty) (fun R hR => ⟨_, rfl, p, dx, fs, rfl, ho, hno _ (by decide +kernel) (by decide +kernel), nl, ns, p, l8, rfl, g8, hR _ (Same.refl _)⟩) (fun e => r1 ?_) (fun e H9 s9 => ?_)
      · rw [if_neg]
        intro z
        rw [z] at e
        cases e
      · have e' : l8 = [] := by simpa using e
        rw [if_pos e'] at r2
        have ll : ∀ {a b : List T}, (a ++ b).length = a.length + b.length := List.length_append
        refine ⟨_, rfl, _, rfl, cat_w (s9 _ _ h1) (s9 _ _ h2) (by show 1 + 1 ≤ 500; decide) fun Ha va hva sa ua => ?_⟩
        refine ⟨_, rfl, cat_w ua (sa _ _ (s9 _ _ h3)) (by show 2 + _ ≤ 500; omega) fun Hb vb hvb sb ub => ?_⟩
        refine ⟨_, rfl, cat_w ub (sb _ _ (sa _ _ (s9 _ _ h4))) (by rw [ll]; show 2 + _ + 1 ≤ 500; omega) fun Hc vc hvc sc uc => ?_⟩
        refine ⟨_, rfl, cat_w uc (sc _ _ (sb _ _ (sa _ _ (s9 _ _ h7)))) (by rw [ll, ll]; show 2 + _ + 1 + _ ≤ 500; omega) fun Hd vd hvd sd ud => ?_⟩
        refine ⟨_, rfl, cat_w ud (sd _ _ (sc _ _ (sb _ _ (sa _ _ (s9 _ _ h5))))) (by rw [ll, ll, ll]; show 2 + _ + 1 + _ + 1 ≤ 500; omega) fun He ve hve se ue => ?_⟩
        refine ⟨_, rfl, cat_w ue (se _ _ (sd _ _ (sc _ _ (sb _ _ (sa _ _ (s9 _ _ h6)))))) (by rw [ll, ll, ll, ll]; show 2 + _ + 1 + _ + 1 + 1 ≤ 500; omega) fun Hf vf hvf sf uf => ?_⟩
        refine ⟨_, rfl, cat_w uf (sf _ _ (se _ _ (sd _ _ (sc _ _ (sb _ _ (sa _ _ (s9 _ _ h8))))))) (by rw [ll, ll, ll, ll, ll]; show 2 + _ + 1 + _ + 1 + 1 + _ ≤ 500; omega) fun Hg vg hvg sg ug => ?_⟩
        exact r2 _ rfl Hg vg ug
end
end My
end
section
set_option Elab.async false
set_option linter.all false
set_option maxRecDepth 100000
set_option maxHeartbeats 4000000
namespace My
open PySem PySem.Spec PyProof.Rows L2 TL
open Kwc (From)
theorem joined_two (p q : T) (r : List T) : Kwc.joined (p :: q :: r) = p ++ 32 :: Kwc.joined (q :: r) := by
  rw [Kwc.joined]
  intro h; cases h
theorem joinL_sp : ∀ ps : List (List Nat), TL.joinL [32] ps = Kwc.joined ps
  | [] => rfl
  | [p] => by simp [TL.joinL, Kwc.joined]
  | p :: q :: r => by
    rw [joined_two, TL.joinL, joinL_sp (q :: r)]
    simp
theorem join_sp (ts : List T) : Txt.join (Str.ofString " ") (ts.map S) = S (Kwc.joined ts) := by
  rw [TL.join_eq]
  refine TL.ext_tl ?_
  rw [TL.tl_join, ofS " ", show Kwc.text " " = [32] from rfl, TL.tl_mk, joinL_sp, TL.tl_mk, List.map_map]
  have : (TL.tl ∘ S) = (id : T → T) := rfl
  rw [this, List.map_id]
theorem sum_cost : ∀ ws : List T, (ws.map List.length).sum + ws.length = cost ws
  | [] => rfl
  | a :: l => by rw [List.map_cons, List.sum_cons, List.length_cons, cost_cons, ← sum_cost l]; omega
theorem pe_joinK {X : Cx} {o e : Expr} {to te : TE} {apos pos : Pos} (K : PySem.W.Frag) (h : X.K = K) (ho : PE X o to) (he : PE X e te) (hs : starEach [e] X.env = [(false, eval e X.env)] := by rfl) (hbase : attributeBase o "join" X.env (eval o X.env) = eval o X.env := by rfl) (hline : (apos.endLine == pos.line) = true := by rfl) :
    PE X (.Call (.Attribute o "join" apos) [e] [] pos) (tM1 (fun x xs H Q => ∃ a p, ∃ ys : List Str, x = .str a ∧ xs = [.ref p] ∧ (SqL K H p (ys.map V.str) ∨ SqT K H p (ys.map V.str)) ∧
      (ys.map (·.length)).sum + ys.length * a.length ≤ 16777216 ∧ Q (.str (Txt.join a ys)) H) to te) := by
  subst h
  exact pe_join ho he hs hbase hline
def spWrite (K : PySem.W.Frag) : Sp := fun vs H Q _ => ∃ (a : Addr) (ns : List Int), vs = [.ref a] ∧ SqL K H a (ns.map V.int) ∧ ns.length ≤ 300 ∧ ∀ H' q, H' q = some (.lst ((PyKwc.write ns).map V.int)) → Q (.ref q) H'
section
variable {P : Program} {w : World} {K : PySem.W.Frag} {mg : Str → Option Value} {base : Heap} {C XC : Addr}
abbrev st_write : Stmt := top 88
theorem sc_write : FnScope ["r", "text", "sign"] ["r"] (defScope st_write) := ⟨rfl, rfl, rfl, by decide +kernel, rfl, by decide +kernel, by decide +kernel⟩
theorem ok_write {f : Addr} {fd : FuncData} (Fu : Fun K "write" "write" st_write f fd) (B : Bt mg) (CU : FigOk K mg C) (EX : ExcC K mg "NotNumbers" XC) (g_MOST_NUMBERS : GV mg "MOST_NUMBERS" (.int 256)) (g_OUT_OF_BOUNDS : GV mg "OUT_OF_BOUNDS" (.int (-22)))
    {fi : Addr} {fdi : FuncData} (MkC : Mk K C fi) (GI : FnOk P w K mg base CX0 1 fi fdi ["self", "numbers"] (spFgInit K C)) (bI : L2.Binds K fdi ["self", "numbers"] [])
    (kn_tell_report : Known P w K mg base (CXe P w XC) 15 "tell_report" ["figures"] (spRep K C XC)) : FnOk P w K mg base CX0 16 f fd ["r"] (spWrite K) := by
  refine Fu.ok sc_write (fun vs H Q E h => ?_) (fun cdv A outer s H vs Q E hr h => ?_)
  · obtain ⟨a, ns, rfl, _⟩ := h
    rfl
  · obtain ⟨a, ns, rfl, sq, hl, ret⟩ := h
    refine' ⟨_, pss_cons (ps_if (pt_cmpR op_gt (pe_callB call_len_seq (by rfl) B.len PySem.boot_len (pa_cons (pv 0) pa_nil)) (pe_gv g_MOST_NUMBERS (by rfl)) (nomark _)) (pss_one (ps_ret (pe_lst (pa_cons (pe_gv g_OUT_OF_BOUNDS (by rfl)) pa_nil)))) pss_nil)
      (pss_cons (ps_try (outer := outer) rfl rfl EX rfl ?tb (fun ea => pss_one (ps_ret (pe_lst (pa_cons (pe_gv g_OUT_OF_BOUNDS (by rfl)) pa_nil)))))
      (pss_one (ps_ret (pe_op op_cat (pe_lst (pa_cons (pe_callB call_len_str (by rfl) B.len PySem.boot_len (pa_cons (pv 1) pa_nil)) pa_nil)) (pe_lc rfl sc_write.nd (pi_str (pv 1)) (blkOk_by (own := [("sign", 2)]) (by kernel_rfl)) (fun _ _ _ _ _ => pg_name (i := 2) sc_write.nd rfl (Or.inl rfl)) (fun _ _ _ _ _ => pts_nil) (fun _ _ _ _ _ => (pe_callB call_ord (by rfl) B.ord bt_ord (pa_cons (pv 2) pa_nil)))))))), ?d⟩
    case tb => exact fun pins E' EXX hp => pss_one (ps_set (i := 1) sc_write.nd rfl (Or.inl rfl) (pe_op op_addS (pe_joinK K rfl pe_str (pe_kn kn_tell_report (hr.mono (by decide)) (by rfl) hp (pa_cons (pe_make MkC GI (hr.mono (by decide)) (by rfl) CU.mgC bI .nil pass0 (pa_cons (pv 0) pa_nil)) pa_nil))) pe_str))
    rw [write_py] at ret
    refine ⟨_, rfl, a, _, rfl, .inl sq, _, _, rfl, rfl, _, rfl, ?_⟩
    have e0 : decide ((256 : Int) < ((((ns.map V.int).length : Nat)) : Int)) = decide (256 < ns.length) := by
      rw [List.length_map, Bool.eq_iff_iff, decide_eq_true_iff, decide_eq_true_iff]; omega
    dsimp only
    rw [e0]
    refine iteB (fun e => ?_) (fun e => ?_)
    · rw [if_pos (of_decide_eq_true e)] at ret
      exact ⟨(by show 1 ≤ sizeLine; decide), fun q hq => ret _ q (by rw [upd_same]; rfl)⟩
    · rw [if_neg (of_decide_eq_false e)] at ret
      have exc : ∀ (D : Ends) (n : Nat) (v : Value) (o : Option Addr) (H' : Hp), D.rt = Q → tlReport ns = none → exTry (tRet (tLst (tCons (tC (V.int (-22))) tNil))) D n v o H' := by
        intro D n v o H' hD er σ' _
        rw [er] at ret
        refine ⟨(by show 1 ≤ sizeLine; decide), fun q hq => ?_⟩
        rw [hD]
        exact ret _ q (by rw [upd_same]; rfl)
      refine ⟨⟨_, rfl⟩, ?_⟩
      refine ⟨_, rfl, ?_⟩
      intro x dx hx hdx hne
      refine ⟨x, dx, a, ns, rfl, upd_same, sq_off sq hx (sq_off sq hdx sq), fun H2 b2 c2 => ⟨rfl, ?_⟩⟩
      refine ⟨a, ns, x, ns, rfl, c2, fun e H' => exc _ _ _ _ H' rfl e, fun ws e H3 q3 hq3 => ?_⟩
      rw [e] at ret
      obtain ⟨rp, _, ok, hw⟩ := report_inv e
      have hcost : cost ws ≤ 390 := by rw [← hw]; exact words_cost ok
      have hlen : (Kwc.joined ws ++ Kwc.text "=").length ≤ 400 := by rw [← hw]; exact written_le ok
      refine ⟨_, q3, ws.map S, rfl, rfl, .inl (SqL.of (by rw [hq3, List.map_map]; rfl)), ?_, ?_⟩
      · rw [sum_S, ofS " ", S_len, List.length_map]
        have := sum_cost ws
        show _ + ws.length * 1 ≤ _
        exact small500 (by omega)
      · rw [join_sp]
        dsimp only [tC]
        refine catSL (s := "=") ?_ ?_
        · rw [List.length_append] at hlen; omega
        generalize ht : Kwc.joined ws ++ Kwc.text "=" = t at hlen
        have ret : ∀ (H' : Hp) (q : Addr), H' q = some (.lst (List.map V.int (((t.length : Nat) : Int) :: t.map fun (b : Nat) => (b : Int)))) → Q (.ref q) H' := by
          rw [← ht]; exact ret
        dsimp only [gName, tRet]
        refine ⟨_, rfl, S t, rfl, (by rw [S_len]; exact small500 (by omega)), (by show 1 ≤ sizeLine; decide), fun c hc => ?_⟩
        have s4 : Same H3 (upd H3 c (.lst [V.int (((S t).length : Nat) : Int)])) := same_new (Same.refl _) hc
        have hc4 : upd H3 c (.lst [V.int (((S t).length : Nat) : Int)]) c = some (.lst [V.int ((t.length : Nat) : Int)]) := by rw [upd_same, S_len]
        generalize upd H3 c (.lst [V.int (((S t).length : Nat) : Int)]) = H4 at s4 hc4 ⊢
        refine rd_str (w := t) (i := 1) (j := 2) (val := fun b => V.int (b : Int)) rfl (Nat.lt_of_le_of_lt hlen (by decide)) (fun i H' k hi hs hk => ?_) (fun H5 D s5 hD hd => ?_)
        · exact ⟨_, rfl, ⟨#[t.getD i 0]⟩, rfl, rfl, hk H' (Same.refl _)⟩
        · refine ⟨c, D, _, _, rfl, rfl, s5 _ _ hc4, hd, ?_, fun u hu => ret _ u ?_⟩
          · rw [List.length_map]; exact small500 (by show 1 + t.length ≤ 500; omega)
          · rw [upd_same, List.map_cons, List.map_map]; rfl
theorem write_req {H : Hp} {a : Addr} {l : List Int} {Q : VK} {E : XK} (hs : SqL K H a (l.map V.int)) (hl : l.length ≤ 300) (k : ∀ H' p, H' p = some (.lst ((PyKwc.write l).map V.int)) → Q (.ref p) H') : spWrite K [.ref a] H Q E := ⟨a, l, rfl, hs, hl, k⟩
end
end My
end
section
set_option Elab.async false
set_option linter.all false
namespace My
open PySem PySem.Spec PyProof.Rows L2 TL
section
variable {K : PySem.W.Frag} {h : Heap} {mg : Str → Option Value}
theorem tf {x : Str} {st : Stmt} {f : Addr} {oc kV doc pm cdv ct : Value} {od an : Option Addr} {osl : Array (Option Value)} (X : K.In h) (G : h.Ns mainGlobals mg) (a : PySem.W.nsIn K mainGlobals x = some (some (.ref f)))
    (l : K.lookup f = some ⟨oc, od, .func (PySem.W.fnOf x x (defArgs st) (defBody st) (defScope st) .none kV doc pm an cdv ct), osl⟩) (c : PySem.W.codeIn K cdv x = true) (k : PySem.W.keepIn K (.ref f) = true) : TopFn K mg x st :=
  ⟨f, _, PySem.W.mg_of X G a, fun_mk l c k⟩
theorem tm {C : Addr} {m q : Str} {st : Stmt} {f : Addr} {oc kV doc pm cdv ct : Value} {od an : Option Addr} {osl : Array (Option Value)} (a : PySem.W.findIn K (.ref C) m = some (some (.ref f))) (i : PySem.W.isFn K (.ref f) = true)
    (l : K.lookup f = some ⟨oc, od, .func (PySem.W.fnOf m q (defArgs st) (defBody st) (defScope st) .none kV doc pm an cdv ct), osl⟩) (c : PySem.W.codeIn K cdv q = true) (k : PySem.W.keepIn K (.ref f) = true) : TopM K C m q st :=
  ⟨f, _, ⟨a, i, k⟩, fun_mk l c k⟩
theorem gvi {x : Str} {n : Int} {t : Tok} (X : K.In h) (G : h.Ns mainGlobals mg) (a : PySem.W.nsIn K mainGlobals x = some (some (.int n t))) : GV mg x (.int n) := ⟨_, PySem.W.mg_of X G a, t, rfl⟩
theorem gvs {x : Str} {n : Str} {t : Tok} (X : K.In h) (G : h.Ns mainGlobals mg) (a : PySem.W.nsIn K mainGlobals x = some (some (.str n t))) : GV mg x (.str n) := ⟨_, PySem.W.mg_of X G a, t, rfl⟩
theorem tgv {x : Str} {p : Addr} {its : Array Value} {n : Nat} {sl : Array (Option Value)} {ws : List T} (X : K.In h) (G : h.Ns mainGlobals mg) (a : PySem.W.nsIn K mainGlobals x = some (some (.ref p))) (l : K.lookup p = some ⟨.type "tuple", none, .seq its n, sl⟩) (z : its.size ≤ sizeLine) (v : Vals (ws.map strV) its.toList) : TG K mg x ws :=
  ⟨p, PySem.W.mg_of X G a, _, its, n, l, rfl, rfl, rfl, z, v⟩
end
end My
end
section
set_option Elab.async false
set_option linter.all false
set_option maxHeartbeats 4000000
namespace My
open PySem PySem.Spec PyProof.Rows L2 TL
theorem all_fn {P : Program} {w : World} {K : PySem.W.Frag} {mg : Str → Option Value} {base : Heap} {C XC : Addr}
    (T_metres_fit : TopFn K mg "metres_fit" st_metres_fit)
    (T_direction_fits : TopFn K mg "direction_fits" st_direction_fits)
    (T_wind_fits : TopFn K mg "wind_fits" st_wind_fits)
    (T_may_have_sector : TopFn K mg "may_have_sector" st_may_have_sector)
    (T_all_rain : TopFn K mg "all_rain" st_all_rain)
    (T_kinds_fit : TopFn K mg "kinds_fit" st_kinds_fit)
    (T_strength_fits : TopFn K mg "strength_fits" st_strength_fits)
    (T_manner_fits : TopFn K mg "manner_fits" st_manner_fits)
    (T_weather_fits : TopFn K mg "weather_fits" st_weather_fits)
    (T_layer_follows : TopFn K mg "layer_follows" st_layer_follows)
    (T_insist : TopFn K mg "insist" st_insist)
    (T_digits : TopFn K mg "digits" st_digits)
    (T_tell_station : TopFn K mg "tell_station" st_tell_station)
    (T_tell_moment : TopFn K mg "tell_moment" st_tell_moment)
    (T_tell_marked_minutes : TopFn K mg "tell_marked_minutes" st_tell_marked_minutes)
    (T_tell_from : TopFn K mg "tell_from" st_tell_from)
    (T_tell_till : TopFn K mg "tell_till" st_tell_till)
    (T_tell_sight : TopFn K mg "tell_sight" st_tell_sight)
    (T_degree_text : TopFn K mg "degree_text" st_degree_text)
    (T_tell_degrees : TopFn K mg "tell_degrees" st_tell_degrees)
    (T_tell_pressure : TopFn K mg "tell_pressure" st_tell_pressure)
    (T_fitting_wind : TopFn K mg "fitting_wind" st_fitting_wind)
    (T_wind_text : TopFn K mg "wind_text" st_wind_text)
    (T_tell_wind : TopFn K mg "tell_wind" st_tell_wind)
    (T_tell_sector : TopFn K mg "tell_sector" st_tell_sector)
    (T_tell_wind_and_sector : TopFn K mg "tell_wind_and_sector" st_tell_wind_and_sector)
    (T_layer_text : TopFn K mg "layer_text" st_layer_text)
    (T_tell_layers : TopFn K mg "tell_layers" st_tell_layers)
    (T_tell_sky : TopFn K mg "tell_sky" st_tell_sky)
    (T_tell_weather_word : TopFn K mg "tell_weather_word" st_tell_weather_word)
    (T_tell_weather : TopFn K mg "tell_weather" st_tell_weather)
    (T_tell_changed_weather : TopFn K mg "tell_changed_weather" st_tell_changed_weather)
    (T_tell_changed_wind : TopFn K mg "tell_changed_wind" st_tell_changed_wind)
    (T_told_if_any : TopFn K mg "told_if_any" st_told_if_any)
    (T_tell_changed : TopFn K mg "tell_changed" st_tell_changed)
    (T_tell_change : TopFn K mg "tell_change" st_tell_change)
    (T_tell_changes : TopFn K mg "tell_changes" st_tell_changes)
    (T_tell_trend : TopFn K mg "tell_trend" st_tell_trend)
    (T_tell_weather_and_sky : TopFn K mg "tell_weather_and_sky" st_tell_weather_and_sky)
    (T_tell_report : TopFn K mg "tell_report" st_tell_report)
    (TM_at_end : TopM K C "at_end" "Figures.at_end" st_fg_at_end)
    (TM_take : TopM K C "take" "Figures.take" st_fg_take)
    (TM_passes : TopM K C "passes" "Figures.passes" st_fg_passes)
    (g_VARIABLE : GV mg "VARIABLE" (.int 999))
    (g_MOST_KINDS : GV mg "MOST_KINDS" (.int 3))
    (g_NEITHER : GV mg "NEITHER" (.int 1))
    (g_MOST_LAYERS : GV mg "MOST_LAYERS" (.int 4))
    (g_OVERCAST : GV mg "OVERCAST" (.int 4))
    (g_LETTERS : GV mg "LETTERS" (strV lettersT))
    (g_FROM : GV mg "FROM" (.str (Str.ofString "FM")))
    (g_TILL : GV mg "TILL" (.str (Str.ofString "TL")))
    (g_CAVOK : GV mg "CAVOK" (.int 10000))
    (g_CAVOK_WORD : GV mg "CAVOK_WORD" (.str (Str.ofString "CAVOK")))
    (g_MOST_DEGREES : GV mg "MOST_DEGREES" (.int 60))
    (g_LEAST_PRESSURE : GV mg "LEAST_PRESSURE" (.int 850))
    (g_MOST_PRESSURE : GV mg "MOST_PRESSURE" (.int 1100))
    (g_MOST_SPEED : GV mg "MOST_SPEED" (.int 99))
    (g_NO_SECTOR : GV mg "NO_SECTOR" (.int 999))
    (g_MOST_HUNDREDS : GV mg "MOST_HUNDREDS" (.int 300))
    (g_CLEAR : GV mg "CLEAR" (.int 0))
    (g_UPRIGHT : GV mg "UPRIGHT" (.int 1))
    (g_LAYERED : GV mg "LAYERED" (.int 2))
    (g_CLEAR_WORD : GV mg "CLEAR_WORD" (.str (Str.ofString "NSC")))
    (g_MOST_UPRIGHT : GV mg "MOST_UPRIGHT" (.int 100))
    (g_LIGHT : GV mg "LIGHT" (.int 0))
    (g_HEAVY : GV mg "HEAVY" (.int 2))
    (g_MOST_WORDS : GV mg "MOST_WORDS" (.int 3))
    (g_NO_WEATHER_WORD : GV mg "NO_WEATHER_WORD" (.str (Str.ofString "NSW")))
    (g_NOT_TOLD : GV mg "NOT_TOLD" (.int (-1)))
    (g_MOST_CHANGES : GV mg "MOST_CHANGES" (.int 3))
    (g_NOTHING_MORE : GV mg "NOTHING_MORE" (.int 0))
    (g_CHANGES : GV mg "CHANGES" (.int 2))
    (g_NO_CHANGE_WORD : GV mg "NO_CHANGE_WORD" (.str (Str.ofString "NOSIG")))
    (g_MOST_NUMBERS : GV mg "MOST_NUMBERS" (.int 256))
    (g_OUT_OF_BOUNDS : GV mg "OUT_OF_BOUNDS" (.int (-22)))
    (tg_RAIN_KINDS : TG K mg "RAIN_KINDS" RAIN)
    (tg_COVERS : TG K mg "COVERS" coversT)
    (tg_CLOUDS : TG K mg "CLOUDS" cloudsT)
    (tg_STRENGTHS : TG K mg "STRENGTHS" strT)
    (tg_MANNERS : TG K mg "MANNERS" MANN)
    (tg_OTHER_KINDS : TG K mg "OTHER_KINDS" OTHR)
    (tg_MANNERS_OF_CHANGE : TG K mg "MANNERS_OF_CHANGE" manT)
    (B : Bt mg)
    (CU : FigOk K mg C)
    (EX : ExcC K mg "NotNumbers" XC)
    {fi : Addr}
    {fdi : FuncData}
    (MkC : Mk K C fi)
    (FI : Fun K "__init__" "Figures.__init__" st_fg___init__ fi fdi)
    {fr : Addr}
    {fdr : FuncData}
    (FR : Fun K "write" "write" st_write fr fdr) : FnOk P w K mg base CX0 16 fr fdr ["r"] (spWrite K) := by
  have bI := FI.binds (ps := ["self", "numbers"]) fun _ _ _ _ _ _ us hl => match us, hl with | [_, _], _ => rfl
  have K_metres_fit := kn_metres (P := P) (w := w) (base := base) T_metres_fit
  have K_direction_fits := kn_dfits (P := P) (w := w) (base := base) T_direction_fits
  have K_wind_fits := kn_wfits (P := P) (w := w) (base := base) T_wind_fits
  have K_may_have_sector := kn_mhs (P := P) (w := w) (base := base) T_may_have_sector g_VARIABLE
  have K_all_rain := kn_allrain (P := P) (w := w) (base := base) T_all_rain B tg_RAIN_KINDS
  have K_kinds_fit := kn_kfit (P := P) (w := w) (base := base) T_kinds_fit B g_MOST_KINDS K_all_rain
  have K_strength_fits := kn_sfit (P := P) (w := w) (base := base) T_strength_fits B g_NEITHER tg_RAIN_KINDS
  have K_manner_fits := kn_mfit (P := P) (w := w) (base := base) T_manner_fits B K_all_rain
  have K_weather_fits := kn_wfit (P := P) (w := w) (base := base) T_weather_fits K_kinds_fit K_strength_fits K_manner_fits
  have K_layer_follows := kn_follows (P := P) (w := w) (base := base) T_layer_follows B g_MOST_LAYERS g_OVERCAST
  have K_insist := kn_insist (P := P) (w := w) (base := base) T_insist EX
  have K_digits := kn_digits (P := P) (w := w) (base := base) T_digits B
  have M_at_end := kn_at_end (P := P) (w := w) (base := base) (C := C) TM_at_end CU B
  have M_take := kn_take (P := P) (w := w) (base := base) (C := C) TM_take CU M_at_end K_insist
  have M_passes := kn_passes (P := P) (w := w) (base := base) (C := C) TM_passes CU M_at_end
  have K_tell_station := kn_tstation (P := P) (w := w) (base := base) (C := C) T_tell_station CU B g_LETTERS M_take
  have K_tell_moment := kn_tmoment (P := P) (w := w) (base := base) (C := C) T_tell_moment CU M_take K_digits
  have K_tell_marked_minutes := kn_tmarked (P := P) (w := w) (base := base) (C := C) T_tell_marked_minutes CU M_take K_digits
  have K_tell_from := kn_tfrom (P := P) (w := w) (base := base) T_tell_from g_FROM K_tell_marked_minutes
  have K_tell_till := kn_ttill (P := P) (w := w) (base := base) T_tell_till g_TILL K_tell_marked_minutes
  have K_tell_sight := kn_tsight (P := P) (w := w) (base := base) (C := C) T_tell_sight CU g_CAVOK g_CAVOK_WORD M_take K_insist K_metres_fit K_digits
  have K_degree_text := kn_degtext (P := P) (w := w) (base := base) T_degree_text K_digits
  have K_tell_degrees := kn_tdegrees (P := P) (w := w) (base := base) (C := C) T_tell_degrees CU g_MOST_DEGREES M_take K_degree_text
  have K_tell_pressure := kn_tpress (P := P) (w := w) (base := base) (C := C) T_tell_pressure CU g_LEAST_PRESSURE g_MOST_PRESSURE M_take K_digits
  have K_fitting_wind := kn_fitwind (P := P) (w := w) (base := base) (C := C) T_fitting_wind CU g_VARIABLE g_MOST_SPEED M_take K_insist K_direction_fits K_wind_fits
  have K_wind_text := kn_wtext (P := P) (w := w) (base := base) T_wind_text g_VARIABLE K_digits
  have K_tell_wind := kn_twind (P := P) (w := w) (base := base) T_tell_wind K_fitting_wind K_wind_text
  have K_tell_sector := kn_tsector (P := P) (w := w) (base := base) (C := C) T_tell_sector CU g_NO_SECTOR M_take K_insist K_may_have_sector K_direction_fits K_digits
  have K_tell_wind_and_sector := kn_twas (P := P) (w := w) (base := base) T_tell_wind_and_sector K_fitting_wind K_wind_text K_tell_sector
  have K_layer_text := kn_ltext (P := P) (w := w) (base := base) T_layer_text tg_COVERS tg_CLOUDS K_digits
  have K_tell_layers := kn_tlayers (P := P) (w := w) (base := base) (C := C) T_tell_layers CU B g_MOST_LAYERS g_MOST_HUNDREDS tg_COVERS tg_CLOUDS M_take K_insist K_layer_follows K_layer_text
  have K_tell_sky := kn_tsky (P := P) (w := w) (base := base) (C := C) T_tell_sky CU g_CLEAR g_UPRIGHT g_LAYERED g_CLEAR_WORD g_MOST_UPRIGHT M_take K_digits K_tell_layers
  have K_tell_weather_word := kn_tww (P := P) (w := w) (base := base) (C := C) T_tell_weather_word CU B g_LIGHT g_HEAVY g_MOST_KINDS tg_STRENGTHS tg_MANNERS tg_RAIN_KINDS tg_OTHER_KINDS M_take K_insist K_weather_fits
  have K_tell_weather := kn_tweather (P := P) (w := w) (base := base) (C := C) T_tell_weather CU B g_MOST_WORDS M_take K_tell_weather_word
  have K_tell_changed_weather := kn_tcw (P := P) (w := w) (base := base) (C := C) T_tell_changed_weather CU g_NO_WEATHER_WORD M_take K_tell_weather_word
  have K_tell_changed_wind := kn_tchwind (P := P) (w := w) (base := base) (C := C) T_tell_changed_wind CU M_take K_tell_wind
  have K_told_if_any := kn_told (XC := XC) (P := P) (w := w) (base := base) (C := C) T_told_if_any CU g_NOT_TOLD M_passes
  have K_tell_changed := kn_tchanged (P := P) (w := w) (base := base) T_tell_changed B g_CAVOK_WORD K_insist K_tell_changed_wind K_told_if_any K_tell_sight K_tell_changed_weather K_tell_sky
  have K_tell_change := kn_tchange (P := P) (w := w) (base := base) (C := C) T_tell_change CU B tg_MANNERS_OF_CHANGE M_take K_told_if_any K_tell_from K_tell_till K_tell_changed
  have K_tell_changes := kn_tchanges (P := P) (w := w) (base := base) (C := C) T_tell_changes CU B g_MOST_CHANGES M_take K_tell_change
  have K_tell_trend := kn_ttrend (P := P) (w := w) (base := base) (C := C) T_tell_trend CU g_NOTHING_MORE g_CHANGES g_NO_CHANGE_WORD M_take K_tell_changes
  have K_tell_weather_and_sky := kn_twsky (P := P) (w := w) (base := base) T_tell_weather_and_sky B g_CAVOK_WORD g_CLEAR_WORD K_insist K_tell_weather K_tell_sky
  have K_tell_report := kn_treport (P := P) (w := w) (base := base) (C := C) T_tell_report CU M_at_end K_insist K_tell_station K_tell_moment K_tell_wind_and_sector K_tell_sight K_tell_degrees K_tell_pressure K_tell_weather_and_sky K_tell_trend
  have K_write := ok_write (P := P) (w := w) (base := base) (C := C) FR B CU EX g_MOST_NUMBERS g_OUT_OF_BOUNDS MkC (ok_init FI CU) bI K_tell_report
  exact K_write
end My
end
section
set_option Elab.async false
set_option linter.all false
set_option maxHeartbeats 4000000
set_option maxRecDepth 100000
namespace My
open PySem PySem.Spec PyProof.Rows L2 TL
theorem all_mk {P : Program} {w : World} {K : PySem.W.Frag} {h : Heap} {mg : Str → Option Value} {fa C XC : Addr} (X : K.In h) (G : h.Ns mainGlobals mg) (hfa : mg "write" = some (.ref fa))
    {f_metres_fit : Addr} {od_metres_fit an_metres_fit : Option Addr} {sl_metres_fit : Array (Option Value)} {oc_metres_fit kV_metres_fit dc_metres_fit pm_metres_fit cd_metres_fit ct_metres_fit : Value}
    {f_direction_fits : Addr} {od_direction_fits an_direction_fits : Option Addr} {sl_direction_fits : Array (Option Value)} {oc_direction_fits kV_direction_fits dc_direction_fits pm_direction_fits cd_direction_fits ct_direction_fits : Value}
    {f_wind_fits : Addr} {od_wind_fits an_wind_fits : Option Addr} {sl_wind_fits : Array (Option Value)} {oc_wind_fits kV_wind_fits dc_wind_fits pm_wind_fits cd_wind_fits ct_wind_fits : Value}
    {f_may_have_sector : Addr} {od_may_have_sector an_may_have_sector : Option Addr} {sl_may_have_sector : Array (Option Value)} {oc_may_have_sector kV_may_have_sector dc_may_have_sector pm_may_have_sector cd_may_have_sector ct_may_have_sector : Value}
    {f_all_rain : Addr} {od_all_rain an_all_rain : Option Addr} {sl_all_rain : Array (Option Value)} {oc_all_rain kV_all_rain dc_all_rain pm_all_rain cd_all_rain ct_all_rain : Value}
    {f_kinds_fit : Addr} {od_kinds_fit an_kinds_fit : Option Addr} {sl_kinds_fit : Array (Option Value)} {oc_kinds_fit kV_kinds_fit dc_kinds_fit pm_kinds_fit cd_kinds_fit ct_kinds_fit : Value}
    {f_strength_fits : Addr} {od_strength_fits an_strength_fits : Option Addr} {sl_strength_fits : Array (Option Value)} {oc_strength_fits kV_strength_fits dc_strength_fits pm_strength_fits cd_strength_fits ct_strength_fits : Value}
    {f_manner_fits : Addr} {od_manner_fits an_manner_fits : Option Addr} {sl_manner_fits : Array (Option Value)} {oc_manner_fits kV_manner_fits dc_manner_fits pm_manner_fits cd_manner_fits ct_manner_fits : Value}
    {f_weather_fits : Addr} {od_weather_fits an_weather_fits : Option Addr} {sl_weather_fits : Array (Option Value)} {oc_weather_fits kV_weather_fits dc_weather_fits pm_weather_fits cd_weather_fits ct_weather_fits : Value}
    {f_layer_follows : Addr} {od_layer_follows an_layer_follows : Option Addr} {sl_layer_follows : Array (Option Value)} {oc_layer_follows kV_layer_follows dc_layer_follows pm_layer_follows cd_layer_follows ct_layer_follows : Value}
    {f_insist : Addr} {od_insist an_insist : Option Addr} {sl_insist : Array (Option Value)} {oc_insist kV_insist dc_insist pm_insist cd_insist ct_insist : Value}
    {f_digits : Addr} {od_digits an_digits : Option Addr} {sl_digits : Array (Option Value)} {oc_digits kV_digits dc_digits pm_digits cd_digits ct_digits : Value}
    {f_tell_station : Addr} {od_tell_station an_tell_station : Option Addr} {sl_tell_station : Array (Option Value)} {oc_tell_station kV_tell_station dc_tell_station pm_tell_station cd_tell_station ct_tell_station : Value}
    {f_tell_moment : Addr} {od_tell_moment an_tell_moment : Option Addr} {sl_tell_moment : Array (Option Value)} {oc_tell_moment kV_tell_moment dc_tell_moment pm_tell_moment cd_tell_moment ct_tell_moment : Value}
    {f_tell_marked_minutes : Addr} {od_tell_marked_minutes an_tell_marked_minutes : Option Addr} {sl_tell_marked_minutes : Array (Option Value)} {oc_tell_marked_minutes kV_tell_marked_minutes dc_tell_marked_minutes pm_tell_marked_minutes cd_tell_marked_minutes ct_tell_marked_minutes : Value}
    {f_tell_from : Addr} {od_tell_from an_tell_from : Option Addr} {sl_tell_from : Array (Option Value)} {oc_tell_from kV_tell_from dc_tell_from pm_tell_from cd_tell_from ct_tell_from : Value}
    {f_tell_till : Addr} {od_tell_till an_tell_till : Option Addr} {sl_tell_till : Array (Option Value)} {oc_tell_till kV_tell_till dc_tell_till pm_tell_till cd_tell_till ct_tell_till : Value}
    {f_tell_sight : Addr} {od_tell_sight an_tell_sight : Option Addr} {sl_tell_sight : Array (Option Value)} {oc_tell_sight kV_tell_sight dc_tell_sight pm_tell_sight cd_tell_sight ct_tell_sight : Value}
    {f_degree_text : Addr} {od_degree_text an_degree_text : Option Addr} {sl_degree_text : Array (Option Value)} {oc_degree_text kV_degree_text dc_degree_text pm_degree_text cd_degree_text ct_degree_text : Value}
    {f_tell_degrees : Addr} {od_tell_degrees an_tell_degrees : Option Addr} {sl_tell_degrees : Array (Option Value)} {oc_tell_degrees kV_tell_degrees dc_tell_degrees pm_tell_degrees cd_tell_degrees ct_tell_degrees : Value}
    {f_tell_pressure : Addr} {od_tell_pressure an_tell_pressure : Option Addr} {sl_tell_pressure : Array (Option Value)} {oc_tell_pressure kV_tell_pressure dc_tell_pressure pm_tell_pressure cd_tell_pressure ct_tell_pressure : Value}
    {f_fitting_wind : Addr} {od_fitting_wind an_fitting_wind : Option Addr} {sl_fitting_wind : Array (Option Value)} {oc_fitting_wind kV_fitting_wind dc_fitting_wind pm_fitting_wind cd_fitting_wind ct_fitting_wind : Value}
    {f_wind_text : Addr} {od_wind_text an_wind_text : Option Addr} {sl_wind_text : Array (Option Value)} {oc_wind_text kV_wind_text dc_wind_text pm_wind_text cd_wind_text ct_wind_text : Value}
    {f_tell_wind : Addr} {od_tell_wind an_tell_wind : Option Addr} {sl_tell_wind : Array (Option Value)} {oc_tell_wind kV_tell_wind dc_tell_wind pm_tell_wind cd_tell_wind ct_tell_wind : Value}
    {f_tell_sector : Addr} {od_tell_sector an_tell_sector : Option Addr} {sl_tell_sector : Array (Option Value)} {oc_tell_sector kV_tell_sector dc_tell_sector pm_tell_sector cd_tell_sector ct_tell_sector : Value}
    {f_tell_wind_and_sector : Addr} {od_tell_wind_and_sector an_tell_wind_and_sector : Option Addr} {sl_tell_wind_and_sector : Array (Option Value)} {oc_tell_wind_and_sector kV_tell_wind_and_sector dc_tell_wind_and_sector pm_tell_wind_and_sector cd_tell_wind_and_sector ct_tell_wind_and_sector : Value}
    {f_layer_text : Addr} {od_layer_text an_layer_text : Option Addr} {sl_layer_text : Array (Option Value)} {oc_layer_text kV_layer_text dc_layer_text pm_layer_text cd_layer_text ct_layer_text : Value}
    {f_tell_layers : Addr} {od_tell_layers an_tell_layers : Option Addr} {sl_tell_layers : Array (Option Value)} {oc_tell_layers kV_tell_layers dc_tell_layers pm_tell_layers cd_tell_layers ct_tell_layers : Value}
    {f_tell_sky : Addr} {od_tell_sky an_tell_sky : Option Addr} {sl_tell_sky : Array (Option Value)} {oc_tell_sky kV_tell_sky dc_tell_sky pm_tell_sky cd_tell_sky ct_tell_sky : Value}
    {f_tell_weather_word : Addr} {od_tell_weather_word an_tell_weather_word : Option Addr} {sl_tell_weather_word : Array (Option Value)} {oc_tell_weather_word kV_tell_weather_word dc_tell_weather_word pm_tell_weather_word cd_tell_weather_word ct_tell_weather_word : Value}
    {f_tell_weather : Addr} {od_tell_weather an_tell_weather : Option Addr} {sl_tell_weather : Array (Option Value)} {oc_tell_weather kV_tell_weather dc_tell_weather pm_tell_weather cd_tell_weather ct_tell_weather : Value}
    {f_tell_changed_weather : Addr} {od_tell_changed_weather an_tell_changed_weather : Option Addr} {sl_tell_changed_weather : Array (Option Value)} {oc_tell_changed_weather kV_tell_changed_weather dc_tell_changed_weather pm_tell_changed_weather cd_tell_changed_weather ct_tell_changed_weather : Value}
    {f_tell_changed_wind : Addr} {od_tell_changed_wind an_tell_changed_wind : Option Addr} {sl_tell_changed_wind : Array (Option Value)} {oc_tell_changed_wind kV_tell_changed_wind dc_tell_changed_wind pm_tell_changed_wind cd_tell_changed_wind ct_tell_changed_wind : Value}
    {f_told_if_any : Addr} {od_told_if_any an_told_if_any : Option Addr} {sl_told_if_any : Array (Option Value)} {oc_told_if_any kV_told_if_any dc_told_if_any pm_told_if_any cd_told_if_any ct_told_if_any : Value}
    {f_tell_changed : Addr} {od_tell_changed an_tell_changed : Option Addr} {sl_tell_changed : Array (Option Value)} {oc_tell_changed kV_tell_changed dc_tell_changed pm_tell_changed cd_tell_changed ct_tell_changed : Value}
    {f_tell_change : Addr} {od_tell_change an_tell_change : Option Addr} {sl_tell_change : Array (Option Value)} {oc_tell_change kV_tell_change dc_tell_change pm_tell_change cd_tell_change ct_tell_change : Value}
    {f_tell_changes : Addr} {od_tell_changes an_tell_changes : Option Addr} {sl_tell_changes : Array (Option Value)} {oc_tell_changes kV_tell_changes dc_tell_changes pm_tell_changes cd_tell_changes ct_tell_changes : Value}
    {f_tell_trend : Addr} {od_tell_trend an_tell_trend : Option Addr} {sl_tell_trend : Array (Option Value)} {oc_tell_trend kV_tell_trend dc_tell_trend pm_tell_trend cd_tell_trend ct_tell_trend : Value}
    {f_tell_weather_and_sky : Addr} {od_tell_weather_and_sky an_tell_weather_and_sky : Option Addr} {sl_tell_weather_and_sky : Array (Option Value)} {oc_tell_weather_and_sky kV_tell_weather_and_sky dc_tell_weather_and_sky pm_tell_weather_and_sky cd_tell_weather_and_sky ct_tell_weather_and_sky : Value}
    {f_tell_report : Addr} {od_tell_report an_tell_report : Option Addr} {sl_tell_report : Array (Option Value)} {oc_tell_report kV_tell_report dc_tell_report pm_tell_report cd_tell_report ct_tell_report : Value}
    {f_m_at_end : Addr} {od_m_at_end an_m_at_end : Option Addr} {sl_m_at_end : Array (Option Value)} {oc_m_at_end kV_m_at_end dc_m_at_end pm_m_at_end cd_m_at_end ct_m_at_end : Value}
    {f_m_take : Addr} {od_m_take an_m_take : Option Addr} {sl_m_take : Array (Option Value)} {oc_m_take kV_m_take dc_m_take pm_m_take cd_m_take ct_m_take : Value}
    {f_m_passes : Addr} {od_m_passes an_m_passes : Option Addr} {sl_m_passes : Array (Option Value)} {oc_m_passes kV_m_passes dc_m_passes pm_m_passes cd_m_passes ct_m_passes : Value}
    {f_init : Addr} {od_init an_init : Option Addr} {sl_init : Array (Option Value)} {oc_init kV_init dc_init pm_init cd_init ct_init : Value}
    {f_write : Addr} {od_write an_write : Option Addr} {sl_write : Array (Option Value)} {oc_write kV_write dc_write pm_write cd_write ct_write : Value}
    {t_VARIABLE : Tok}
    {t_MOST_KINDS : Tok}
    {t_NEITHER : Tok}
    {t_MOST_LAYERS : Tok}
    {t_OVERCAST : Tok}
    {t_LETTERS : Tok}
    {s_LETTERS : Str}
    {t_FROM : Tok}
    {s_FROM : Str}
    {t_TILL : Tok}
    {s_TILL : Str}
    {t_CAVOK : Tok}
    {t_CAVOK_WORD : Tok}
    {s_CAVOK_WORD : Str}
    {t_MOST_DEGREES : Tok}
    {t_LEAST_PRESSURE : Tok}
    {t_MOST_PRESSURE : Tok}
    {t_MOST_SPEED : Tok}
    {t_NO_SECTOR : Tok}
    {t_MOST_HUNDREDS : Tok}
    {t_CLEAR : Tok}
    {t_UPRIGHT : Tok}
    {t_LAYERED : Tok}
    {t_CLEAR_WORD : Tok}
    {s_CLEAR_WORD : Str}
    {t_MOST_UPRIGHT : Tok}
    {t_LIGHT : Tok}
    {t_HEAVY : Tok}
    {t_MOST_WORDS : Tok}
    {t_NO_WEATHER_WORD : Tok}
    {s_NO_WEATHER_WORD : Str}
    {t_NOT_TOLD : Tok}
    {t_MOST_CHANGES : Tok}
    {t_NOTHING_MORE : Tok}
    {t_CHANGES : Tok}
    {t_NO_CHANGE_WORD : Tok}
    {s_NO_CHANGE_WORD : Str}
    {t_MOST_NUMBERS : Tok}
    {t_OUT_OF_BOUNDS : Tok}
    {p_RAIN_KINDS : Addr} {its_RAIN_KINDS : Array Value} {n_RAIN_KINDS : Nat} {sl_RAIN_KINDS : Array (Option Value)}
    {p_COVERS : Addr} {its_COVERS : Array Value} {n_COVERS : Nat} {sl_COVERS : Array (Option Value)}
    {p_CLOUDS : Addr} {its_CLOUDS : Array Value} {n_CLOUDS : Nat} {sl_CLOUDS : Array (Option Value)}
    {p_STRENGTHS : Addr} {its_STRENGTHS : Array Value} {n_STRENGTHS : Nat} {sl_STRENGTHS : Array (Option Value)}
    {p_MANNERS : Addr} {its_MANNERS : Array Value} {n_MANNERS : Nat} {sl_MANNERS : Array (Option Value)}
    {p_OTHER_KINDS : Addr} {its_OTHER_KINDS : Array Value} {n_OTHER_KINDS : Nat} {sl_OTHER_KINDS : Array (Option Value)}
    {p_MANNERS_OF_CHANGE : Addr} {its_MANNERS_OF_CHANGE : Array Value} {n_MANNERS_OF_CHANGE : Nat} {sl_MANNERS_OF_CHANGE : Array (Option Value)}
    (aC : PySem.W.nsIn K mainGlobals "Figures" = some (some (.ref C)))
    (aX : PySem.W.nsIn K mainGlobals "NotNumbers" = some (some (.ref XC)))
    (a_metres_fit : PySem.W.nsIn K mainGlobals "metres_fit" = some (some (.ref f_metres_fit)))
    (l_metres_fit : K.lookup f_metres_fit = some ⟨oc_metres_fit, od_metres_fit, .func (PySem.W.fnOf "metres_fit" "metres_fit" (defArgs st_metres_fit) (defBody st_metres_fit) (defScope st_metres_fit) .none kV_metres_fit dc_metres_fit pm_metres_fit an_metres_fit cd_metres_fit ct_metres_fit), sl_metres_fit⟩)
    (c_metres_fit : PySem.W.codeIn K cd_metres_fit "metres_fit" = true)
    (k_metres_fit : PySem.W.keepIn K (.ref f_metres_fit) = true)
    (a_direction_fits : PySem.W.nsIn K mainGlobals "direction_fits" = some (some (.ref f_direction_fits)))
    (l_direction_fits : K.lookup f_direction_fits = some ⟨oc_direction_fits, od_direction_fits, .func (PySem.W.fnOf "direction_fits" "direction_fits" (defArgs st_direction_fits) (defBody st_direction_fits) (defScope st_direction_fits) .none kV_direction_fits dc_direction_fits pm_direction_fits an_direction_fits cd_direction_fits ct_direction_fits), sl_direction_fits⟩)
    (c_direction_fits : PySem.W.codeIn K cd_direction_fits "direction_fits" = true)
    (k_direction_fits : PySem.W.keepIn K (.ref f_direction_fits) = true)
    (a_wind_fits : PySem.W.nsIn K mainGlobals "wind_fits" = some (some (.ref f_wind_fits)))
    (l_wind_fits : K.lookup f_wind_fits = some ⟨oc_wind_fits, od_wind_fits, .func (PySem.W.fnOf "wind_fits" "wind_fits" (defArgs st_wind_fits) (defBody st_wind_fits) (defScope st_wind_fits) .none kV_wind_fits dc_wind_fits pm_wind_fits an_wind_fits cd_wind_fits ct_wind_fits), sl_wind_fits⟩)
    (c_wind_fits : PySem.W.codeIn K cd_wind_fits "wind_fits" = true)
    (k_wind_fits : PySem.W.keepIn K (.ref f_wind_fits) = true)
    (a_may_have_sector : PySem.W.nsIn K mainGlobals "may_have_sector" = some (some (.ref f_may_have_sector)))
    (l_may_have_sector : K.lookup f_may_have_sector = some ⟨oc_may_have_sector, od_may_have_sector, .func (PySem.W.fnOf "may_have_sector" "may_have_sector" (defArgs st_may_have_sector) (defBody st_may_have_sector) (defScope st_may_have_sector) .none kV_may_have_sector dc_may_have_sector pm_may_have_sector an_may_have_sector cd_may_have_sector ct_may_have_sector), sl_may_have_sector⟩)
    (c_may_have_sector : PySem.W.codeIn K cd_may_have_sector "may_have_sector" = true)
    (k_may_have_sector : PySem.W.keepIn K (.ref f_may_have_sector) = true)
    (a_all_rain : PySem.W.nsIn K mainGlobals "all_rain" = some (some (.ref f_all_rain)))
    (l_all_rain : K.lookup f_all_rain = some ⟨oc_all_rain, od_all_rain, .func (PySem.W.fnOf "all_rain" "all_rain" (defArgs st_all_rain) (defBody st_all_rain) (defScope st_all_rain) .none kV_all_rain dc_all_rain pm_all_rain an_all_rain cd_all_rain ct_all_rain), sl_all_rain⟩)
    (c_all_rain : PySem.W.codeIn K cd_all_rain "all_rain" = true)
    (k_all_rain : PySem.W.keepIn K (.ref f_all_rain) = true)
    (a_kinds_fit : PySem.W.nsIn K mainGlobals "kinds_fit" = some (some (.ref f_kinds_fit)))
    (l_kinds_fit : K.lookup f_kinds_fit = some ⟨oc_kinds_fit, od_kinds_fit, .func (PySem.W.fnOf "kinds_fit" "kinds_fit" (defArgs st_kinds_fit) (defBody st_kinds_fit) (defScope st_kinds_fit) .none kV_kinds_fit dc_kinds_fit pm_kinds_fit an_kinds_fit cd_kinds_fit ct_kinds_fit), sl_kinds_fit⟩)
    (c_kinds_fit : PySem.W.codeIn K cd_kinds_fit "kinds_fit" = true)
    (k_kinds_fit : PySem.W.keepIn K (.ref f_kinds_fit) = true)
    (a_strength_fits : PySem.W.nsIn K mainGlobals "strength_fits" = some (some (.ref f_strength_fits)))
    (l_strength_fits : K.lookup f_strength_fits = some ⟨oc_strength_fits, od_strength_fits, .func (PySem.W.fnOf "strength_fits" "strength_fits" (defArgs st_strength_fits) (defBody st_strength_fits) (defScope st_strength_fits) .none kV_strength_fits dc_strength_fits pm_strength_fits an_strength_fits cd_strength_fits ct_strength_fits), sl_strength_fits⟩)
    (c_strength_fits : PySem.W.codeIn K cd_strength_fits "strength_fits" = true)
    (k_strength_fits : PySem.W.keepIn K (.ref f_strength_fits) = true)
    (a_manner_fits : PySem.W.nsIn K mainGlobals "manner_fits" = some (some (.ref f_manner_fits)))
    (l_manner_fits : K.lookup f_manner_fits = some ⟨oc_manner_fits, od_manner_fits, .func (PySem.W.fnOf "manner_fits" "manner_fits" (defArgs st_manner_fits) (defBody st_manner_fits) (defScope st_manner_fits) .none kV_manner_fits dc_manner_fits pm_manner_fits an_manner_fits cd_manner_fits ct_manner_fits), sl_manner_fits⟩)
    (c_manner_fits : PySem.W.codeIn K cd_manner_fits "manner_fits" = true)
    (k_manner_fits : PySem.W.keepIn K (.ref f_manner_fits) = true)
    (a_weather_fits : PySem.W.nsIn K mainGlobals "weather_fits" = some (some (.ref f_weather_fits)))
    (l_weather_fits : K.lookup f_weather_fits = some ⟨oc_weather_fits, od_weather_fits, .func (PySem.W.fnOf "weather_fits" "weather_fits" (defArgs st_weather_fits) (defBody st_weather_fits) (defScope st_weather_fits) .none kV_weather_fits dc_weather_fits pm_weather_fits an_weather_fits cd_weather_fits ct_weather_fits), sl_weather_fits⟩)
    (c_weather_fits : PySem.W.codeIn K cd_weather_fits "weather_fits" = true)
    (k_weather_fits : PySem.W.keepIn K (.ref f_weather_fits) = true)
    (a_layer_follows : PySem.W.nsIn K mainGlobals "layer_follows" = some (some (.ref f_layer_follows)))
    (l_layer_follows : K.lookup f_layer_follows = some ⟨oc_layer_follows, od_layer_follows, .func (PySem.W.fnOf "layer_follows" "layer_follows" (defArgs st_layer_follows) (defBody st_layer_follows) (defScope st_layer_follows) .none kV_layer_follows dc_layer_follows pm_layer_follows an_layer_follows cd_layer_follows ct_layer_follows), sl_layer_follows⟩)
    (c_layer_follows : PySem.W.codeIn K cd_layer_follows "layer_follows" = true)
    (k_layer_follows : PySem.W.keepIn K (.ref f_layer_follows) = true)
    (a_insist : PySem.W.nsIn K mainGlobals "insist" = some (some (.ref f_insist)))
    (l_insist : K.lookup f_insist = some ⟨oc_insist, od_insist, .func (PySem.W.fnOf "insist" "insist" (defArgs st_insist) (defBody st_insist) (defScope st_insist) .none kV_insist dc_insist pm_insist an_insist cd_insist ct_insist), sl_insist⟩)
    (c_insist : PySem.W.codeIn K cd_insist "insist" = true)
    (k_insist : PySem.W.keepIn K (.ref f_insist) = true)
    (a_digits : PySem.W.nsIn K mainGlobals "digits" = some (some (.ref f_digits)))
    (l_digits : K.lookup f_digits = some ⟨oc_digits, od_digits, .func (PySem.W.fnOf "digits" "digits" (defArgs st_digits) (defBody st_digits) (defScope st_digits) .none kV_digits dc_digits pm_digits an_digits cd_digits ct_digits), sl_digits⟩)
    (c_digits : PySem.W.codeIn K cd_digits "digits" = true)
    (k_digits : PySem.W.keepIn K (.ref f_digits) = true)
    (a_tell_station : PySem.W.nsIn K mainGlobals "tell_station" = some (some (.ref f_tell_station)))
    (l_tell_station : K.lookup f_tell_station = some ⟨oc_tell_station, od_tell_station, .func (PySem.W.fnOf "tell_station" "tell_station" (defArgs st_tell_station) (defBody st_tell_station) (defScope st_tell_station) .none kV_tell_station dc_tell_station pm_tell_station an_tell_station cd_tell_station ct_tell_station), sl_tell_station⟩)
    (c_tell_station : PySem.W.codeIn K cd_tell_station "tell_station" = true)
    (k_tell_station : PySem.W.keepIn K (.ref f_tell_station) = true)
    (a_tell_moment : PySem.W.nsIn K mainGlobals "tell_moment" = some (some (.ref f_tell_moment)))
    (l_tell_moment : K.lookup f_tell_moment = some ⟨oc_tell_moment, od_tell_moment, .func (PySem.W.fnOf "tell_moment" "tell_moment" (defArgs st_tell_moment) (defBody st_tell_moment) (defScope st_tell_moment) .none kV_tell_moment dc_tell_moment pm_tell_moment an_tell_moment cd_tell_moment ct_tell_moment), sl_tell_moment⟩)
    (c_tell_moment : PySem.W.codeIn K cd_tell_moment "tell_moment" = true)
    (k_tell_moment : PySem.W.keepIn K (.ref f_tell_moment) = true)
    (a_tell_marked_minutes : PySem.W.nsIn K mainGlobals "tell_marked_minutes" = some (some (.ref f_tell_marked_minutes)))
    (l_tell_marked_minutes : K.lookup f_tell_marked_minutes = some ⟨oc_tell_marked_minutes, od_tell_marked_minutes, .func (PySem.W.fnOf "tell_marked_minutes" "tell_marked_minutes" (defArgs st_tell_marked_minutes) (defBody st_tell_marked_minutes) (defScope st_tell_marked_minutes) .none kV_tell_marked_minutes dc_tell_marked_minutes pm_tell_marked_minutes an_tell_marked_minutes cd_tell_marked_minutes ct_tell_marked_minutes), sl_tell_marked_minutes⟩)
    (c_tell_marked_minutes : PySem.W.codeIn K cd_tell_marked_minutes "tell_marked_minutes" = true)
    (k_tell_marked_minutes : PySem.W.keepIn K (.ref f_tell_marked_minutes) = true)
    (a_tell_from : PySem.W.nsIn K mainGlobals "tell_from" = some (some (.ref f_tell_from)))
    (l_tell_from : K.lookup f_tell_from = some ⟨oc_tell_from, od_tell_from, .func (PySem.W.fnOf "tell_from" "tell_from" (defArgs st_tell_from) (defBody st_tell_from) (defScope st_tell_from) .none kV_tell_from dc_tell_from pm_tell_from an_tell_from cd_tell_from ct_tell_from), sl_tell_from⟩)
    (c_tell_from : PySem.W.codeIn K cd_tell_from "tell_from" = true)
    (k_tell_from : PySem.W.keepIn K (.ref f_tell_from) = true)
    (a_tell_till : PySem.W.nsIn K mainGlobals "tell_till" = some (some (.ref f_tell_till)))
    (l_tell_till : K.lookup f_tell_till = some ⟨oc_tell_till, od_tell_till, .func (PySem.W.fnOf "tell_till" "tell_till" (defArgs st_tell_till) (defBody st_tell_till) (defScope st_tell_till) .none kV_tell_till dc_tell_till pm_tell_till an_tell_till cd_tell_till ct_tell_till), sl_tell_till⟩)
    (c_tell_till : PySem.W.codeIn K cd_tell_till "tell_till" = true)
    (k_tell_till : PySem.W.keepIn K (.ref f_tell_till) = true)
    (a_tell_sight : PySem.W.nsIn K mainGlobals "tell_sight" = some (some (.ref f_tell_sight)))
    (l_tell_sight : K.lookup f_tell_sight = some ⟨oc_tell_sight, od_tell_sight, .func (PySem.W.fnOf "tell_sight" "tell_sight" (defArgs st_tell_sight) (defBody st_tell_sight) (defScope st_tell_sight) .none kV_tell_sight dc_tell_sight pm_tell_sight an_tell_sight cd_tell_sight ct_tell_sight), sl_tell_sight⟩)
    (c_tell_sight : PySem.W.codeIn K cd_tell_sight "tell_sight" = true)
    (k_tell_sight : PySem.W.keepIn K (.ref f_tell_sight) = true)
    (a_degree_text : PySem.W.nsIn K mainGlobals "degree_text" = some (some (.ref f_degree_text)))
    (l_degree_text : K.lookup f_degree_text = some ⟨oc_degree_text, od_degree_text, .func (PySem.W.fnOf "degree_text" "degree_text" (defArgs st_degree_text) (defBody st_degree_text) (defScope st_degree_text) .none kV_degree_text dc_degree_text pm_degree_text an_degree_text cd_degree_text ct_degree_text), sl_degree_text⟩)
    (c_degree_text : PySem.W.codeIn K cd_degree_text "degree_text" = true)
    (k_degree_text : PySem.W.keepIn K (.ref f_degree_text) = true)
    (a_tell_degrees : PySem.W.nsIn K mainGlobals "tell_degrees" = some (some (.ref f_tell_degrees)))
    (l_tell_degrees : K.lookup f_tell_degrees = some ⟨oc_tell_degrees, od_tell_degrees, .func (PySem.W.fnOf "tell_degrees" "tell_degrees" (defArgs st_tell_degrees) (defBody st_tell_degrees) (defScope st_tell_degrees) .none kV_tell_degrees dc_tell_degrees pm_tell_degrees an_tell_degrees cd_tell_degrees ct_tell_degrees), sl_tell_degrees⟩)
    (c_tell_degrees : PySem.W.codeIn K cd_tell_degrees "tell_degrees" = true)
    (k_tell_degrees : PySem.W.keepIn K (.ref f_tell_degrees) = true)
    (a_tell_pressure : PySem.W.nsIn K mainGlobals "tell_pressure" = some (some (.ref f_tell_pressure)))
    (l_tell_pressure : K.lookup f_tell_pressure = some ⟨oc_tell_pressure, od_tell_pressure, .func (PySem.W.fnOf "tell_pressure" "tell_pressure" (defArgs st_tell_pressure) (defBody st_tell_pressure) (defScope st_tell_pressure) .none kV_tell_pressure dc_tell_pressure pm_tell_pressure an_tell_pressure cd_tell_pressure ct_tell_pressure), sl_tell_pressure⟩)
    (c_tell_pressure : PySem.W.codeIn K cd_tell_pressure "tell_pressure" = true)
    (k_tell_pressure : PySem.W.keepIn K (.ref f_tell_pressure) = true)
    (a_fitting_wind : PySem.W.nsIn K mainGlobals "fitting_wind" = some (some (.ref f_fitting_wind)))
    (l_fitting_wind : K.lookup f_fitting_wind = some ⟨oc_fitting_wind, od_fitting_wind, .func (PySem.W.fnOf "fitting_wind" "fitting_wind" (defArgs st_fitting_wind) (defBody st_fitting_wind) (defScope st_fitting_wind) .none kV_fitting_wind dc_fitting_wind pm_fitting_wind an_fitting_wind cd_fitting_wind ct_fitting_wind), sl_fitting_wind⟩)
    (c_fitting_wind : PySem.W.codeIn K cd_fitting_wind "fitting_wind" = true)
    (k_fitting_wind : PySem.W.keepIn K (.ref f_fitting_wind) = true)
    (a_wind_text : PySem.W.nsIn K mainGlobals "wind_text" = some (some (.ref f_wind_text)))
    (l_wind_text : K.lookup f_wind_text = some ⟨oc_wind_text, od_wind_text, .func (PySem.W.fnOf "wind_text" "wind_text" (defArgs st_wind_text) (defBody st_wind_text) (defScope st_wind_text) .none kV_wind_text dc_wind_text pm_wind_text an_wind_text cd_wind_text ct_wind_text), sl_wind_text⟩)
    (c_wind_text : PySem.W.codeIn K cd_wind_text "wind_text" = true)
    (k_wind_text : PySem.W.keepIn K (.ref f_wind_text) = true)
    (a_tell_wind : PySem.W.nsIn K mainGlobals "tell_wind" = some (some (.ref f_tell_wind)))
    (l_tell_wind : K.lookup f_tell_wind = some ⟨oc_tell_wind, od_tell_wind, .func (PySem.W.fnOf "tell_wind" "tell_wind" (defArgs st_tell_wind) (defBody st_tell_wind) (defScope st_tell_wind) .none kV_tell_wind dc_tell_wind pm_tell_wind an_tell_wind cd_tell_wind ct_tell_wind), sl_tell_wind⟩)
    (c_tell_wind : PySem.W.codeIn K cd_tell_wind "tell_wind" = true)
    (k_tell_wind : PySem.W.keepIn K (.ref f_tell_wind) = true)
    (a_tell_sector : PySem.W.nsIn K mainGlobals "tell_sector" = some (some (.ref f_tell_sector)))
    (l_tell_sector : K.lookup f_tell_sector = some ⟨oc_tell_sector, od_tell_sector, .func (PySem.W.fnOf "tell_sector" "tell_sector" (defArgs st_tell_sector) (defBody st_tell_sector) (defScope st_tell_sector) .none kV_tell_sector dc_tell_sector pm_tell_sector an_tell_sector cd_tell_sector ct_tell_sector), sl_tell_sector⟩)
    (c_tell_sector : PySem.W.codeIn K cd_tell_sector "tell_sector" = true)
    (k_tell_sector : PySem.W.keepIn K (.ref f_tell_sector) = true)
    (a_tell_wind_and_sector : PySem.W.nsIn K mainGlobals "tell_wind_and_sector" = some (some (.ref f_tell_wind_and_sector)))
    (l_tell_wind_and_sector : K.lookup f_tell_wind_and_sector = some ⟨oc_tell_wind_and_sector, od_tell_wind_and_sector, .func (PySem.W.fnOf "tell_wind_and_sector" "tell_wind_and_sector" (defArgs st_tell_wind_and_sector) (defBody st_tell_wind_and_sector) (defScope st_tell_wind_and_sector) .none kV_tell_wind_and_sector dc_tell_wind_and_sector pm_tell_wind_and_sector an_tell_wind_and_sector cd_tell_wind_and_sector ct_tell_wind_and_sector), sl_tell_wind_and_sector⟩)
    (c_tell_wind_and_sector : PySem.W.codeIn K cd_tell_wind_and_sector "tell_wind_and_sector" = true)
    (k_tell_wind_and_sector : PySem.W.keepIn K (.ref f_tell_wind_and_sector) = true)
    (a_layer_text : PySem.W.nsIn K mainGlobals "layer_text" = some (some (.ref f_layer_text)))
    (l_layer_text : K.lookup f_layer_text = some ⟨oc_layer_text, od_layer_text, .func (PySem.W.fnOf "layer_text" "layer_text" (defArgs st_layer_text) (defBody st_layer_text) (defScope st_layer_text) .none kV_layer_text dc_layer_text pm_layer_text an_layer_text cd_layer_text ct_layer_text), sl_layer_text⟩)
    (c_layer_text : PySem.W.codeIn K cd_layer_text "layer_text" = true)
    (k_layer_text : PySem.W.keepIn K (.ref f_layer_text) = true)
    (a_tell_layers : PySem.W.nsIn K mainGlobals "tell_layers" = some (some (.ref f_tell_layers)))
    (l_tell_layers : K.lookup f_tell_layers = some ⟨oc_tell_layers, od_tell_layers, .func (PySem.W.fnOf "tell_layers" "tell_layers" (defArgs st_tell_layers) (defBody st_tell_layers) (defScope st_tell_layers) .none kV_tell_layers dc_tell_layers pm_tell_layers an_tell_layers cd_tell_layers ct_tell_layers), sl_tell_layers⟩)
    (c_tell_layers : PySem.W.codeIn K cd_tell_layers "tell_layers" = true)
    (k_tell_layers : PySem.W.keepIn K (.ref f_tell_layers) = true)
    (a_tell_sky : PySem.W.nsIn K mainGlobals "tell_sky" = some (some (.ref f_tell_sky)))
    (l_tell_sky : K.lookup f_tell_sky = some ⟨oc_tell_sky, od_tell_sky, .func (PySem.W.fnOf "tell_sky" "tell_sky" (defArgs st_tell_sky) (defBody st_tell_sky) (defScope st_tell_sky) .none kV_tell_sky dc_tell_sky pm_tell_sky an_tell_sky cd_tell_sky ct_tell_sky), sl_tell_sky⟩)
    (c_tell_sky : PySem.W.codeIn K cd_tell_sky "tell_sky" = true)
    (k_tell_sky : PySem.W.keepIn K (.ref f_tell_sky) = true)
    (a_tell_weather_word : PySem.W.nsIn K mainGlobals "tell_weather_word" = some (some (.ref f_tell_weather_word)))
    (l_tell_weather_word : K.lookup f_tell_weather_word = some ⟨oc_tell_weather_word, od_tell_weather_word, .func (PySem.W.fnOf "tell_weather_word" "tell_weather_word" (defArgs st_tell_weather_word) (defBody st_tell_weather_word) (defScope st_tell_weather_word) .none kV_tell_weather_word dc_tell_weather_word pm_tell_weather_word an_tell_weather_word cd_tell_weather_word ct_tell_weather_word), sl_tell_weather_word⟩)
    (c_tell_weather_word : PySem.W.codeIn K cd_tell_weather_word "tell_weather_word" = true)
    (k_tell_weather_word : PySem.W.keepIn K (.ref f_tell_weather_word) = true)
    (a_tell_weather : PySem.W.nsIn K mainGlobals "tell_weather" = some (some (.ref f_tell_weather)))
    (l_tell_weather : K.lookup f_tell_weather = some ⟨oc_tell_weather, od_tell_weather, .func (PySem.W.fnOf "tell_weather" "tell_weather" (defArgs st_tell_weather) (defBody st_tell_weather) (defScope st_tell_weather) .none kV_tell_weather dc_tell_weather pm_tell_weather an_tell_weather cd_tell_weather ct_tell_weather), sl_tell_weather⟩)
    (c_tell_weather : PySem.W.codeIn K cd_tell_weather "tell_weather" = true)
    (k_tell_weather : PySem.W.keepIn K (.ref f_tell_weather) = true)
    (a_tell_changed_weather : PySem.W.nsIn K mainGlobals "tell_changed_weather" = some (some (.ref f_tell_changed_weather)))
    (l_tell_changed_weather : K.lookup f_tell_changed_weather = some ⟨oc_tell_changed_weather, od_tell_changed_weather, .func (PySem.W.fnOf "tell_changed_weather" "tell_changed_weather" (defArgs st_tell_changed_weather) (defBody st_tell_changed_weather) (defScope st_tell_changed_weather) .none kV_tell_changed_weather dc_tell_changed_weather pm_tell_changed_weather an_tell_changed_weather cd_tell_changed_weather ct_tell_changed_weather), sl_tell_changed_weather⟩)
    (c_tell_changed_weather : PySem.W.codeIn K cd_tell_changed_weather "tell_changed_weather" = true)
    (k_tell_changed_weather : PySem.W.keepIn K (.ref f_tell_changed_weather) = true)
    (a_tell_changed_wind : PySem.W.nsIn K mainGlobals "tell_changed_wind" = some (some (.ref f_tell_changed_wind)))
    (l_tell_changed_wind : K.lookup f_tell_changed_wind = some ⟨oc_tell_changed_wind, od_tell_changed_wind, .func (PySem.W.fnOf "tell_changed_wind" "tell_changed_wind" (defArgs st_tell_changed_wind) (defBody st_tell_changed_wind) (defScope st_tell_changed_wind) .none kV_tell_changed_wind dc_tell_changed_wind pm_tell_changed_wind an_tell_changed_wind cd_tell_changed_wind ct_tell_changed_wind), sl_tell_changed_wind⟩)
    (c_tell_changed_wind : PySem.W.codeIn K cd_tell_changed_wind "tell_changed_wind" = true)
    (k_tell_changed_wind : PySem.W.keepIn K (.ref f_tell_changed_wind) = true)
    (a_told_if_any : PySem.W.nsIn K mainGlobals "told_if_any" = some (some (.ref f_told_if_any)))
    (l_told_if_any : K.lookup f_told_if_any = some ⟨oc_told_if_any, od_told_if_any, .func (PySem.W.fnOf "told_if_any" "told_if_any" (defArgs st_told_if_any) (defBody st_told_if_any) (defScope st_told_if_any) .none kV_told_if_any dc_told_if_any pm_told_if_any an_told_if_any cd_told_if_any ct_told_if_any), sl_told_if_any⟩)
    (c_told_if_any : PySem.W.codeIn K cd_told_if_any "told_if_any" = true)
    (k_told_if_any : PySem.W.keepIn K (.ref f_told_if_any) = true)
    (a_tell_changed : PySem.W.nsIn K mainGlobals "tell_changed" = some (some (.ref f_tell_changed)))
    (l_tell_changed : K.lookup f_tell_changed = some ⟨oc_tell_changed, od_tell_changed, .func (PySem.W.fnOf "tell_changed" "tell_changed" (defArgs st_tell_changed) (defBody st_tell_changed) (defScope st_tell_changed) .none kV_tell_changed dc_tell_changed pm_tell_changed an_tell_changed cd_tell_changed ct_tell_changed), sl_tell_changed⟩)
    (c_tell_changed : PySem.W.codeIn K cd_tell_changed "tell_changed" = true)
    (k_tell_changed : PySem.W.keepIn K (.ref f_tell_changed) = true)
    (a_tell_change : PySem.W.nsIn K mainGlobals "tell_change" = some (some (.ref f_tell_change)))
    (l_tell_change : K.lookup f_tell_change = some ⟨oc_tell_change, od_tell_change, .func (PySem.W.fnOf "tell_change" "tell_change" (defArgs st_tell_change) (defBody st_tell_change) (defScope st_tell_change) .none kV_tell_change dc_tell_change pm_tell_change an_tell_change cd_tell_change ct_tell_change), sl_tell_change⟩)
    (c_tell_change : PySem.W.codeIn K cd_tell_change "tell_change" = true)
    (k_tell_change : PySem.W.keepIn K (.ref f_tell_change) = true)
    (a_tell_changes : PySem.W.nsIn K mainGlobals "tell_changes" = some (some (.ref f_tell_changes)))
    (l_tell_changes : K.lookup f_tell_changes = some ⟨oc_tell_changes, od_tell_changes, .func (PySem.W.fnOf "tell_changes" "tell_changes" (defArgs st_tell_changes) (defBody st_tell_changes) (defScope st_tell_changes) .none kV_tell_changes dc_tell_changes pm_tell_changes an_tell_changes cd_tell_changes ct_tell_changes), sl_tell_changes⟩)
    (c_tell_changes : PySem.W.codeIn K cd_tell_changes "tell_changes" = true)
    (k_tell_changes : PySem.W.keepIn K (.ref f_tell_changes) = true)
    (a_tell_trend : PySem.W.nsIn K mainGlobals "tell_trend" = some (some (.ref f_tell_trend)))
    (l_tell_trend : K.lookup f_tell_trend = some ⟨oc_tell_trend, od_tell_trend, .func (PySem.W.fnOf "tell_trend" "tell_trend" (defArgs st_tell_trend) (defBody st_tell_trend) (defScope st_tell_trend) .none kV_tell_trend dc_tell_trend pm_tell_trend an_tell_trend cd_tell_trend ct_tell_trend), sl_tell_trend⟩)
    (c_tell_trend : PySem.W.codeIn K cd_tell_trend "tell_trend" = true)
    (k_tell_trend : PySem.W.keepIn K (.ref f_tell_trend) = true)
    (a_tell_weather_and_sky : PySem.W.nsIn K mainGlobals "tell_weather_and_sky" = some (some (.ref f_tell_weather_and_sky)))
    (l_tell_weather_and_sky : K.lookup f_tell_weather_and_sky = some ⟨oc_tell_weather_and_sky, od_tell_weather_and_sky, .func (PySem.W.fnOf "tell_weather_and_sky" "tell_weather_and_sky" (defArgs st_tell_weather_and_sky) (defBody st_tell_weather_and_sky) (defScope st_tell_weather_and_sky) .none kV_tell_weather_and_sky dc_tell_weather_and_sky pm_tell_weather_and_sky an_tell_weather_and_sky cd_tell_weather_and_sky ct_tell_weather_and_sky), sl_tell_weather_and_sky⟩)
    (c_tell_weather_and_sky : PySem.W.codeIn K cd_tell_weather_and_sky "tell_weather_and_sky" = true)
    (k_tell_weather_and_sky : PySem.W.keepIn K (.ref f_tell_weather_and_sky) = true)
    (a_tell_report : PySem.W.nsIn K mainGlobals "tell_report" = some (some (.ref f_tell_report)))
    (l_tell_report : K.lookup f_tell_report = some ⟨oc_tell_report, od_tell_report, .func (PySem.W.fnOf "tell_report" "tell_report" (defArgs st_tell_report) (defBody st_tell_report) (defScope st_tell_report) .none kV_tell_report dc_tell_report pm_tell_report an_tell_report cd_tell_report ct_tell_report), sl_tell_report⟩)
    (c_tell_report : PySem.W.codeIn K cd_tell_report "tell_report" = true)
    (k_tell_report : PySem.W.keepIn K (.ref f_tell_report) = true)
    (a_m_at_end : PySem.W.findIn K (.ref C) "at_end" = some (some (.ref f_m_at_end)))
    (i_m_at_end : PySem.W.isFn K (.ref f_m_at_end) = true)
    (l_m_at_end : K.lookup f_m_at_end = some ⟨oc_m_at_end, od_m_at_end, .func (PySem.W.fnOf "at_end" "Figures.at_end" (defArgs st_fg_at_end) (defBody st_fg_at_end) (defScope st_fg_at_end) .none kV_m_at_end dc_m_at_end pm_m_at_end an_m_at_end cd_m_at_end ct_m_at_end), sl_m_at_end⟩)
    (c_m_at_end : PySem.W.codeIn K cd_m_at_end "Figures.at_end" = true)
    (k_m_at_end : PySem.W.keepIn K (.ref f_m_at_end) = true)
    (a_m_take : PySem.W.findIn K (.ref C) "take" = some (some (.ref f_m_take)))
    (i_m_take : PySem.W.isFn K (.ref f_m_take) = true)
    (l_m_take : K.lookup f_m_take = some ⟨oc_m_take, od_m_take, .func (PySem.W.fnOf "take" "Figures.take" (defArgs st_fg_take) (defBody st_fg_take) (defScope st_fg_take) .none kV_m_take dc_m_take pm_m_take an_m_take cd_m_take ct_m_take), sl_m_take⟩)
    (c_m_take : PySem.W.codeIn K cd_m_take "Figures.take" = true)
    (k_m_take : PySem.W.keepIn K (.ref f_m_take) = true)
    (a_m_passes : PySem.W.findIn K (.ref C) "passes" = some (some (.ref f_m_passes)))
    (i_m_passes : PySem.W.isFn K (.ref f_m_passes) = true)
    (l_m_passes : K.lookup f_m_passes = some ⟨oc_m_passes, od_m_passes, .func (PySem.W.fnOf "passes" "Figures.passes" (defArgs st_fg_passes) (defBody st_fg_passes) (defScope st_fg_passes) .none kV_m_passes dc_m_passes pm_m_passes an_m_passes cd_m_passes ct_m_passes), sl_m_passes⟩)
    (c_m_passes : PySem.W.codeIn K cd_m_passes "Figures.passes" = true)
    (k_m_passes : PySem.W.keepIn K (.ref f_m_passes) = true)
    (a_init : PySem.W.findIn K (.ref C) "__init__" = some (some (.ref f_init)))
    (i_init : PySem.W.isFn K (.ref f_init) = true)
    (l_init : K.lookup f_init = some ⟨oc_init, od_init, .func (PySem.W.fnOf "__init__" "Figures.__init__" (defArgs st_fg___init__) (defBody st_fg___init__) (defScope st_fg___init__) .none kV_init dc_init pm_init an_init cd_init ct_init), sl_init⟩)
    (c_init : PySem.W.codeIn K cd_init "Figures.__init__" = true)
    (k_init : PySem.W.keepIn K (.ref f_init) = true)
    (a_write : PySem.W.nsIn K mainGlobals "write" = some (some (.ref f_write)))
    (l_write : K.lookup f_write = some ⟨oc_write, od_write, .func (PySem.W.fnOf "write" "write" (defArgs st_write) (defBody st_write) (defScope st_write) .none kV_write dc_write pm_write an_write cd_write ct_write), sl_write⟩)
    (c_write : PySem.W.codeIn K cd_write "write" = true)
    (k_write : PySem.W.keepIn K (.ref f_write) = true)
    (b_VARIABLE : PySem.W.nsIn K mainGlobals "VARIABLE" = some (some (.int 999 t_VARIABLE)))
    (b_MOST_KINDS : PySem.W.nsIn K mainGlobals "MOST_KINDS" = some (some (.int 3 t_MOST_KINDS)))
    (b_NEITHER : PySem.W.nsIn K mainGlobals "NEITHER" = some (some (.int 1 t_NEITHER)))
    (b_MOST_LAYERS : PySem.W.nsIn K mainGlobals "MOST_LAYERS" = some (some (.int 4 t_MOST_LAYERS)))
    (b_OVERCAST : PySem.W.nsIn K mainGlobals "OVERCAST" = some (some (.int 4 t_OVERCAST)))
    (b_LETTERS : PySem.W.nsIn K mainGlobals "LETTERS" = some (some (.str s_LETTERS t_LETTERS)))
    (e_LETTERS : V.str s_LETTERS = strV lettersT)
    (b_FROM : PySem.W.nsIn K mainGlobals "FROM" = some (some (.str s_FROM t_FROM)))
    (e_FROM : V.str s_FROM = .str (Str.ofString "FM"))
    (b_TILL : PySem.W.nsIn K mainGlobals "TILL" = some (some (.str s_TILL t_TILL)))
    (e_TILL : V.str s_TILL = .str (Str.ofString "TL"))
    (b_CAVOK : PySem.W.nsIn K mainGlobals "CAVOK" = some (some (.int 10000 t_CAVOK)))
    (b_CAVOK_WORD : PySem.W.nsIn K mainGlobals "CAVOK_WORD" = some (some (.str s_CAVOK_WORD t_CAVOK_WORD)))
    (e_CAVOK_WORD : V.str s_CAVOK_WORD = .str (Str.ofString "CAVOK"))
    (b_MOST_DEGREES : PySem.W.nsIn K mainGlobals "MOST_DEGREES" = some (some (.int 60 t_MOST_DEGREES)))
    (b_LEAST_PRESSURE : PySem.W.nsIn K mainGlobals "LEAST_PRESSURE" = some (some (.int 850 t_LEAST_PRESSURE)))
    (b_MOST_PRESSURE : PySem.W.nsIn K mainGlobals "MOST_PRESSURE" = some (some (.int 1100 t_MOST_PRESSURE)))
    (b_MOST_SPEED : PySem.W.nsIn K mainGlobals "MOST_SPEED" = some (some (.int 99 t_MOST_SPEED)))
    (b_NO_SECTOR : PySem.W.nsIn K mainGlobals "NO_SECTOR" = some (some (.int 999 t_NO_SECTOR)))
    (b_MOST_HUNDREDS : PySem.W.nsIn K mainGlobals "MOST_HUNDREDS" = some (some (.int 300 t_MOST_HUNDREDS)))
    (b_CLEAR : PySem.W.nsIn K mainGlobals "CLEAR" = some (some (.int 0 t_CLEAR)))
    (b_UPRIGHT : PySem.W.nsIn K mainGlobals "UPRIGHT" = some (some (.int 1 t_UPRIGHT)))
    (b_LAYERED : PySem.W.nsIn K mainGlobals "LAYERED" = some (some (.int 2 t_LAYERED)))
    (b_CLEAR_WORD : PySem.W.nsIn K mainGlobals "CLEAR_WORD" = some (some (.str s_CLEAR_WORD t_CLEAR_WORD)))
    (e_CLEAR_WORD : V.str s_CLEAR_WORD = .str (Str.ofString "NSC"))
    (b_MOST_UPRIGHT : PySem.W.nsIn K mainGlobals "MOST_UPRIGHT" = some (some (.int 100 t_MOST_UPRIGHT)))
    (b_LIGHT : PySem.W.nsIn K mainGlobals "LIGHT" = some (some (.int 0 t_LIGHT)))
    (b_HEAVY : PySem.W.nsIn K mainGlobals "HEAVY" = some (some (.int 2 t_HEAVY)))
    (b_MOST_WORDS : PySem.W.nsIn K mainGlobals "MOST_WORDS" = some (some (.int 3 t_MOST_WORDS)))
    (b_NO_WEATHER_WORD : PySem.W.nsIn K mainGlobals "NO_WEATHER_WORD" = some (some (.str s_NO_WEATHER_WORD t_NO_WEATHER_WORD)))
    (e_NO_WEATHER_WORD : V.str s_NO_WEATHER_WORD = .str (Str.ofString "NSW"))
    (b_NOT_TOLD : PySem.W.nsIn K mainGlobals "NOT_TOLD" = some (some (.int (-1) t_NOT_TOLD)))
    (b_MOST_CHANGES : PySem.W.nsIn K mainGlobals "MOST_CHANGES" = some (some (.int 3 t_MOST_CHANGES)))
    (b_NOTHING_MORE : PySem.W.nsIn K mainGlobals "NOTHING_MORE" = some (some (.int 0 t_NOTHING_MORE)))
    (b_CHANGES : PySem.W.nsIn K mainGlobals "CHANGES" = some (some (.int 2 t_CHANGES)))
    (b_NO_CHANGE_WORD : PySem.W.nsIn K mainGlobals "NO_CHANGE_WORD" = some (some (.str s_NO_CHANGE_WORD t_NO_CHANGE_WORD)))
    (e_NO_CHANGE_WORD : V.str s_NO_CHANGE_WORD = .str (Str.ofString "NOSIG"))
    (b_MOST_NUMBERS : PySem.W.nsIn K mainGlobals "MOST_NUMBERS" = some (some (.int 256 t_MOST_NUMBERS)))
    (b_OUT_OF_BOUNDS : PySem.W.nsIn K mainGlobals "OUT_OF_BOUNDS" = some (some (.int (-22) t_OUT_OF_BOUNDS)))
    (b_RAIN_KINDS : PySem.W.nsIn K mainGlobals "RAIN_KINDS" = some (some (.ref p_RAIN_KINDS)))
    (l_RAIN_KINDS : K.lookup p_RAIN_KINDS = some ⟨.type "tuple", none, .seq its_RAIN_KINDS n_RAIN_KINDS, sl_RAIN_KINDS⟩)
    (z_RAIN_KINDS : its_RAIN_KINDS.size ≤ sizeLine)
    (v_RAIN_KINDS : Vals ((RAIN : List T).map strV) its_RAIN_KINDS.toList)
    (b_COVERS : PySem.W.nsIn K mainGlobals "COVERS" = some (some (.ref p_COVERS)))
    (l_COVERS : K.lookup p_COVERS = some ⟨.type "tuple", none, .seq its_COVERS n_COVERS, sl_COVERS⟩)
    (z_COVERS : its_COVERS.size ≤ sizeLine)
    (v_COVERS : Vals ((coversT : List T).map strV) its_COVERS.toList)
    (b_CLOUDS : PySem.W.nsIn K mainGlobals "CLOUDS" = some (some (.ref p_CLOUDS)))
    (l_CLOUDS : K.lookup p_CLOUDS = some ⟨.type "tuple", none, .seq its_CLOUDS n_CLOUDS, sl_CLOUDS⟩)
    (z_CLOUDS : its_CLOUDS.size ≤ sizeLine)
    (v_CLOUDS : Vals ((cloudsT : List T).map strV) its_CLOUDS.toList)
    (b_STRENGTHS : PySem.W.nsIn K mainGlobals "STRENGTHS" = some (some (.ref p_STRENGTHS)))
    (l_STRENGTHS : K.lookup p_STRENGTHS = some ⟨.type "tuple", none, .seq its_STRENGTHS n_STRENGTHS, sl_STRENGTHS⟩)
    (z_STRENGTHS : its_STRENGTHS.size ≤ sizeLine)
    (v_STRENGTHS : Vals ((strT : List T).map strV) its_STRENGTHS.toList)
    (b_MANNERS : PySem.W.nsIn K mainGlobals "MANNERS" = some (some (.ref p_MANNERS)))
    (l_MANNERS : K.lookup p_MANNERS = some ⟨.type "tuple", none, .seq its_MANNERS n_MANNERS, sl_MANNERS⟩)
    (z_MANNERS : its_MANNERS.size ≤ sizeLine)
    (v_MANNERS : Vals ((MANN : List T).map strV) its_MANNERS.toList)
    (b_OTHER_KINDS : PySem.W.nsIn K mainGlobals "OTHER_KINDS" = some (some (.ref p_OTHER_KINDS)))
    (l_OTHER_KINDS : K.lookup p_OTHER_KINDS = some ⟨.type "tuple", none, .seq its_OTHER_KINDS n_OTHER_KINDS, sl_OTHER_KINDS⟩)
    (z_OTHER_KINDS : its_OTHER_KINDS.size ≤ sizeLine)
    (v_OTHER_KINDS : Vals ((OTHR : List T).map strV) its_OTHER_KINDS.toList)
    (b_MANNERS_OF_CHANGE : PySem.W.nsIn K mainGlobals "MANNERS_OF_CHANGE" = some (some (.ref p_MANNERS_OF_CHANGE)))
    (l_MANNERS_OF_CHANGE : K.lookup p_MANNERS_OF_CHANGE = some ⟨.type "tuple", none, .seq its_MANNERS_OF_CHANGE n_MANNERS_OF_CHANGE, sl_MANNERS_OF_CHANGE⟩)
    (z_MANNERS_OF_CHANGE : its_MANNERS_OF_CHANGE.size ≤ sizeLine)
    (v_MANNERS_OF_CHANGE : Vals ((manT : List T).map strV) its_MANNERS_OF_CHANGE.toList)
    (n_len : PySem.W.nsIn K mainGlobals "len" = some none)
    (n_all : PySem.W.nsIn K mainGlobals "all" = some none)
    (n_ord : PySem.W.nsIn K mainGlobals "ord" = some none)
    (n_dict : PySem.W.nsIn K mainGlobals "dict" = some none)
    (n_int : PySem.W.nsIn K mainGlobals "int" = some none)
    (n_set : PySem.W.nsIn K mainGlobals "set" = some none)
    (n_range : PySem.W.nsIn K mainGlobals "range" = some none)
    (n_str : PySem.W.nsIn K mainGlobals "str" = some none)
    (pg : PySem.W.plainGet K C Str.empty = true)
    (hd : PySem.W.hasDictIn K C = true)
    (po : PySem.W.plainOver K C = true)
    (sa : PySem.W.findIn K (.ref C) "__setattr__" = some (some (.builtin "object.__setattr__")))
    (mk : PySem.W.makesIn K C = true)
    (kc : PySem.W.keepIn K (.ref C) = true)
    (nW : PySem.W.findIn K (.ref C) "numbers" = some none)
    (nP : PySem.W.findIn K (.ref C) "place" = some none)
    (ex : PySem.W.excIn K XC [.type "ValueError", .type "Exception", .type "BaseException", .type "object"] "ValueError.__new__" = true) :
    ∃ fd : FuncData, (∀ (s : Shared) (us : List Value), us.length = (["r"] : List Str).length → BindsTo s fd ⟨us, []⟩ ((["r"] : List Str).zip us)) ∧ ∀ base : Heap, K.In base → base.Ns mainGlobals mg → FnOk P w K mg base CX0 16 fa fd ["r"] (spWrite K) := by
  have e := hfa.symm.trans (PySem.W.mg_of X G a_write)
  cases e
  have T_metres_fit : TopFn K mg "metres_fit" st_metres_fit := tf X G a_metres_fit l_metres_fit c_metres_fit k_metres_fit
  have T_direction_fits : TopFn K mg "direction_fits" st_direction_fits := tf X G a_direction_fits l_direction_fits c_direction_fits k_direction_fits
  have T_wind_fits : TopFn K mg "wind_fits" st_wind_fits := tf X G a_wind_fits l_wind_fits c_wind_fits k_wind_fits
  have T_may_have_sector : TopFn K mg "may_have_sector" st_may_have_sector := tf X G a_may_have_sector l_may_have_sector c_may_have_sector k_may_have_sector
  have T_all_rain : TopFn K mg "all_rain" st_all_rain := tf X G a_all_rain l_all_rain c_all_rain k_all_rain
  have T_kinds_fit : TopFn K mg "kinds_fit" st_kinds_fit := tf X G a_kinds_fit l_kinds_fit c_kinds_fit k_kinds_fit
  have T_strength_fits : TopFn K mg "strength_fits" st_strength_fits := tf X G a_strength_fits l_strength_fits c_strength_fits k_strength_fits
  have T_manner_fits : TopFn K mg "manner_fits" st_manner_fits := tf X G a_manner_fits l_manner_fits c_manner_fits k_manner_fits
  have T_weather_fits : TopFn K mg "weather_fits" st_weather_fits := tf X G a_weather_fits l_weather_fits c_weather_fits k_weather_fits
  have T_layer_follows : TopFn K mg "layer_follows" st_layer_follows := tf X G a_layer_follows l_layer_follows c_layer_follows k_layer_follows
  have T_insist : TopFn K mg "insist" st_insist := tf X G a_insist l_insist c_insist k_insist
  have T_digits : TopFn K mg "digits" st_digits := tf X G a_digits l_digits c_digits k_digits
  have T_tell_station : TopFn K mg "tell_station" st_tell_station := tf X G a_tell_station l_tell_station c_tell_station k_tell_station
  have T_tell_moment : TopFn K mg "tell_moment" st_tell_moment := tf X G a_tell_moment l_tell_moment c_tell_moment k_tell_moment
  have T_tell_marked_minutes : TopFn K mg "tell_marked_minutes" st_tell_marked_minutes := tf X G a_tell_marked_minutes l_tell_marked_minutes c_tell_marked_minutes k_tell_marked_minutes
  have T_tell_from : TopFn K mg "tell_from" st_tell_from := tf X G a_tell_from l_tell_from c_tell_from k_tell_from
  have T_tell_till : TopFn K mg "tell_till" st_tell_till := tf X G a_tell_till l_tell_till c_tell_till k_tell_till
  have T_tell_sight : TopFn K mg "tell_sight" st_tell_sight := tf X G a_tell_sight l_tell_sight c_tell_sight k_tell_sight
  have T_degree_text : TopFn K mg "degree_text" st_degree_text := tf X G a_degree_text l_degree_text c_degree_text k_degree_text
  have T_tell_degrees : TopFn K mg "tell_degrees" st_tell_degrees := tf X G a_tell_degrees l_tell_degrees c_tell_degrees k_tell_degrees
  have T_tell_pressure : TopFn K mg "tell_pressure" st_tell_pressure := tf X G a_tell_pressure l_tell_pressure c_tell_pressure k_tell_pressure
  have T_fitting_wind : TopFn K mg "fitting_wind" st_fitting_wind := tf X G a_fitting_wind l_fitting_wind c_fitting_wind k_fitting_wind
  have T_wind_text : TopFn K mg "wind_text" st_wind_text := tf X G a_wind_text l_wind_text c_wind_text k_wind_text
  have T_tell_wind : TopFn K mg "tell_wind" st_tell_wind := tf X G a_tell_wind l_tell_wind c_tell_wind k_tell_wind
  have T_tell_sector : TopFn K mg "tell_sector" st_tell_sector := tf X G a_tell_sector l_tell_sector c_tell_sector k_tell_sector
  have T_tell_wind_and_sector : TopFn K mg "tell_wind_and_sector" st_tell_wind_and_sector := tf X G a_tell_wind_and_sector l_tell_wind_and_sector c_tell_wind_and_sector k_tell_wind_and_sector
  have T_layer_text : TopFn K mg "layer_text" st_layer_text := tf X G a_layer_text l_layer_text c_layer_text k_layer_text
  have T_tell_layers : TopFn K mg "tell_layers" st_tell_layers := tf X G a_tell_layers l_tell_layers c_tell_layers k_tell_layers
  have T_tell_sky : TopFn K mg "tell_sky" st_tell_sky := tf X G a_tell_sky l_tell_sky c_tell_sky k_tell_sky
  have T_tell_weather_word : TopFn K mg "tell_weather_word" st_tell_weather_word := tf X G a_tell_weather_word l_tell_weather_word c_tell_weather_word k_tell_weather_word
  have T_tell_weather : TopFn K mg "tell_weather" st_tell_weather := tf X G a_tell_weather l_tell_weather c_tell_weather k_tell_weather
  have T_tell_changed_weather : TopFn K mg "tell_changed_weather" st_tell_changed_weather := tf X G a_tell_changed_weather l_tell_changed_weather c_tell_changed_weather k_tell_changed_weather
  have T_tell_changed_wind : TopFn K mg "tell_changed_wind" st_tell_changed_wind := tf X G a_tell_changed_wind l_tell_changed_wind c_tell_changed_wind k_tell_changed_wind
  have T_told_if_any : TopFn K mg "told_if_any" st_told_if_any := tf X G a_told_if_any l_told_if_any c_told_if_any k_told_if_any
  have T_tell_changed : TopFn K mg "tell_changed" st_tell_changed := tf X G a_tell_changed l_tell_changed c_tell_changed k_tell_changed
  have T_tell_change : TopFn K mg "tell_change" st_tell_change := tf X G a_tell_change l_tell_change c_tell_change k_tell_change
  have T_tell_changes : TopFn K mg "tell_changes" st_tell_changes := tf X G a_tell_changes l_tell_changes c_tell_changes k_tell_changes
  have T_tell_trend : TopFn K mg "tell_trend" st_tell_trend := tf X G a_tell_trend l_tell_trend c_tell_trend k_tell_trend
  have T_tell_weather_and_sky : TopFn K mg "tell_weather_and_sky" st_tell_weather_and_sky := tf X G a_tell_weather_and_sky l_tell_weather_and_sky c_tell_weather_and_sky k_tell_weather_and_sky
  have T_tell_report : TopFn K mg "tell_report" st_tell_report := tf X G a_tell_report l_tell_report c_tell_report k_tell_report
  have TM_at_end : TopM K C "at_end" "Figures.at_end" st_fg_at_end := tm a_m_at_end i_m_at_end l_m_at_end c_m_at_end k_m_at_end
  have TM_take : TopM K C "take" "Figures.take" st_fg_take := tm a_m_take i_m_take l_m_take c_m_take k_m_take
  have TM_passes : TopM K C "passes" "Figures.passes" st_fg_passes := tm a_m_passes i_m_passes l_m_passes c_m_passes k_m_passes
  have g_VARIABLE : GV mg "VARIABLE" (.int 999) := gvi X G b_VARIABLE
  have g_MOST_KINDS : GV mg "MOST_KINDS" (.int 3) := gvi X G b_MOST_KINDS
  have g_NEITHER : GV mg "NEITHER" (.int 1) := gvi X G b_NEITHER
  have g_MOST_LAYERS : GV mg "MOST_LAYERS" (.int 4) := gvi X G b_MOST_LAYERS
  have g_OVERCAST : GV mg "OVERCAST" (.int 4) := gvi X G b_OVERCAST
  have g_LETTERS : GV mg "LETTERS" (strV lettersT) := e_LETTERS ▸ gvs X G b_LETTERS
  have g_FROM : GV mg "FROM" (.str (Str.ofString "FM")) := e_FROM ▸ gvs X G b_FROM
  have g_TILL : GV mg "TILL" (.str (Str.ofString "TL")) := e_TILL ▸ gvs X G b_TILL
  have g_CAVOK : GV mg "CAVOK" (.int 10000) := gvi X G b_CAVOK
  have g_CAVOK_WORD : GV mg "CAVOK_WORD" (.str (Str.ofString "CAVOK")) := e_CAVOK_WORD ▸ gvs X G b_CAVOK_WORD
  have g_MOST_DEGREES : GV mg "MOST_DEGREES" (.int 60) := gvi X G b_MOST_DEGREES
  have g_LEAST_PRESSURE : GV mg "LEAST_PRESSURE" (.int 850) := gvi X G b_LEAST_PRESSURE
  have g_MOST_PRESSURE : GV mg "MOST_PRESSURE" (.int 1100) := gvi X G b_MOST_PRESSURE
  have g_MOST_SPEED : GV mg "MOST_SPEED" (.int 99) := gvi X G b_MOST_SPEED
  have g_NO_SECTOR : GV mg "NO_SECTOR" (.int 999) := gvi X G b_NO_SECTOR
  have g_MOST_HUNDREDS : GV mg "MOST_HUNDREDS" (.int 300) := gvi X G b_MOST_HUNDREDS
  have g_CLEAR : GV mg "CLEAR" (.int 0) := gvi X G b_CLEAR
  have g_UPRIGHT : GV mg "UPRIGHT" (.int 1) := gvi X G b_UPRIGHT
  have g_LAYERED : GV mg "LAYERED" (.int 2) := gvi X G b_LAYERED
  have g_CLEAR_WORD : GV mg "CLEAR_WORD" (.str (Str.ofString "NSC")) := e_CLEAR_WORD ▸ gvs X G b_CLEAR_WORD
  have g_MOST_UPRIGHT : GV mg "MOST_UPRIGHT" (.int 100) := gvi X G b_MOST_UPRIGHT
  have g_LIGHT : GV mg "LIGHT" (.int 0) := gvi X G b_LIGHT
  have g_HEAVY : GV mg "HEAVY" (.int 2) := gvi X G b_HEAVY
  have g_MOST_WORDS : GV mg "MOST_WORDS" (.int 3) := gvi X G b_MOST_WORDS
  have g_NO_WEATHER_WORD : GV mg "NO_WEATHER_WORD" (.str (Str.ofString "NSW")) := e_NO_WEATHER_WORD ▸ gvs X G b_NO_WEATHER_WORD
  have g_NOT_TOLD : GV mg "NOT_TOLD" (.int (-1)) := gvi X G b_NOT_TOLD
  have g_MOST_CHANGES : GV mg "MOST_CHANGES" (.int 3) := gvi X G b_MOST_CHANGES
  have g_NOTHING_MORE : GV mg "NOTHING_MORE" (.int 0) := gvi X G b_NOTHING_MORE
  have g_CHANGES : GV mg "CHANGES" (.int 2) := gvi X G b_CHANGES
  have g_NO_CHANGE_WORD : GV mg "NO_CHANGE_WORD" (.str (Str.ofString "NOSIG")) := e_NO_CHANGE_WORD ▸ gvs X G b_NO_CHANGE_WORD
  have g_MOST_NUMBERS : GV mg "MOST_NUMBERS" (.int 256) := gvi X G b_MOST_NUMBERS
  have g_OUT_OF_BOUNDS : GV mg "OUT_OF_BOUNDS" (.int (-22)) := gvi X G b_OUT_OF_BOUNDS
  have tg_RAIN_KINDS : TG K mg "RAIN_KINDS" RAIN := tgv X G b_RAIN_KINDS l_RAIN_KINDS z_RAIN_KINDS v_RAIN_KINDS
  have tg_COVERS : TG K mg "COVERS" coversT := tgv X G b_COVERS l_COVERS z_COVERS v_COVERS
  have tg_CLOUDS : TG K mg "CLOUDS" cloudsT := tgv X G b_CLOUDS l_CLOUDS z_CLOUDS v_CLOUDS
  have tg_STRENGTHS : TG K mg "STRENGTHS" strT := tgv X G b_STRENGTHS l_STRENGTHS z_STRENGTHS v_STRENGTHS
  have tg_MANNERS : TG K mg "MANNERS" MANN := tgv X G b_MANNERS l_MANNERS z_MANNERS v_MANNERS
  have tg_OTHER_KINDS : TG K mg "OTHER_KINDS" OTHR := tgv X G b_OTHER_KINDS l_OTHER_KINDS z_OTHER_KINDS v_OTHER_KINDS
  have tg_MANNERS_OF_CHANGE : TG K mg "MANNERS_OF_CHANGE" manT := tgv X G b_MANNERS_OF_CHANGE l_MANNERS_OF_CHANGE z_MANNERS_OF_CHANGE v_MANNERS_OF_CHANGE
  have B : Bt mg := ⟨PySem.W.mg_none_of X G n_len, PySem.W.mg_none_of X G n_all, PySem.W.mg_none_of X G n_ord, PySem.W.mg_none_of X G n_dict, PySem.W.mg_none_of X G n_int, PySem.W.mg_none_of X G n_set, PySem.W.mg_none_of X G n_range, PySem.W.mg_none_of X G n_str⟩
  have CU : FigOk K mg C := ⟨⟨pg, hd, po, sa⟩, nW, nP, PySem.W.mg_of X G aC⟩
  have EX : ExcC K mg "NotNumbers" XC := ⟨PySem.W.mg_of X G aX, ex⟩
  have MkC : Mk K C f_init := ⟨mk, a_init, i_init, kc⟩
  have FI := fun_mk (st := st_fg___init__) l_init c_init k_init
  have FR := fun_mk (st := st_write) l_write c_write k_write
  exact ⟨PySem.W.fnOf "write" "write" (defArgs st_write) (defBody st_write) (defScope st_write) .none kV_write dc_write pm_write an_write cd_write ct_write, fun s us hu => match us, hu with | [_], _ => .of_eq rfl, fun base _ _ => all_fn T_metres_fit T_direction_fits T_wind_fits T_may_have_sector T_all_rain T_kinds_fit T_strength_fits T_manner_fits T_weather_fits T_layer_follows T_insist T_digits T_tell_station T_tell_moment T_tell_marked_minutes T_tell_from T_tell_till T_tell_sight T_degree_text T_tell_degrees T_tell_pressure T_fitting_wind T_wind_text T_tell_wind T_tell_sector T_tell_wind_and_sector T_layer_text T_tell_layers T_tell_sky T_tell_weather_word T_tell_weather T_tell_changed_weather T_tell_changed_wind T_told_if_any T_tell_changed T_tell_change T_tell_changes T_tell_trend T_tell_weather_and_sky T_tell_report TM_at_end TM_take TM_passes g_VARIABLE g_MOST_KINDS g_NEITHER g_MOST_LAYERS g_OVERCAST g_LETTERS g_FROM g_TILL g_CAVOK g_CAVOK_WORD g_MOST_DEGREES g_LEAST_PRESSURE g_MOST_PRESSURE g_MOST_SPEED g_NO_SECTOR g_MOST_HUNDREDS g_CLEAR g_UPRIGHT g_LAYERED g_CLEAR_WORD g_MOST_UPRIGHT g_LIGHT g_HEAVY g_MOST_WORDS g_NO_WEATHER_WORD g_NOT_TOLD g_MOST_CHANGES g_NOTHING_MORE g_CHANGES g_NO_CHANGE_WORD g_MOST_NUMBERS g_OUT_OF_BOUNDS tg_RAIN_KINDS tg_COVERS tg_CLOUDS tg_STRENGTHS tg_MANNERS tg_OTHER_KINDS tg_MANNERS_OF_CHANGE B CU EX MkC FI FR⟩
end My
end
namespace PySem.Challenge.cw_weathercode_s02_write_holds
theorem tw2473453634379132891 : True := trivial
theorem tw17277408445942373858 : True := trivial
theorem tw13257885973208719610 : True := trivial
theorem tw9324950360846519119 : True := trivial
theorem tw5366416277088014468 : True := trivial
theorem tw4254060895490505238 : True := trivial
theorem tw7930037918964938763 : True := trivial
theorem tw15246145934399838551 : True := trivial
theorem tw15809070573724391479 : True := trivial
theorem tw13178976922021707992 : True := trivial
theorem tw14458480178645688101 : True := trivial
theorem tw2377100760436103473 : True := trivial
theorem tw11024660807575488899 : True := trivial
theorem tw11324270535117203612 : True := trivial
theorem tw16704055724765146889 : True := trivial
theorem tw1290757174736163541 : True := trivial
theorem tw12412303644632520642 : True := trivial
theorem tw5504415775499468110 : True := trivial
theorem tw11509572750931559665 : True := trivial
theorem tw2713386490788206331 : True := trivial
theorem tw8330165725483020072 : True := trivial
theorem tw7023625385446616606 : True := trivial
theorem tw2882001960215516063 : True := trivial
theorem tw18405135946023780401 : True := trivial
theorem tw15447921387872048782 : True := trivial
theorem tw3104053667593119123 : True := trivial
theorem tw18347963869142300036 : True := trivial
theorem tw3175868760886919843 : True := trivial
theorem tw3925155863423468170 : True := trivial
theorem tw17637607417868775614 : True := trivial
theorem tw14858992254043684044 : True := trivial
theorem tw5545679063693126214 : True := trivial
theorem tw7926838698197346134 : True := trivial
theorem tw8235774867560544235 : True := trivial
theorem tw13155619948974471787 : True := trivial
theorem tw4603435407915579027 : True := trivial
theorem tw7593486319602892338 : True := trivial
theorem tw16952361317522261190 : True := trivial
theorem tw4762919197126015296 : True := trivial
theorem tw3366436238654377386 : True := trivial
theorem tw15702547687080928223 : True := trivial
theorem tw11145348526850171044 : True := trivial
theorem tw5710361674541961684 : True := trivial
theorem tw15163902668479546296 : True := trivial
theorem tw7758867386259810915 : True := trivial
theorem tw8297563186607803448 : True := trivial
theorem tw9136708248253755126 : True := trivial
theorem tw13205095362601443106 : True := trivial
theorem tw6902294018383041903 : True := trivial
theorem tw3060572517873035416 : True := trivial
theorem tw2699130020791533720 : True := trivial
theorem tw13262371617232120083 : True := trivial
theorem tw11284092086372538645 : True := trivial
theorem tw17496407031243117249 : True := trivial
theorem tw13709570897277255792 : True := trivial
theorem tw15052533954544027105 : True := trivial
theorem tw14939696531958987171 : True := trivial
theorem tw3997779738837570140 : True := trivial
theorem tw2684917869133683208 : True := trivial
theorem tw7349993407280073919 : True := trivial
end PySem.Challenge.cw_weathercode_s02_write_holds
open PySem PySem.W PyProof.Rows
set_option maxRecDepth 100000 in
set_option maxHeartbeats 0 in
theorem PySem.Challenge.cw_weathercode_s02_write_holds : PySem.Challenge.rw_weathercode_s02_write.Holds := by
  w_on; k_headS; (case hw => exact ⟨[.list []], by decide +kernel, by decide +kernel⟩)
  k_fillS
  refine L2.walk_specK (r := PySem.Challenge.rw_weathercode_s02_write) (k := 16) (CX := L2.CX0) (ps := ["r"]) (sp := My.spWrite) (by decide +kernel) rfl rfl ⟨rfl, by decide, by decide⟩ (fun w h Y => PySem.W.kIn_of Y) ?F ?S (fun _ _ _ _ z => z)
  case F =>
    intro w mg fa h Y KX G hmg
    refine' My.all_mk KX G hmg ?aC ?aX ?a_metres_fit ?l_metres_fit ?c_metres_fit ?k_metres_fit ?a_direction_fits ?l_direction_fits ?c_direction_fits ?k_direction_fits ?a_wind_fits ?l_wind_fits ?c_wind_fits ?k_wind_fits ?a_may_have_sector ?l_may_have_sector ?c_may_have_sector ?k_may_have_sector ?a_all_rain ?l_all_rain ?c_all_rain ?k_all_rain ?a_kinds_fit ?l_kinds_fit ?c_kinds_fit ?k_kinds_fit ?a_strength_fits ?l_strength_fits ?c_strength_fits ?k_strength_fits ?a_manner_fits ?l_manner_fits ?c_manner_fits ?k_manner_fits ?a_weather_fits ?l_weather_fits ?c_weather_fits ?k_weather_fits ?a_layer_follows ?l_layer_follows ?c_layer_follows ?k_layer_follows ?a_insist ?l_insist ?c_insist ?k_insist ?a_digits ?l_digits ?c_digits ?k_digits ?a_tell_station ?l_tell_station ?c_tell_station ?k_tell_station ?a_tell_moment ?l_tell_moment ?c_tell_moment ?k_tell_moment ?a_tell_marked_minutes ?l_tell_marked_minutes ?c_tell_marked_minutes ?k_tell_marked_minutes ?a_tell_from ?l_tell_from ?c_tell_from ?k_tell_from ?a_tell_till ?l_tell_till ?c_tell_till ?k_tell_till ?a_tell_sight ?l_tell_sight ?c_tell_sight ?k_tell_sight ?a_degree_text ?l_degree_text ?c_degree_text ?k_degree_text ?a_tell_degrees ?l_tell_degrees ?c_tell_degrees ?k_tell_degrees ?a_tell_pressure ?l_tell_pressure ?c_tell_pressure ?k_tell_pressure ?a_fitting_wind ?l_fitting_wind ?c_fitting_wind ?k_fitting_wind ?a_wind_text ?l_wind_text ?c_wind_text ?k_wind_text ?a_tell_wind ?l_tell_wind ?c_tell_wind ?k_tell_wind ?a_tell_sector ?l_tell_sector ?c_tell_sector ?k_tell_sector ?a_tell_wind_and_sector ?l_tell_wind_and_sector ?c_tell_wind_and_sector ?k_tell_wind_and_sector ?a_layer_text ?l_layer_text ?c_layer_text ?k_layer_text ?a_tell_layers ?l_tell_layers ?c_tell_layers ?k_tell_layers ?a_tell_sky ?l_tell_sky ?c_tell_sky ?k_tell_sky ?a_tell_weather_word ?l_tell_weather_word ?c_tell_weather_word ?k_tell_weather_word ?a_tell_weather ?l_tell_weather ?c_tell_weather ?k_tell_weather ?a_tell_changed_weather ?l_tell_changed_weather ?c_tell_changed_weather ?k_tell_changed_weather ?a_tell_changed_wind ?l_tell_changed_wind ?c_tell_changed_wind ?k_tell_changed_wind ?a_told_if_any ?l_told_if_any ?c_told_if_any ?k_told_if_any ?a_tell_changed ?l_tell_changed ?c_tell_changed ?k_tell_changed ?a_tell_change ?l_tell_change ?c_tell_change ?k_tell_change ?a_tell_changes ?l_tell_changes ?c_tell_changes ?k_tell_changes ?a_tell_trend ?l_tell_trend ?c_tell_trend ?k_tell_trend ?a_tell_weather_and_sky ?l_tell_weather_and_sky ?c_tell_weather_and_sky ?k_tell_weather_and_sky ?a_tell_report ?l_tell_report ?c_tell_report ?k_tell_report ?a_m_at_end ?i_m_at_end ?l_m_at_end ?c_m_at_end ?k_m_at_end ?a_m_take ?i_m_take ?l_m_take ?c_m_take ?k_m_take ?a_m_passes ?i_m_passes ?l_m_passes ?c_m_passes ?k_m_passes ?a_init ?i_init ?l_init ?c_init ?k_init ?a_write ?l_write ?c_write ?k_write ?b_VARIABLE ?b_MOST_KINDS ?b_NEITHER ?b_MOST_LAYERS ?b_OVERCAST ?b_LETTERS ?e_LETTERS ?b_FROM ?e_FROM ?b_TILL ?e_TILL ?b_CAVOK ?b_CAVOK_WORD ?e_CAVOK_WORD ?b_MOST_DEGREES ?b_LEAST_PRESSURE ?b_MOST_PRESSURE ?b_MOST_SPEED ?b_NO_SECTOR ?b_MOST_HUNDREDS ?b_CLEAR ?b_UPRIGHT ?b_LAYERED ?b_CLEAR_WORD ?e_CLEAR_WORD ?b_MOST_UPRIGHT ?b_LIGHT ?b_HEAVY ?b_MOST_WORDS ?b_NO_WEATHER_WORD ?e_NO_WEATHER_WORD ?b_NOT_TOLD ?b_MOST_CHANGES ?b_NOTHING_MORE ?b_CHANGES ?b_NO_CHANGE_WORD ?e_NO_CHANGE_WORD ?b_MOST_NUMBERS ?b_OUT_OF_BOUNDS ?b_RAIN_KINDS ?l_RAIN_KINDS ?z_RAIN_KINDS ?v_RAIN_KINDS ?b_COVERS ?l_COVERS ?z_COVERS ?v_COVERS ?b_CLOUDS ?l_CLOUDS ?z_CLOUDS ?v_CLOUDS ?b_STRENGTHS ?l_STRENGTHS ?z_STRENGTHS ?v_STRENGTHS ?b_MANNERS ?l_MANNERS ?z_MANNERS ?v_MANNERS ?b_OTHER_KINDS ?l_OTHER_KINDS ?z_OTHER_KINDS ?v_OTHER_KINDS ?b_MANNERS_OF_CHANGE ?l_MANNERS_OF_CHANGE ?z_MANNERS_OF_CHANGE ?v_MANNERS_OF_CHANGE ?n_len ?n_all ?n_ord ?n_dict ?n_int ?n_set ?n_range ?n_str ?pg ?hd ?po ?sa ?mk ?kc ?nW ?nP ?ex
    (case aC => k_is)
    (case aX => k_is)
    (case a_metres_fit => k_is)
    (case l_metres_fit => k_is)
    (case c_metres_fit => k_is)
    (case k_metres_fit => k_is)
    (case a_direction_fits => k_is)
    (case l_direction_fits => k_is)
    (case c_direction_fits => k_is)
    (case k_direction_fits => k_is)
    (case a_wind_fits => k_is)
    (case l_wind_fits => k_is)
    (case c_wind_fits => k_is)
    (case k_wind_fits => k_is)
    (case a_may_have_sector => k_is)
    (case l_may_have_sector => k_is)
    (case c_may_have_sector => k_is)
    (case k_may_have_sector => k_is)
    (case a_all_rain => k_is)
    (case l_all_rain => k_is)
    (case c_all_rain => k_is)
    (case k_all_rain => k_is)
    (case a_kinds_fit => k_is)
    (case l_kinds_fit => k_is)
    (case c_kinds_fit => k_is)
    (case k_kinds_fit => k_is)
    (case a_strength_fits => k_is)
    (case l_strength_fits => k_is)
    (case c_strength_fits => k_is)
    (case k_strength_fits => k_is)
    (case a_manner_fits => k_is)
    (case l_manner_fits => k_is)
    (case c_manner_fits => k_is)
    (case k_manner_fits => k_is)
    (case a_weather_fits => k_is)
    (case l_weather_fits => k_is)
    (case c_weather_fits => k_is)
    (case k_weather_fits => k_is)
    (case a_layer_follows => k_is)
    (case l_layer_follows => k_is)
    (case c_layer_follows => k_is)
    (case k_layer_follows => k_is)
    (case a_insist => k_is)
    (case l_insist => k_is)
    (case c_insist => k_is)
    (case k_insist => k_is)
    (case a_digits => k_is)
    (case l_digits => k_is)
    (case c_digits => k_is)
    (case k_digits => k_is)
    (case a_tell_station => k_is)
    (case l_tell_station => k_is)
    (case c_tell_station => k_is)
    (case k_tell_station => k_is)
    (case a_tell_moment => k_is)
    (case l_tell_moment => k_is)
    (case c_tell_moment => k_is)
    (case k_tell_moment => k_is)
    (case a_tell_marked_minutes => k_is)
    (case l_tell_marked_minutes => k_is)
    (case c_tell_marked_minutes => k_is)
    (case k_tell_marked_minutes => k_is)
    (case a_tell_from => k_is)
    (case l_tell_from => k_is)
    (case c_tell_from => k_is)
    (case k_tell_from => k_is)
    (case a_tell_till => k_is)
    (case l_tell_till => k_is)
    (case c_tell_till => k_is)
    (case k_tell_till => k_is)
    (case a_tell_sight => k_is)
    (case l_tell_sight => k_is)
    (case c_tell_sight => k_is)
    (case k_tell_sight => k_is)
    (case a_degree_text => k_is)
    (case l_degree_text => k_is)
    (case c_degree_text => k_is)
    (case k_degree_text => k_is)
    (case a_tell_degrees => k_is)
    (case l_tell_degrees => k_is)
    (case c_tell_degrees => k_is)
    (case k_tell_degrees => k_is)
    (case a_tell_pressure => k_is)
    (case l_tell_pressure => k_is)
    (case c_tell_pressure => k_is)
    (case k_tell_pressure => k_is)
    (case a_fitting_wind => k_is)
    (case l_fitting_wind => k_is)
    (case c_fitting_wind => k_is)
    (case k_fitting_wind => k_is)
    (case a_wind_text => k_is)
    (case l_wind_text => k_is)
    (case c_wind_text => k_is)
    (case k_wind_text => k_is)
    (case a_tell_wind => k_is)
    (case l_tell_wind => k_is)
    (case c_tell_wind => k_is)
    (case k_tell_wind => k_is)
    (case a_tell_sector => k_is)
    (case l_tell_sector => k_is)
    (case c_tell_sector => k_is)
    (case k_tell_sector => k_is)
    (case a_tell_wind_and_sector => k_is)
    (case l_tell_wind_and_sector => k_is)
    (case c_tell_wind_and_sector => k_is)
    (case k_tell_wind_and_sector => k_is)
    (case a_layer_text => k_is)
    (case l_layer_text => k_is)
    (case c_layer_text => k_is)
    (case k_layer_text => k_is)
    (case a_tell_layers => k_is)
    (case l_tell_layers => k_is)
    (case c_tell_layers => k_is)
    (case k_tell_layers => k_is)
    (case a_tell_sky => k_is)
    (case l_tell_sky => k_is)
    (case c_tell_sky => k_is)
    (case k_tell_sky => k_is)
    (case a_tell_weather_word => k_is)
    (case l_tell_weather_word => k_is)
    (case c_tell_weather_word => k_is)
    (case k_tell_weather_word => k_is)
    (case a_tell_weather => k_is)
    (case l_tell_weather => k_is)
    (case c_tell_weather => k_is)
    (case k_tell_weather => k_is)
    (case a_tell_changed_weather => k_is)
    (case l_tell_changed_weather => k_is)
    (case c_tell_changed_weather => k_is)
    (case k_tell_changed_weather => k_is)
    (case a_tell_changed_wind => k_is)
    (case l_tell_changed_wind => k_is)
    (case c_tell_changed_wind => k_is)
    (case k_tell_changed_wind => k_is)
    (case a_told_if_any => k_is)
    (case l_told_if_any => k_is)
    (case c_told_if_any => k_is)
    (case k_told_if_any => k_is)
    (case a_tell_changed => k_is)
    (case l_tell_changed => k_is)
    (case c_tell_changed => k_is)
    (case k_tell_changed => k_is)
    (case a_tell_change => k_is)
    (case l_tell_change => k_is)
    (case c_tell_change => k_is)
    (case k_tell_change => k_is)
    (case a_tell_changes => k_is)
    (case l_tell_changes => k_is)
    (case c_tell_changes => k_is)
    (case k_tell_changes => k_is)
    (case a_tell_trend => k_is)
    (case l_tell_trend => k_is)
    (case c_tell_trend => k_is)
    (case k_tell_trend => k_is)
    (case a_tell_weather_and_sky => k_is)
    (case l_tell_weather_and_sky => k_is)
    (case c_tell_weather_and_sky => k_is)
    (case k_tell_weather_and_sky => k_is)
    (case a_tell_report => k_is)
    (case l_tell_report => k_is)
    (case c_tell_report => k_is)
    (case k_tell_report => k_is)
    (case a_m_at_end => k_is)
    (case i_m_at_end => k_is)
    (case l_m_at_end => k_is)
    (case c_m_at_end => k_is)
    (case k_m_at_end => k_is)
    (case a_m_take => k_is)
    (case i_m_take => k_is)
    (case l_m_take => k_is)
    (case c_m_take => k_is)
    (case k_m_take => k_is)
    (case a_m_passes => k_is)
    (case i_m_passes => k_is)
    (case l_m_passes => k_is)
    (case c_m_passes => k_is)
    (case k_m_passes => k_is)
    (case a_init => k_is)
    (case i_init => k_is)
    (case l_init => k_is)
    (case c_init => k_is)
    (case k_init => k_is)
    (case a_write => k_is)
    (case l_write => k_is)
    (case c_write => k_is)
    (case k_write => k_is)
    (case b_VARIABLE => k_is)
    (case b_MOST_KINDS => k_is)
    (case b_NEITHER => k_is)
    (case b_MOST_LAYERS => k_is)
    (case b_OVERCAST => k_is)
    (case b_LETTERS => k_is)
    (case e_LETTERS => exact rfl)
    (case b_FROM => k_is)
    (case e_FROM => exact rfl)
    (case b_TILL => k_is)
    (case e_TILL => exact rfl)
    (case b_CAVOK => k_is)
    (case b_CAVOK_WORD => k_is)
    (case e_CAVOK_WORD => exact rfl)
    (case b_MOST_DEGREES => k_is)
    (case b_LEAST_PRESSURE => k_is)
    (case b_MOST_PRESSURE => k_is)
    (case b_MOST_SPEED => k_is)
    (case b_NO_SECTOR => k_is)
    (case b_MOST_HUNDREDS => k_is)
    (case b_CLEAR => k_is)
    (case b_UPRIGHT => k_is)
    (case b_LAYERED => k_is)
    (case b_CLEAR_WORD => k_is)
    (case e_CLEAR_WORD => exact rfl)
    (case b_MOST_UPRIGHT => k_is)
    (case b_LIGHT => k_is)
    (case b_HEAVY => k_is)
    (case b_MOST_WORDS => k_is)
    (case b_NO_WEATHER_WORD => k_is)
    (case e_NO_WEATHER_WORD => exact rfl)
    (case b_NOT_TOLD => k_is)
    (case b_MOST_CHANGES => k_is)
    (case b_NOTHING_MORE => k_is)
    (case b_CHANGES => k_is)
    (case b_NO_CHANGE_WORD => k_is)
    (case e_NO_CHANGE_WORD => exact rfl)
    (case b_MOST_NUMBERS => k_is)
    (case b_OUT_OF_BOUNDS => k_is)
    (case b_RAIN_KINDS => k_is)
    (case l_RAIN_KINDS => k_is)
    (case z_RAIN_KINDS => first | decide +kernel | exact Nat.le_of_ble_eq_true rfl)
    (case v_RAIN_KINDS => (repeat' constructor))
    (case b_COVERS => k_is)
    (case l_COVERS => k_is)
    (case z_COVERS => first | decide +kernel | exact Nat.le_of_ble_eq_true rfl)
    (case v_COVERS => (repeat' constructor))
    (case b_CLOUDS => k_is)
    (case l_CLOUDS => k_is)
    (case z_CLOUDS => first | decide +kernel | exact Nat.le_of_ble_eq_true rfl)
    (case v_CLOUDS => (repeat' constructor))
    (case b_STRENGTHS => k_is)
    (case l_STRENGTHS => k_is)
    (case z_STRENGTHS => first | decide +kernel | exact Nat.le_of_ble_eq_true rfl)
    (case v_STRENGTHS => (repeat' constructor))
    (case b_MANNERS => k_is)
    (case l_MANNERS => k_is)
    (case z_MANNERS => first | decide +kernel | exact Nat.le_of_ble_eq_true rfl)
    (case v_MANNERS => (repeat' constructor))
    (case b_OTHER_KINDS => k_is)
    (case l_OTHER_KINDS => k_is)
    (case z_OTHER_KINDS => first | decide +kernel | exact Nat.le_of_ble_eq_true rfl)
    (case v_OTHER_KINDS => (repeat' constructor))
    (case b_MANNERS_OF_CHANGE => k_is)
    (case l_MANNERS_OF_CHANGE => k_is)
    (case z_MANNERS_OF_CHANGE => first | decide +kernel | exact Nat.le_of_ble_eq_true rfl)
    (case v_MANNERS_OF_CHANGE => (repeat' constructor))
    (case n_len => k_is)
    (case n_all => k_is)
    (case n_ord => k_is)
    (case n_dict => k_is)
    (case n_int => k_is)
    (case n_set => k_is)
    (case n_range => k_is)
    (case n_str => k_is)
    (case pg => k_is)
    (case hd => k_is)
    (case po => k_is)
    (case sa => k_is)
    (case mk => k_is)
    (case kc => k_is)
    (case nW => k_is)
    (case nP => k_is)
    (case ex => k_exc)
  case S =>
    intro K H xs a hO hwi hask hx
    cases hx with
    | cons h1 h2 =>
      cases h2
      cases h1 with
      | lst hs ha =>
        have e := L2.ints_dw a.1 _ ha
        subst e
        have q : ((Codec.inLen 0 300 a.1 && a.1.all (Codec.inInt (-32768) 32767)) && true) = true := hwi
        rw [Bool.and_eq_true, Bool.and_eq_true] at q
        exact My.write_req hs (Codec.inNat_iff.mp q.1.1).2 (fun H' p hp => .lst (L2.SqL.of hp) (L2.dw_ints _))
